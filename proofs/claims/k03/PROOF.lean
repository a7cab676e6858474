import PyProof.Rows.All
import Wide.All
import OpenK.AllK
import Wide.FinOn
import HandS.ForMost
import HandS.ForExc
import HandS.Wide
import HandS.Gcd
import HandS.IsInst
import HandS.Defaults
import HandS.Flow
import HandS.EndBits
import PySem.Challenge.RW_valvelevels_k03_rests
import HandS.Evl
import HandS.Steps
import HandS.Walk
import HandS.Style
import PyProof.ReprRoads
import PyProof.ReprLen
set_option Elab.async false
set_option linter.all false
set_option maxRecDepth 100000
set_option maxHeartbeats 5000000
set_option exponentiation.threshold 100000
namespace V2
open PySem L2
/-! the text by its places -/
def topS (i : Nat) : Stmt := PySem.Challenge.pw_valvelevels_k03_rests.main.body.getD i (.Pass ⟨0, 0, 0, 0⟩)
abbrev s_cut : Stmt := topS 2
abbrev n_cut : List Str := ["numbers", "many"]
abbrev p_cut : List Str := ["numbers"]
theorem sc_cut : FnScope n_cut p_cut (defScope s_cut) := ⟨rfl, rfl, rfl, by decide +kernel, rfl, by decide +kernel, by decide +kernel⟩
abbrev s_content : Stmt := topS 3
abbrev n_content : List Str := ["one", "factor", "number"]
abbrev p_content : List Str := ["one"]
theorem sc_content : FnScope n_content p_content (defScope s_content) := ⟨rfl, rfl, rfl, by decide +kernel, rfl, by decide +kernel, by decide +kernel⟩
abbrev s_primitive : Stmt := topS 4
abbrev n_primitive : List Str := ["one", "factor", "number"]
abbrev p_primitive : List Str := ["one"]
theorem sc_primitive : FnScope n_primitive p_primitive (defScope s_primitive) := ⟨rfl, rfl, rfl, by decide +kernel, rfl, by decide +kernel, by decide +kernel⟩
abbrev s_remainder : Stmt := topS 5
abbrev n_remainder : List Str := ["one", "other", "left", "lead", "factor", "grow", "take", "behind", "taken", "number", "k"]
abbrev p_remainder : List Str := ["one", "other"]
theorem sc_remainder : FnScope n_remainder p_remainder (defScope s_remainder) := ⟨rfl, rfl, rfl, by decide +kernel, rfl, by decide +kernel, by decide +kernel⟩
abbrev s_copied : Stmt := topS 10
abbrev n_copied : List Str := ["thing", "part"]
abbrev p_copied : List Str := ["thing"]
theorem sc_copied : FnScope n_copied p_copied (defScope s_copied) := ⟨rfl, rfl, rfl, by decide +kernel, rfl, by decide +kernel, by decide +kernel⟩
abbrev s_is_integer : Stmt := topS 11
abbrev n_is_integer : List Str := ["thing"]
abbrev p_is_integer : List Str := ["thing"]
theorem sc_is_integer : FnScope n_is_integer p_is_integer (defScope s_is_integer) := ⟨rfl, rfl, rfl, by decide +kernel, rfl, by decide +kernel, by decide +kernel⟩
abbrev s_is_polynomial : Stmt := topS 12
abbrev n_is_polynomial : List Str := ["thing", "number"]
abbrev p_is_polynomial : List Str := ["thing"]
theorem sc_is_polynomial : FnScope n_is_polynomial p_is_polynomial (defScope s_is_polynomial) := ⟨rfl, rfl, rfl, by decide +kernel, rfl, by decide +kernel, by decide +kernel⟩
abbrev s_check_polynomials : Stmt := topS 13
abbrev n_check_polynomials : List Str := ["told", "one"]
abbrev p_check_polynomials : List Str := ["told"]
theorem sc_check_polynomials : FnScope n_check_polynomials p_check_polynomials (defScope s_check_polynomials) := ⟨rfl, rfl, rfl, by decide +kernel, rfl, by decide +kernel, by decide +kernel⟩
abbrev s_check_not_zero : Stmt := topS 14
abbrev n_check_not_zero : List Str := ["one"]
abbrev p_check_not_zero : List Str := ["one"]
theorem sc_check_not_zero : FnScope n_check_not_zero p_check_not_zero (defScope s_check_not_zero) := ⟨rfl, rfl, rfl, by decide +kernel, rfl, by decide +kernel, by decide +kernel⟩
abbrev s_rest : Stmt := topS 16
abbrev n_rest : List Str := ["one", "other"]
abbrev p_rest : List Str := ["one", "other"]
theorem sc_rest : FnScope n_rest p_rest (defScope s_rest) := ⟨rfl, rfl, rfl, by decide +kernel, rfl, by decide +kernel, by decide +kernel⟩
abbrev s_l_sack : Stmt := topS 18
abbrev n_l_sack : List Str := ["script", "rank", "cell"]
abbrev p_l_sack : List Str := ["script", "rank"]
theorem sc_l_sack : FnScope n_l_sack p_l_sack (defScope s_l_sack) := ⟨rfl, rfl, rfl, by decide +kernel, rfl, by decide +kernel, by decide +kernel⟩
abbrev s_l_coin : Stmt := topS 19
abbrev n_l_coin : List Str := ["sack", "many", "drawn", "stirred"]
abbrev p_l_coin : List Str := ["sack", "many"]
theorem sc_l_coin : FnScope n_l_coin p_l_coin (defScope s_l_coin) := ⟨rfl, rfl, rfl, by decide +kernel, rfl, by decide +kernel, by decide +kernel⟩
abbrev s_l_shared : Stmt := topS 20
abbrev n_l_shared : List Str := ["left", "right", "turn"]
abbrev p_l_shared : List Str := ["left", "right"]
theorem sc_l_shared : FnScope n_l_shared p_l_shared (defScope s_l_shared) := ⟨rfl, rfl, rfl, by decide +kernel, rfl, by decide +kernel, by decide +kernel⟩
abbrev s_l_ratio : Stmt := topS 21
abbrev n_l_ratio : List Str := ["up", "down", "shared"]
abbrev p_l_ratio : List Str := ["up", "down"]
theorem sc_l_ratio : FnScope n_l_ratio p_l_ratio (defScope s_l_ratio) := ⟨rfl, rfl, rfl, by decide +kernel, rfl, by decide +kernel, by decide +kernel⟩
abbrev s_l_add : Stmt := topS 22
abbrev n_l_add : List Str := ["left", "right"]
abbrev p_l_add : List Str := ["left", "right"]
theorem sc_l_add : FnScope n_l_add p_l_add (defScope s_l_add) := ⟨rfl, rfl, rfl, by decide +kernel, rfl, by decide +kernel, by decide +kernel⟩
abbrev s_l_mul : Stmt := topS 23
abbrev n_l_mul : List Str := ["left", "right"]
abbrev p_l_mul : List Str := ["left", "right"]
theorem sc_l_mul : FnScope n_l_mul p_l_mul (defScope s_l_mul) := ⟨rfl, rfl, rfl, by decide +kernel, rfl, by decide +kernel, by decide +kernel⟩
abbrev s_l_trim : Stmt := topS 24
abbrev n_l_trim : List Str := ["some", "size", "turn"]
abbrev p_l_trim : List Str := ["some"]
theorem sc_l_trim : FnScope n_l_trim p_l_trim (defScope s_l_trim) := ⟨rfl, rfl, rfl, by decide +kernel, rfl, by decide +kernel, by decide +kernel⟩
abbrev s_l_sum : Stmt := topS 25
abbrev n_l_sum : List Str := ["left", "right", "size", "k"]
abbrev p_l_sum : List Str := ["left", "right"]
theorem sc_l_sum : FnScope n_l_sum p_l_sum (defScope s_l_sum) := ⟨rfl, rfl, rfl, by decide +kernel, rfl, by decide +kernel, by decide +kernel⟩
abbrev s_l_product : Stmt := topS 26
abbrev n_l_product : List Str := ["left", "right", "found", "k", "piece", "m", "part"]
abbrev p_l_product : List Str := ["left", "right"]
theorem sc_l_product : FnScope n_l_product p_l_product (defScope s_l_product) := ⟨rfl, rfl, rfl, by decide +kernel, rfl, by decide +kernel, by decide +kernel⟩
abbrev s_l_thin : Stmt := topS 27
abbrev n_l_thin : List Str := ["poly", "shared", "piece"]
abbrev p_l_thin : List Str := ["poly"]
theorem sc_l_thin : FnScope n_l_thin p_l_thin (defScope s_l_thin) := ⟨rfl, rfl, rfl, by decide +kernel, rfl, by decide +kernel, by decide +kernel⟩
abbrev s_l_left : Stmt := topS 28
abbrev n_l_left : List Str := ["poly", "by", "piece", "found", "turn", "factor", "taken", "lowest", "k"]
abbrev p_l_left : List Str := ["poly", "by"]
theorem sc_l_left : FnScope n_l_left p_l_left (defScope s_l_left) := ⟨rfl, rfl, rfl, by decide +kernel, rfl, by decide +kernel, by decide +kernel⟩
abbrev s_l_poly : Stmt := topS 29
abbrev n_l_poly : List Str := ["sack", "size", "top", "found", "turn"]
abbrev p_l_poly : List Str := ["sack", "size"]
theorem sc_l_poly : FnScope n_l_poly p_l_poly (defScope s_l_poly) := ⟨rfl, rfl, rfl, by decide +kernel, rfl, by decide +kernel, by decide +kernel⟩
abbrev s_l_copied : Stmt := topS 30
abbrev n_l_copied : List Str := ["thing", "part"]
abbrev p_l_copied : List Str := ["thing"]
theorem sc_l_copied : FnScope n_l_copied p_l_copied (defScope s_l_copied) := ⟨rfl, rfl, rfl, by decide +kernel, rfl, by decide +kernel, by decide +kernel⟩
abbrev s_l_lists : Stmt := topS 31
abbrev n_l_lists : List Str := ["thing", "found", "part"]
abbrev p_l_lists : List Str := ["thing"]
theorem sc_l_lists : FnScope n_l_lists p_l_lists (defScope s_l_lists) := ⟨rfl, rfl, rfl, by decide +kernel, rfl, by decide +kernel, by decide +kernel⟩
abbrev s_l_marked : Stmt := topS 32
abbrev n_l_marked : List Str := ["thing", "some", "k"]
abbrev p_l_marked : List Str := ["thing"]
theorem sc_l_marked : FnScope n_l_marked p_l_marked (defScope s_l_marked) := ⟨rfl, rfl, rfl, by decide +kernel, rfl, by decide +kernel, by decide +kernel⟩
abbrev s_l_right : Stmt := topS 33
abbrev n_l_right : List Str := ["found", "due"]
abbrev p_l_right : List Str := ["found", "due"]
theorem sc_l_right : FnScope n_l_right p_l_right (defScope s_l_right) := ⟨rfl, rfl, rfl, by decide +kernel, rfl, by decide +kernel, by decide +kernel⟩
abbrev s_l_small : Stmt := topS 34
abbrev n_l_small : List Str := ["sack", "size", "found", "turn"]
abbrev p_l_small : List Str := ["sack", "size"]
theorem sc_l_small : FnScope n_l_small p_l_small (defScope s_l_small) := ⟨rfl, rfl, rfl, by decide +kernel, rfl, by decide +kernel, by decide +kernel⟩
abbrev s_l_checked : Stmt := topS 35
abbrev n_l_checked : List Str := ["sack", "left", "right", "kept", "due", "front", "short", "whole", "turn"]
abbrev p_l_checked : List Str := ["sack"]
theorem sc_l_checked : FnScope n_l_checked p_l_checked (defScope s_l_checked) := ⟨rfl, rfl, rfl, by decide +kernel, rfl, by decide +kernel, by decide +kernel⟩
abbrev s_law : Stmt := topS 36
abbrev n_law : List Str := ["script", "rank", "sack", "turn"]
abbrev p_law : List Str := ["script"]
theorem sc_law : FnScope n_law p_law (defScope s_law) := ⟨rfl, rfl, rfl, by decide +kernel, rfl, by decide +kernel, by decide +kernel⟩
end V2


namespace V2
open PySem L2
open PySem.Spec PyProof.Rows
/-! ## rules of our own -/
def CPowX (i j : Int) : Prop := 0 ≤ j ∧ (Builtin.Int.intBits i : Int) * j ≤ 2 ^ 27
theorem op_powX {X : Cx} : OpR X (binaryOp .Pow) (rI CPowX fun i j => .int (i ^ j.toNat)) :=
  opI fun _ _ _ _ _ _ _ hc q => pow_int hc.1 hc.2 q
theorem pow_ok {i : Int} {k n : Nat} (hi : i.natAbs < 2 ^ k) (h : k * n ≤ 134217728) : CPowX i (n : Int) := by
  (refine ⟨Int.natCast_nonneg _, ?_⟩)
  have h1 := intBits_le hi
  have h2 : Builtin.Int.intBits i * n ≤ k * n := Nat.mul_le_mul_right n h1
  have h3 : ((Builtin.Int.intBits i * n : Nat) : Int) ≤ 134217728 := by omega
  have e : (2 : Int) ^ 27 = 134217728 := (by decide)
  rw [e, ← Int.natCast_mul]
  exact h3
/-- all but the list at p is as it was (and there may be new things) -/
def But (p : Addr) (H H' : Hp) : Prop := ∀ b o, b ≠ p → H b = some o → H' b = some o
theorem But.refl (p : Addr) (H : Hp) : But p H H := fun _ _ _ h => h
theorem But.trans {p : Addr} {H H1 H2 : Hp} (a : But p H H1) (b : But p H1 H2) : But p H H2 := fun c o n h => b c o n (a c o n h)
theorem But.of_ex {p : Addr} {H H' : Hp} (e : Evl.Ex H H') : But p H H' := fun b o _ h => e b o h
theorem But.upd {p : Addr} {H : Hp} {o : HO} : But p H (upd H p o) := fun b u n h => by
  rw [upd_ne n]; exact h
/-- the law's sack at p: three ints, at most m draws so far -/
def Sk (H : Hp) (p : Addr) (m : Nat) : Prop := ∃ a b c : Int, H p = some (.lst [.int a, .int b, .int c]) ∧ 0 ≤ a ∧ 0 ≤ b ∧ b < 2 ^ 80 ∧ 0 ≤ c ∧ c ≤ m
theorem Sk.le {H : Hp} {p : Addr} {m n : Nat} (h : Sk H p m) (l : m ≤ n) : Sk H p n := by
  obtain ⟨a, b, c, h1, h2, h3, h4, h5, h6⟩ := h
  exact ⟨a, b, c, h1, h2, h3, h4, h5, by omega⟩
theorem Sk.ex {H H' : Hp} {p : Addr} {m : Nat} (h : Sk H p m) (e : Evl.Ex H H') : Sk H' p m := by
  obtain ⟨a, b, c, h1, h2⟩ := h
  exact ⟨a, b, c, e _ _ h1, h2⟩
/-- a draw: any number below many, the sack goes on -/
def spCoin : Sp := fun vs H Q _ => ∃ (p : Addr) (many : Int) (m : Nat), vs = [.ref p, .int many] ∧ Sk H p m ∧ m ≤ 100000 ∧ 0 < many ∧ many.natAbs < 2 ^ 200 ∧
  ∀ (r : Int) (H' : Hp), 0 ≤ r → r < many → But p H H' → Sk H' p (m + 1) → (∀ q, H q = none → H' q = none) → Q (.int r) H'
structure T0 (mg : Str → Option Value) : Prop where
  len : mg "len" = none
  max : mg "max" = none
  abs : mg "abs" = none
  int : mg "int" = none
theorem at0 {a b c : V} : atI [a, b, c] 0 = some a := by rfl
theorem at1 {a b c : V} : atI [a, b, c] 1 = some b := by rfl
theorem at2 {a b c : V} : atI [a, b, c] 2 = some c := by rfl
theorem ixN3 (j : Nat) (h : j < 3) : ixN 3 (j : Int) = some j := Evl.ixN_nat h
section
variable {base : Heap} {mg : Str → Option Value} {K : PySem.W.Frag} {w : World} {P : Program}
theorem ok_coin {f : Addr} {fd : FuncData} (F : Fun K "_law_pv_coin" "_law_pv_coin" s_l_coin f fd) (T : T0 mg) : FnOk P w K mg base CX0 1 f fd p_l_coin spCoin := by
  refine F.ok sc_l_coin (fun vs H Q E h => ?_) (fun cdv A outer s H vs Q E hr h => ?_)
  · obtain ⟨p, many, m, rfl, _⟩ := h
    rfl
  · obtain ⟨p, many, m, rfl, ⟨a, b, c, hp, ha, hb, hb2, hc, hc2⟩, hm, h0, h200, k⟩ := h
    have nd := sc_l_coin.nd
    refine ⟨_, pss_cons (ps_if (pt_cmpR op_gt (pe_ix ix_list (pv 0) pe_int (fun _ _ => rfl)) pe_int (nomark _))
        (pss_cons (ps_set (i := 2) nd rfl (Or.inl rfl) (pe_op op_mod (pe_callTy call_int1 (by rfl) T.int (by decide +kernel) (pa_cons (pe_ix ix_list (pv 0) pe_int (fun _ _ => rfl)) pa_nil)) (pv 1)))
        (pss_cons (ps_asg (pe_op op_fdivW (pe_ix ix_list (pv 0) pe_int (fun _ _ => rfl)) (pv 1)) (pg_sub (pv 0) pe_int set_list))
        (pss_one (ps_ret (pv 2))))) pss_nil)
      (pss_cons (ps_asg (pe_op op_add (pe_ix ix_list (pv 0) pe_int (fun _ _ => rfl)) pe_int) (pg_sub (pv 0) pe_int set_list))
      (pss_cons (ps_set (i := 3) nd rfl (Or.inl rfl) (pe_op op_mod (pe_op op_powX (pe_callTy call_int1 (by rfl) T.int (by decide +kernel) (pa_cons (pe_op op_add (pe_ix ix_list (pv 0) pe_int (fun _ _ => rfl)) (pe_op op_mul pe_int (pe_ix ix_list (pv 0) pe_int (fun _ _ => rfl)))) pa_nil)) pe_int) (pe_op op_add (pe_op op_powX pe_int pe_int) pe_int)))
      (pss_cons (ps_set (i := 3) nd rfl (Or.inl rfl) (pe_op op_mod (pe_op op_powX (pe_callTy call_int1 (by rfl) T.int (by decide +kernel) (pa_cons (pe_op op_add (pv 3) (pe_op op_mul pe_int (pe_ix ix_list (pv 0) pe_int (fun _ _ => rfl)))) pa_nil)) pe_int) (pe_op op_add (pe_op op_powX pe_int pe_int) pe_int)))
      (pss_one (ps_ret (pe_op op_mod (pe_callTy call_int1 (by rfl) T.int (by decide +kernel) (pa_cons (pe_op op_fdivW (pv 3) pe_int) pa_nil)) (pv 1))))))), ?_⟩
    refine ⟨_, rfl, p, _, _, _, rfl, rfl, SqL.of hp, at0, _, _, rfl, rfl, _, rfl, ?_⟩
    refine ite2 (fun q => ?_) (fun _ => ?_)
    · have q0 : 0 < a := by simpa using q
      refine ⟨_, rfl, p, _, _, _, rfl, rfl, SqL.of hp, at0, .inl ⟨_, rfl, _, rfl, _, _, rfl, rfl, h0, ?_⟩⟩
      refine ⟨_, rfl, p, _, _, _, rfl, rfl, SqL.of hp, at0, _, rfl, _, _, rfl, rfl, wide_div h0 h200 (by decide) (by decide), _, rfl, p, _, 0, 0, rfl, rfl, hp, ixN3 0 (by decide), ?_⟩
      refine ⟨_, rfl, k _ _ (Int.emod_nonneg _ (by omega)) (Int.emod_lt_of_pos _ h0) But.upd ⟨a / many, b, c, upd_same, Int.ediv_nonneg ha (by omega), hb, hb2, hc, by omega⟩ (fun q hq => ?_)⟩
      rw [upd_ne (fun z => by rw [z, hp] at hq; cases hq)]; exact hq
    · have e24 : ((10 : Int) ^ (24 : Int).toNat + 7) = 1000000000000000000000007 := by decide
      have e25 : ((10 : Int) ^ (25 : Int).toNat + 13) = 10000000000000000000000013 := by decide
      have p80 : (2 : Int) ^ 80 = 1208925819614629174706176 := by decide
      have n81 : (2 : Nat) ^ 81 = 2417851639229258349412352 := by decide
      have n85 : (2 : Nat) ^ 85 = 38685626227668133590597632 := by decide
      rw [p80] at hb2
      have w1 : CPowX (b + 1640531527 * (c + 1)) 3 := pow_ok (k := 81) (n := 3) (by rw [n81]; omega) (by decide)
      have w25 : CPowX 10 25 := pow_ok (k := 4) (n := 25) (by decide) (by decide)
      have w24 : CPowX 10 24 := pow_ok (k := 4) (n := 24) (by decide) (by decide)
      have hp2 : upd H p (.lst [.int a, .int b, .int (c + 1)]) p = some (.lst [.int a, .int b, .int (c + 1)]) := upd_same
      refine ⟨_, rfl, p, _, _, _, rfl, rfl, SqL.of hp, at2, _, _, rfl, rfl, _, rfl, p, _, 2, 2, rfl, rfl, hp, ixN3 2 (by decide), ?_⟩
      refine ⟨_, rfl, p, _, _, _, rfl, rfl, SqL.of hp2, at1, _, rfl, p, _, _, _, rfl, rfl, SqL.of hp2, at2, _, _, rfl, rfl, .inl ⟨by decide, by decide⟩, _, _, rfl, rfl, .inl ⟨_, rfl, ?_⟩⟩
      have g25 : (0 : Int) < 10 ^ (25 : Int).toNat + 13 := by rw [e25]; decide
      have g24 : (0 : Int) < 10 ^ (24 : Int).toNat + 7 := by rw [e24]; decide
      refine ⟨_, 3, rfl, rfl, w1, 10, 25, rfl, rfl, w25, _, 13, rfl, rfl, _, _, rfl, rfl, g25, ?_⟩
      have x0 : 0 ≤ (b + 1640531527 * (c + 1)) ^ (3 : Int).toNat % (10 ^ (25 : Int).toNat + 13) := Int.emod_nonneg _ (by omega)
      have x1 : (b + 1640531527 * (c + 1)) ^ (3 : Int).toNat % (10 ^ (25 : Int).toNat + 13) < 10000000000000000000000013 := by rw [← e25]; exact Int.emod_lt_of_pos _ g25
      have w2 : CPowX ((b + 1640531527 * (c + 1)) ^ (3 : Int).toNat % (10 ^ (25 : Int).toNat + 13) + 805459861 * (c + 1)) 2 := pow_ok (k := 85) (n := 2) (by rw [n85]; omega) (by decide)
      refine ⟨_, rfl, _, rfl, p, _, _, _, rfl, rfl, SqL.of hp2, at2, _, _, rfl, rfl, .inl ⟨by decide, by decide⟩, _, _, rfl, rfl, .inl ⟨_, rfl, ?_⟩⟩
      refine ⟨_, 2, rfl, rfl, w2, 10, 24, rfl, rfl, w24, _, 7, rfl, rfl, _, _, rfl, rfl, g24, ?_⟩
      refine ⟨_, rfl, _, 1024, rfl, rfl, wide_div (b := 11) (by decide) (by decide) (by decide) (by decide), .inl ⟨_, rfl, _, rfl, _, _, rfl, rfl, h0, ?_⟩⟩
      refine k _ _ (Int.emod_nonneg _ (by omega)) (Int.emod_lt_of_pos _ h0) But.upd ⟨a, b, c + 1, hp2, ha, hb, by rw [p80]; exact hb2, by omega, by omega⟩ (fun q hq => ?_)
      rw [upd_ne (fun z => by rw [z, hp] at hq; cases hq)]; exact hq
end
end V2


namespace V2
/-! ## plain mathematics -/
/-- how many zeros a list begins with -/
def zer : List Int → Nat
  | [] => 0
  | x :: r => if x = 0 then zer r + 1 else 0
theorem zer_le : ∀ l : List Int, zer l ≤ l.length
  | [] => Nat.le_refl _
  | x :: r => by
    unfold zer
    split
    · have := zer_le r; simp only [List.length_cons]; omega
    · exact Nat.zero_le _
theorem zer_in : ∀ (l : List Int) (j : Nat), j < zer l → l[j]? = some 0
  | [], j, h => absurd h (Nat.not_lt_zero _)
  | x :: r, j, h => by
    unfold zer at h
    split at h
    · rename_i e
      cases j with
      | zero => simp [e]
      | succ j => simpa using zer_in r j (by omega)
    · exact absurd h (Nat.not_lt_zero _)
theorem zer_at : ∀ (l : List Int), zer l < l.length → ∃ x, l[zer l]? = some x ∧ x ≠ 0
  | [], h => absurd h (Nat.not_lt_zero _)
  | x :: r, h => by
    unfold zer at h ⊢
    split
    · rename_i e
      rw [if_pos e, List.length_cons] at h
      obtain ⟨y, h1, h2⟩ := zer_at r (by omega)
      exact ⟨y, by simpa using h1, h2⟩
    · rename_i e
      exact ⟨x, rfl, e⟩
/-- how many zeros stand at the end -/
def tz (ns : List Int) : Nat := zer ns.reverse
theorem tz_le (ns : List Int) : tz ns ≤ ns.length := by
  have := zer_le ns.reverse
  rwa [List.length_reverse] at this
theorem tz_in (ns : List Int) (j : Nat) (h : j < tz ns) : ns[ns.length - 1 - j]? = some 0 := by
  have h1 := zer_in ns.reverse j h
  have h2 := tz_le ns
  rwa [List.getElem?_reverse (by omega)] at h1
theorem tz_at (ns : List Int) (h : tz ns < ns.length) : ∃ x, ns[ns.length - 1 - tz ns]? = some x ∧ x ≠ 0 := by
  have h1 := zer_at ns.reverse (by rwa [List.length_reverse])
  obtain ⟨x, h2, h3⟩ := h1
  refine ⟨x, ?_, h3⟩
  change ns.reverse[tz ns]? = some x at h2
  rwa [List.getElem?_reverse h] at h2
/-- without the zeros at the end -/
def trm (ns : List Int) : List Int := ns.take (ns.length - tz ns)
/-- no 0 at the end -/
def Pol (ns : List Int) : Prop := ∀ x, ns[ns.length - 1]? = some x → x ≠ 0
theorem tz_pol {ns : List Int} (h : Pol ns) : tz ns = 0 := by
  cases e : tz ns with
  | zero => rfl
  | succ k =>
    exact absurd rfl (h 0 (by have := tz_in ns 0 (by omega); simpa using this))
theorem trm_pol {ns : List Int} (h : Pol ns) : trm ns = ns := by
  unfold trm
  rw [tz_pol h, Nat.sub_zero, List.take_length]
theorem pol_trm (ns : List Int) : Pol (trm ns) := by
  intro x h
  unfold trm at h
  have h2 := tz_le ns
  rw [List.length_take, Nat.min_eq_left (Nat.sub_le _ _)] at h
  by_cases h3 : tz ns < ns.length
  · obtain ⟨y, h4, h5⟩ := tz_at ns h3
    rw [List.getElem?_take, if_pos (by omega), show ns.length - tz ns - 1 = ns.length - 1 - tz ns by omega, h4] at h
    cases h; exact h5
  · rw [List.getElem?_take, if_neg (by omega)] at h
    cases h
theorem trm_len (ns : List Int) : (trm ns).length ≤ ns.length := by
  unfold trm; rw [List.length_take]; omega
theorem trm_mem {ns : List Int} {x : Int} (h : x ∈ trm ns) : x ∈ ns := List.mem_of_mem_take h
/-! ### Euclid -/
theorem mod_half {l r : Nat} (h0 : 0 < r) (h : r < l) : r * (l % r) * 2 ≤ l * r := by
  have h1 := Nat.mod_lt l h0
  have h2 : l % r + r ≤ l := by
    have := Nat.div_add_mod l r
    have h3 : 1 ≤ l / r := Nat.div_pos (Nat.le_of_lt h) h0
    have h4 : r * 1 ≤ r * (l / r) := Nat.mul_le_mul_left r h3
    omega
  have h5 : (l % r) * 2 ≤ l := by omega
  calc r * (l % r) * 2 = r * ((l % r) * 2) := by rw [Nat.mul_assoc]
    _ ≤ r * l := Nat.mul_le_mul_left r h5
    _ = l * r := Nat.mul_comm _ _
/-- behind i turns -/
def Euc (B x y i l r : Nat) : Prop := Nat.gcd l r = Nat.gcd x y ∧ l < 2 ^ B ∧ r < 2 ^ B ∧ (i = 0 ∨ (r < l ∧ l * r * 2 ^ (i - 1) < 2 ^ (2 * B)))
theorem euc_0 {B x y : Nat} (hx : x < 2 ^ B) (hy : y < 2 ^ B) : Euc B x y 0 x y := ⟨rfl, hx, hy, .inl rfl⟩
theorem euc_s {B x y i l r : Nat} (h : Euc B x y i l r) (h0 : 0 < r) : Euc B x y (i + 1) r (l % r) := by
  obtain ⟨hg, hl, hr, hi⟩ := h
  have hm := Nat.mod_lt l h0
  refine ⟨?_, hr, Nat.lt_trans hm hr, .inr ⟨hm, ?_⟩⟩
  · rw [← hg, Nat.gcd_comm r, ← Nat.gcd_rec, Nat.gcd_comm]
  · rw [Nat.add_sub_cancel]
    rcases hi with rfl | ⟨hlt, hb⟩
    · rw [Nat.pow_zero, Nat.mul_one, Nat.two_mul, Nat.pow_add]
      exact Nat.mul_lt_mul'' hr (Nat.lt_trans hm hr)
    · cases i with
      | zero =>
        rw [Nat.pow_zero, Nat.mul_one, Nat.two_mul, Nat.pow_add]
        exact Nat.mul_lt_mul'' hr (Nat.lt_trans hm hr)
      | succ i =>
        rw [Nat.add_sub_cancel] at hb
        refine Nat.lt_of_le_of_lt ?_ hb
        rw [Nat.pow_succ, Nat.mul_comm (2 ^ i) 2, ← Nat.mul_assoc]
        exact Nat.mul_le_mul_right _ (mod_half h0 hlt)
theorem euc_end {B x y i l r : Nat} (h : Euc B x y i l r) (hi : 2 * B + 1 ≤ i) : r = 0 := by
  obtain ⟨_, _, _, h | ⟨hlt, hb⟩⟩ := h
  · omega
  · rcases Nat.eq_zero_or_pos r with e | e
    · exact e
    · exfalso
      have h1 : 1 * 2 ^ (2 * B) ≤ l * r * 2 ^ (i - 1) := Nat.mul_le_mul (Nat.mul_pos (by omega) e) (Nat.pow_le_pow_right (by decide) (by omega))
      omega
theorem euc_val {B x y i l : Nat} (h : Euc B x y i l 0) : l = Nat.gcd x y := by
  rw [← h.1, Nat.gcd_zero_right]
/-! ### fractions in lowest terms -/
def fr (u d : Int) : Int × Int := (u / (Int.gcd u d : Int), d / (Int.gcd u d : Int))
theorem gcd_pos {u d : Int} (h : 0 < d) : (0 : Int) < (Int.gcd u d : Int) := by
  have := Int.gcd_pos_of_ne_zero_right u (show d ≠ 0 by omega)
  omega
theorem fr_mul {u d : Int} (h : 0 < d) : u = (fr u d).1 * (Int.gcd u d : Int) ∧ d = (fr u d).2 * (Int.gcd u d : Int) :=
  ⟨(Int.ediv_mul_cancel (Int.gcd_dvd_left ..)).symm, (Int.ediv_mul_cancel (Int.gcd_dvd_right ..)).symm⟩
theorem fr_pos {u d : Int} (h : 0 < d) : 0 < (fr u d).2 := by
  have g := gcd_pos (u := u) h
  have e := (fr_mul (u := u) h).2
  rcases Int.lt_or_le 0 (fr u d).2 with h1 | h1
  · exact h1
  · exfalso
    have : (fr u d).2 * (Int.gcd u d : Int) ≤ 0 := Int.mul_nonpos_of_nonpos_of_nonneg h1 (by omega)
    omega
theorem fr_cop {u d : Int} (h : 0 < d) : Int.gcd (fr u d).1 (fr u d).2 = 1 := by
  have g := gcd_pos (u := u) h
  unfold fr
  exact Int.gcd_ediv_gcd_ediv_gcd (by omega)
/-- two fractions in lowest terms that are one number are one -/
theorem cop_eq {a b c d : Int} (hb : 0 < b) (hd : 0 < d) (h1 : Int.gcd a b = 1) (h2 : Int.gcd c d = 1) (e : a * d = c * b) : a = c ∧ b = d := by
  have hbd : b ∣ d := by
    have h3 : b ∣ a * d := ⟨c, by rw [e, Int.mul_comm]⟩
    have h4 := Int.dvd_gcd_mul_iff_dvd_mul.mpr h3
    rw [Int.gcd_comm, h1] at h4
    simpa using h4
  have hdb : d ∣ b := by
    have h3 : d ∣ c * b := ⟨a, by rw [← e, Int.mul_comm]⟩
    have h4 := Int.dvd_gcd_mul_iff_dvd_mul.mpr h3
    rw [Int.gcd_comm, h2] at h4
    simpa using h4
  have ebd : b = d := Int.dvd_antisymm (by omega) (by omega) hbd hdb
  subst ebd
  exact ⟨Int.eq_of_mul_eq_mul_right (by omega) e, rfl⟩
theorem fr_eq {a b c d : Int} (hb : 0 < b) (hd : 0 < d) (e : a * d = c * b) : fr a b = fr c d := by
  have g1 := gcd_pos (u := a) hb
  have g2 := gcd_pos (u := c) hd
  obtain ⟨a1, b1⟩ := fr_mul (u := a) hb
  obtain ⟨c1, d1⟩ := fr_mul (u := c) hd
  have k : (fr a b).1 * (fr c d).2 = (fr c d).1 * (fr a b).2 := by
    have z : ((fr a b).1 * (fr c d).2) * ((Int.gcd a b : Int) * (Int.gcd c d : Int)) = ((fr c d).1 * (fr a b).2) * ((Int.gcd a b : Int) * (Int.gcd c d : Int)) := by
      calc ((fr a b).1 * (fr c d).2) * ((Int.gcd a b : Int) * (Int.gcd c d : Int)) = ((fr a b).1 * (Int.gcd a b : Int)) * ((fr c d).2 * (Int.gcd c d : Int)) := by simp only [Int.mul_assoc, Int.mul_comm, Int.mul_left_comm]
        _ = a * d := by rw [← a1, ← d1]
        _ = c * b := e
        _ = ((fr c d).1 * (Int.gcd c d : Int)) * ((fr a b).2 * (Int.gcd a b : Int)) := by rw [← c1, ← b1]
        _ = _ := by simp only [Int.mul_assoc, Int.mul_comm, Int.mul_left_comm]
    exact Int.eq_of_mul_eq_mul_right (Int.ne_of_gt (Int.mul_pos g1 g2)) z
  obtain ⟨h1, h2⟩ := cop_eq (fr_pos hb) (fr_pos hd) (fr_cop hb) (fr_cop hd) k
  exact Prod.ext h1 h2
theorem fr_same {a b : Int} (hb : 0 < b) (h : Int.gcd a b = 1) : fr a b = (a, b) := by
  unfold fr
  rw [h]
  simp
theorem fr_val {a b : Int} (hb : 0 < b) : (fr a b).1 * b = a * (fr a b).2 := by
  obtain ⟨h1, h2⟩ := fr_mul (u := a) hb
  generalize (Int.gcd a b : Int) = g at h1 h2
  calc (fr a b).1 * b = (fr a b).1 * ((fr a b).2 * g) := by rw [← h2]
    _ = ((fr a b).1 * g) * (fr a b).2 := by simp only [Int.mul_assoc, Int.mul_comm, Int.mul_left_comm]
    _ = a * (fr a b).2 := by rw [← h1]
theorem fr_abs1 {a b : Int} (hb : 0 < b) : (fr a b).1.natAbs ≤ a.natAbs := by
  obtain ⟨h1, _⟩ := fr_mul (u := a) hb
  have g := gcd_pos (u := a) hb
  generalize Int.gcd a b = n at h1 g
  have e : a.natAbs = (fr a b).1.natAbs * n := by
    have := congrArg Int.natAbs h1
    rw [Int.natAbs_mul, Int.natAbs_natCast] at this
    exact this
  rw [e]
  exact Nat.le_mul_of_pos_right _ (by omega)
theorem fr_abs2 {a b : Int} (hb : 0 < b) : (fr a b).2.natAbs ≤ b.natAbs := by
  obtain ⟨_, h1⟩ := fr_mul (u := a) hb
  have g := gcd_pos (u := a) hb
  generalize Int.gcd a b = n at h1 g
  have e : b.natAbs = (fr a b).2.natAbs * n := by
    have := congrArg Int.natAbs h1
    rw [Int.natAbs_mul, Int.natAbs_natCast] at this
    exact this
  rw [e]
  exact Nat.le_mul_of_pos_right _ (by omega)
end V2


namespace V2
open PySem L2
open PySem.Spec PyProof.Rows
def RetU (xs : List V) (H : Hp) (Q : VK) : Prop := ∀ p H2, H p = none → Evl.Ex H H2 → H2 p = some (.tup xs) → Q (.ref p) H2
def iV (ns : List Int) : List V := ns.map V.int
theorem iV_len (ns : List Int) : (iV ns).length = ns.length := List.length_map ..
theorem iV_at {ns : List Int} {j : Nat} {n : Int} (h : ns[j]? = some n) : (iV ns)[j]? = some (.int n) := by
  unfold iV; rw [List.getElem?_map, h]; rfl
theorem cut_to (xs : List V) {k : Nat} (h : k ≤ xs.length) : cutV xs none (some (k : Int)) = xs.take k := by
  unfold cutV HT.sIx
  have e1 : Int.toNat (k : Int) = k := Int.toNat_natCast k
  simp
  first
    | done
    | (split <;> simp_all <;> omega)
    | omega
/-- the script, the rank: a new sack -/
def spSack (K : PySem.W.Frag) : Sp := fun vs H Q _ => ∃ (a : Addr) (ns : List Int) (r : Nat), vs = [.ref a, .int (r : Int)] ∧ SqL K H a (iV ns) ∧ ns.length ≤ 63 ∧ r ≤ 63 ∧
  ∀ (q : Addr) (H' : Hp), H q = none → Evl.Ex H H' → Sk H' q 0 → Q (.ref q) H'
def spShared : Sp := fun vs H Q _ => ∃ x y : Int, vs = [.int x, .int y] ∧ x.natAbs < 2 ^ 9000 ∧ y.natAbs < 2 ^ 9000 ∧ Evl.RetV (.int (Int.gcd x y : Int)) H Q
def spRatio : Sp := fun vs H Q _ => ∃ x y : Int, vs = [.int x, .int y] ∧ x.natAbs < 2 ^ 9000 ∧ y.natAbs < 2 ^ 9000 ∧ 0 < y ∧ RetU [.int (fr x y).1, .int (fr x y).2] H Q
structure T1 (mg : Str → Option Value) (fS fR : Addr) : Prop extends T0 mg where
  rng : mg "range" = none
  lst : mg "list" = none
  gS : mg "_law_pv_shared" = some (.ref fS)
  gR : mg "_law_pv_ratio" = some (.ref fR)
section
variable {base : Heap} {mg : Str → Option Value} {K : PySem.W.Frag} {w : World} {P : Program}
theorem ok_sack {f : Addr} {fd : FuncData} (F : Fun K "_law_pv_sack" "_law_pv_sack" s_l_sack f fd) (T : T0 mg) : FnOk P w K mg base CX0 1 f fd p_l_sack (spSack K) := by
  refine F.ok sc_l_sack (fun vs H Q E h => ?_) (fun cdv A outer s H vs Q E hr h => ?_)
  · obtain ⟨a, ns, r, rfl, _⟩ := h
    rfl
  · obtain ⟨a, ns, r, rfl, hS, hl, hr63, k⟩ := h
    have nd := sc_l_sack.nd
    refine ⟨_, pss_cons (ps_set (i := 2) nd rfl (Or.inl rfl) (pe_ifExp (pt_cmpR op_lt (pv 1) (pe_callB call_len_seq (by rfl) T.len PySem.boot_len (pa_cons (pv 0) pa_nil)) (nomark _)) (pe_ix ix_list (pv 0) (pv 1) (fun _ _ => rfl)) pe_int))
      (pss_one (ps_ret (pe_lst (pa_cons (pe_callB (call_max2 rfl) (by rfl) T.max (by decide +kernel) (pa_cons pe_int (pa_cons (pe_op op_sub (pe_callB call_abs (by rfl) T.abs (by decide +kernel) (pa_cons (pv 2) pa_nil)) (pe_op op_powX pe_int pe_int)) pa_nil)))
        (pa_cons (pe_op op_mod (pe_callTy call_int1 (by rfl) T.int (by decide +kernel) (pa_cons (pe_op op_add (pe_op op_add (pe_op op_mul (pv 2) pe_int) (pe_op op_mul (pv 1) pe_int)) pe_int) pa_nil)) (pe_op op_add (pe_op op_powX pe_int pe_int) pe_int))
        (pa_cons pe_int pa_nil)))))), ?_⟩
    have w18 : CPowX 10 18 := pow_ok (k := 4) (n := 18) (by decide) (by decide)
    have w24 : CPowX 10 24 := pow_ok (k := 4) (n := 24) (by decide) (by decide)
    have e24 : ((10 : Int) ^ (24 : Int).toNat + 7) = 1000000000000000000000007 := by decide
    have g24 : (0 : Int) < 10 ^ (24 : Int).toNat + 7 := by rw [e24]; decide
    have p80 : (2 : Int) ^ 80 = 1208925819614629174706176 := by decide
    (refine ⟨_, rfl, _, rfl, a, _, rfl, .inl hS, _, _, rfl, rfl, _, rfl, ?_⟩)
    refine ite2 (fun q => ?_) (fun _ => ?_)
    · have q2 : r < ns.length := by
        have q1 := of_decide_eq_true q
        rw [iV_len] at q1
        omega
      refine ⟨_, rfl, _, rfl, a, _, _, _, rfl, rfl, hS, atI_nat (iV_at (List.getElem?_eq_getElem q2)), ?_⟩
      refine ⟨_, rfl, _, rfl, 10, 18, rfl, rfl, w18, _, _, rfl, rfl, _, _, rfl, ?_⟩
      refine ⟨_, rfl, _, 69857, rfl, rfl, .inr ⟨by decide, by decide⟩, _, rfl, _, 9176291, rfl, rfl, .inr ⟨by decide, by decide⟩, _, _, rfl, rfl, _, _, rfl, rfl, .inl ⟨_, rfl, ?_⟩⟩
      refine ⟨10, 24, rfl, rfl, w24, _, 7, rfl, rfl, _, _, rfl, rfl, g24, ?_⟩
      refine ⟨by show 3 ≤ sizeLine; decide, fun q hq => ?_⟩
      refine k q _ hq (Evl.Ex.new hq) ⟨_, _, _, upd_same, ?_, Int.emod_nonneg _ (by omega), Int.lt_trans (Int.emod_lt_of_pos _ g24) (by rw [e24, p80]; decide), Int.le_refl _, Int.le_refl _⟩
      split <;> omega
    · refine ⟨_, rfl, _, rfl, 10, 18, rfl, rfl, w18, _, _, rfl, rfl, _, _, rfl, ?_⟩
      refine ⟨_, rfl, _, 69857, rfl, rfl, .inr ⟨by decide, by decide⟩, _, rfl, _, 9176291, rfl, rfl, .inr ⟨by decide, by decide⟩, _, _, rfl, rfl, _, _, rfl, rfl, .inl ⟨_, rfl, ?_⟩⟩
      refine ⟨10, 24, rfl, rfl, w24, _, 7, rfl, rfl, _, _, rfl, rfl, g24, ?_⟩
      refine ⟨by show 3 ≤ sizeLine; decide, fun q hq => ?_⟩
      refine k q _ hq (Evl.Ex.new hq) ⟨_, _, _, upd_same, ?_, Int.emod_nonneg _ (by omega), Int.lt_trans (Int.emod_lt_of_pos _ g24) (by rw [e24, p80]; decide), Int.le_refl _, Int.le_refl _⟩
      split <;> omega
theorem ok_shared {f : Addr} {fd : FuncData} (F : Fun K "_law_pv_shared" "_law_pv_shared" s_l_shared f fd) {fS fR : Addr} (T : T1 mg fS fR) : FnOk P w K mg base CX0 1 f fd p_l_shared spShared := by
  refine F.ok sc_l_shared (fun vs H Q E h => ?_) (fun cdv A outer s H vs Q E hr h => ?_)
  · obtain ⟨x, y, rfl, _⟩ := h
    rfl
  · obtain ⟨x, y, rfl, hx, hy, k⟩ := h
    have nd := sc_l_shared.nd
    refine ⟨_, pss_cons (ps_par (i := 0) (j := 1) rfl nd rfl rfl (by decide) rfl rfl (pa_cons (pe_callB call_abs (by rfl) T.abs (by decide +kernel) (pa_cons (pv 0) pa_nil)) (pa_cons (pe_callB call_abs (by rfl) T.abs (by decide +kernel) (pa_cons (pv 1) pa_nil)) pa_nil)) (by rfl))
      (pss_cons (ps_for PassesOwn.never rfl (pi_range1 (by rfl) T.rng (pa_cons pe_int pa_nil)) (pg_name (i := 2) nd rfl (Or.inl rfl))
        (pss_cons (ps_if (pt_cmpR op_eq (pv 1) pe_int (nomark _)) (pss_one (ps_ret (pv 0))) pss_nil)
        (pss_one (ps_par (i := 0) (j := 1) rfl nd rfl rfl (by decide) rfl rfl (pa_cons (pv 1) (pa_cons (pe_op op_mod (pe_callTy call_int1 (by rfl) T.int (by decide +kernel) (pa_cons (pv 0) pa_nil)) (pe_callTy call_int1 (by rfl) T.int (by decide +kernel) (pa_cons (pv 1) pa_nil))) pa_nil)) (by rfl)))))
      (pss_one (ps_ret (pv 0)))), ?_⟩
    have ab : ∀ z : Int, (if z < 0 then -z else z) = (z.natAbs : Int) := fun z => by split <;> omega
    refine ⟨_, rfl, _, rfl, _, rfl, _, rfl, _, _, rfl, ?_⟩
    rw [ab, ab]
    refine ⟨20000, rfl, by decide, by decide, for_range (n := 20000) (fun i σ H' => H' = H ∧ ∃ (l r : Nat) (v : Option V), σ = [some (.int l), some (.int r), v] ∧ Euc 9000 x.natAbs y.natAbs i l r)
      ⟨rfl, _, _, none, rfl, euc_0 hx hy⟩ ?_ ?_⟩
    · rintro i σ H' hi ⟨rfl, l, r, v, rfl, he⟩
      (refine ⟨_, rfl, rfl, _, rfl, ?_⟩)
      refine ite2 (fun q => ?_) (fun q => ?_)
      · have q1 : r = 0 := by
          have := of_decide_eq_true q
          injection this with h1
          omega
        subst q1
        refine ⟨_, rfl, ?_⟩
        have e : (l : Int) = (Int.gcd x y : Int) := by rw [euc_val he]; rfl
        rw [e]
        exact k _ (Evl.Ex.refl _)
      · have q1 : 0 < r := by
          rcases Nat.eq_zero_or_pos r with e | e
          · subst e; exact absurd (by decide) q
          · exact e
        refine ⟨_, rfl, _, rfl, .inl ⟨_, rfl, _, rfl, .inl ⟨_, rfl, _, _, rfl, rfl, (by show (0 : Int) < (r : Int); omega), _, _, rfl, ?_⟩⟩⟩
        exact ⟨rfl, r, l % r, _, rfl, euc_s he q1⟩
    · rintro σ H' ⟨rfl, l, r, v, rfl, he⟩
      have := euc_end he (by decide)
      subst this
      refine ⟨_, rfl, ?_⟩
      have e : (l : Int) = (Int.gcd x y : Int) := by rw [euc_val he]; rfl
      rw [e]
      exact k _ (Evl.Ex.refl _)
end
end V2


namespace V2
open PySem L2
open PySem.Spec PyProof.Rows
/-- a def that may be called by its name x -/
def Cal (P : Program) (w : World) (K : PySem.W.Frag) (mg : Str → Option Value) (base : Heap) (k : Nat) (x : Str) (ps : List Str) (sp : Sp) : Prop :=
  ∃ (f : Addr) (fd : FuncData), FnOk P w K mg base CX0 k f fd ps sp ∧ mg x = some (.ref f) ∧ PySem.W.keepIn K (.ref f) = true ∧ Binds K fd ps []
theorem pe_c {X : Cx} {k : Nat} {x : Str} {ps : List Str} {sp : Sp} {e : Expr} {es : List Expr} {t : TA} {p pos : Pos} (c : Cal X.prog X.w X.K X.mg X.base k x ps sp) (hr : Room k X.A) (ha : PA X (e :: es) t) (hg : Gl X x := by rfl)
    (he : starEach (e :: es) X.env = (false, eval e X.env) :: starEach es X.env := by rfl)
    (hpl : (backTo pos (starEach es X.env)).any (fun b => b.1) = false := by rfl) (hdb : (x == ("__debug__" : Str)) = false := by decide) :
    PE X (.Call (.Name x p) (e :: es) [] pos) (tCall sp [] E0 t) := by
  obtain ⟨f, fd, F, hm, hk, hb⟩ := c
  exact pe_call F hr hg hm hk hb .nil pass0 ha hdb he hpl
def spAdd : Sp := fun vs H Q _ => ∃ (l r : Addr) (a b c d : Int), vs = [.ref l, .ref r] ∧ SqL2 H l a b ∧ SqL2 H r c d ∧ a.natAbs < 2 ^ 4000 ∧ b.natAbs < 2 ^ 4000 ∧ c.natAbs < 2 ^ 4000 ∧ d.natAbs < 2 ^ 4000 ∧ 0 < b ∧ 0 < d ∧
  RetU [.int (fr (a * d + c * b) (b * d)).1, .int (fr (a * d + c * b) (b * d)).2] H Q
where SqL2 (H : Hp) (l : Addr) (a b : Int) : Prop := H l = some (.tup [.int a, .int b])
def spMul : Sp := fun vs H Q _ => ∃ (l r : Addr) (a b c d : Int), vs = [.ref l, .ref r] ∧ H l = some (.tup [.int a, .int b]) ∧ H r = some (.tup [.int c, .int d]) ∧ a.natAbs < 2 ^ 4000 ∧ b.natAbs < 2 ^ 4000 ∧ c.natAbs < 2 ^ 4000 ∧ d.natAbs < 2 ^ 4000 ∧ 0 < b ∧ 0 < d ∧
  RetU [.int (fr (a * c) (b * d)).1, .int (fr (a * c) (b * d)).2] H Q
/-- a list of ints without the zeros at its end, new -/
def spTrim (K : PySem.W.Frag) : Sp := fun vs H Q _ => ∃ (a : Addr) (ns : List Int), vs = [.ref a] ∧ SqL K H a (iV ns) ∧ ns.length ≤ 1000 ∧ Evl.RetL (iV (trm ns)) H Q
theorem at2_0 {a b : V} : atI [a, b] 0 = some a := by rfl
theorem at2_1 {a b : V} : atI [a, b] 1 = some b := by rfl
theorem pw_mul {i j : Int} {n m k : Nat} (h1 : i.natAbs < 2 ^ n) (h2 : j.natAbs < 2 ^ m) (h : n + m ≤ k) : (i * j).natAbs < 2 ^ k :=
  Nat.lt_of_lt_of_le (wide_lt h1 h2) (Nat.pow_le_pow_right (by decide) h)
theorem pw_add {i j : Int} {n k : Nat} (h1 : i.natAbs < 2 ^ n) (h2 : j.natAbs < 2 ^ n) (h : n + 1 ≤ k) : (i + j).natAbs < 2 ^ k := by
  have h3 : (2 : Nat) ^ (n + 1) ≤ 2 ^ k := Nat.pow_le_pow_right (by decide) h
  rw [Nat.pow_succ] at h3
  omega
section
variable {base : Heap} {mg : Str → Option Value} {K : PySem.W.Frag} {w : World} {P : Program}
theorem ok_ratio {f : Addr} {fd : FuncData} (F : Fun K "_law_pv_ratio" "_law_pv_ratio" s_l_ratio f fd) (T : T0 mg) (cS : Cal P w K mg base 1 "_law_pv_shared" p_l_shared spShared) : FnOk P w K mg base CX0 2 f fd p_l_ratio spRatio := by
  refine F.ok sc_l_ratio (fun vs H Q E h => ?_) (fun cdv A outer s H vs Q E hr h => ?_)
  · obtain ⟨x, y, rfl, _⟩ := h
    rfl
  · obtain ⟨x, y, rfl, hx, hy, y0, k⟩ := h
    have nd := sc_l_ratio.nd
    refine ⟨_, pss_cons (ps_set (i := 2) nd rfl (Or.inl rfl) (pe_op op_mul (pe_c cS hr (pa_cons (pv 0) (pa_cons (pv 1) pa_nil))) (pe_op op_sub pe_int (pe_op op_mul pe_int (pe_callTy call_int1 (by rfl) T.int (by decide +kernel) (pa_cons (pe_cmpR op_lt (pv 1) pe_int (nomark _)) pa_nil))))))
      (pss_one (ps_ret (pe_tup (pa_cons (pe_op op_fdivW (pv 0) (pv 2)) (pa_cons (pe_op op_fdivW (pv 1) (pv 2)) pa_nil))))), ?_⟩
    have e0 : (1 - 2 * (if decide (y < 0) = true then (1 : Int) else 0)) = 1 := by rw [decide_eq_false (by omega)]; rfl
    have g := gcd_pos (u := x) y0
    have gb : (Int.gcd x y : Int).natAbs < 2 ^ 9000 := by
      rw [Int.natAbs_natCast]
      exact Nat.lt_of_le_of_lt (Nat.gcd_le_right _ (by omega)) hy
    have eG : (Int.gcd x y : Int) * (1 - 2 * (if decide (y < 0) = true then (1 : Int) else 0)) = (Int.gcd x y : Int) := by rw [e0, Int.mul_one]
    have cD : CDivW x ((Int.gcd x y : Int) * (1 - 2 * (if decide (y < 0) = true then (1 : Int) else 0))) := by rw [eG]; exact wide_div g gb (by decide) (by decide)
    refine ⟨_, rfl, _, rfl, x, y, rfl, hx, hy, fun H2 e2 => ?_⟩
    refine ⟨_, rfl, _, _, rfl, rfl, .inr ⟨_, rfl, 2, _, rfl, rfl, .inl ⟨by decide, by decide⟩, 1, _, rfl, rfl, _, _, rfl, rfl, .inr ⟨by rw [e0]; decide, by rw [e0]; decide⟩, ?_⟩⟩
    refine ⟨_, rfl, _, rfl, _, _, rfl, rfl, cD, _, rfl, _, rfl, _, _, rfl, rfl, cD, (by show 2 ≤ sizeLine; decide), fun p hp => ?_⟩
    refine k p _ (Evl.fresh_back e2 hp) (e2.trans (Evl.Ex.new hp)) ?_
    rw [upd_same]
    show some (HO.tup [V.int (x / ((Int.gcd x y : Int) * (1 - 2 * (if decide (y < 0) = true then (1 : Int) else 0)))), V.int (y / ((Int.gcd x y : Int) * (1 - 2 * (if decide (y < 0) = true then (1 : Int) else 0))))]) = _
    rw [eG]
    rfl
theorem ok_add {f : Addr} {fd : FuncData} (F : Fun K "_law_pv_add" "_law_pv_add" s_l_add f fd) (cR : Cal P w K mg base 2 "_law_pv_ratio" p_l_ratio spRatio) : FnOk P w K mg base CX0 3 f fd p_l_add spAdd := by
  refine F.ok sc_l_add (fun vs H Q E h => ?_) (fun cdv A outer s H vs Q E hr h => ?_)
  · obtain ⟨l, r, a, b, c, d, rfl, _⟩ := h
    rfl
  · obtain ⟨l, r, a, b, c, d, rfl, hl, hr2, ha, hb, hc, hd, b0, d0, k⟩ := h
    have sl : SqT K H l [.int a, .int b] := SqT.of hl
    have sr : SqT K H r [.int c, .int d] := SqT.of hr2
    refine ⟨_, pss_one (ps_ret (pe_c cR hr (pa_cons (pe_op op_add (pe_op op_mulW (pe_ix ix_tup (pv 0) pe_int (fun _ _ => rfl)) (pe_ix ix_tup (pv 1) pe_int (fun _ _ => rfl))) (pe_op op_mulW (pe_ix ix_tup (pv 1) pe_int (fun _ _ => rfl)) (pe_ix ix_tup (pv 0) pe_int (fun _ _ => rfl))))
      (pa_cons (pe_op op_mulW (pe_ix ix_tup (pv 0) pe_int (fun _ _ => rfl)) (pe_ix ix_tup (pv 1) pe_int (fun _ _ => rfl))) pa_nil)))), ?_⟩
    have m1 := wide_mul ha hd (by decide) (by decide) (by decide)
    have m2 := wide_mul hc hb (by decide) (by decide) (by decide)
    have m3 := wide_mul hb hd (by decide) (by decide) (by decide)
    refine ⟨_, rfl, l, _, _, _, rfl, rfl, sl, at2_0, _, rfl, r, _, _, _, rfl, rfl, sr, at2_1, _, _, rfl, rfl, m1, ?_⟩
    refine ⟨_, rfl, r, _, _, _, rfl, rfl, sr, at2_0, _, rfl, l, _, _, _, rfl, rfl, sl, at2_1, _, _, rfl, rfl, m2, _, _, rfl, rfl, ?_⟩
    refine ⟨_, rfl, l, _, _, _, rfl, rfl, sl, at2_1, _, rfl, r, _, _, _, rfl, rfl, sr, at2_1, _, _, rfl, rfl, m3, ?_⟩
    exact ⟨_, _, rfl, pw_add (n := 8000) (pw_mul ha hd (by decide)) (pw_mul hc hb (by decide)) (by decide), pw_mul hb hd (by decide), Int.mul_pos b0 d0, k⟩
theorem ok_mul {f : Addr} {fd : FuncData} (F : Fun K "_law_pv_mul" "_law_pv_mul" s_l_mul f fd) (cR : Cal P w K mg base 2 "_law_pv_ratio" p_l_ratio spRatio) : FnOk P w K mg base CX0 3 f fd p_l_mul spMul := by
  refine F.ok sc_l_mul (fun vs H Q E h => ?_) (fun cdv A outer s H vs Q E hr h => ?_)
  · obtain ⟨l, r, a, b, c, d, rfl, _⟩ := h
    rfl
  · obtain ⟨l, r, a, b, c, d, rfl, hl, hr2, ha, hb, hc, hd, b0, d0, k⟩ := h
    have sl : SqT K H l [.int a, .int b] := SqT.of hl
    have sr : SqT K H r [.int c, .int d] := SqT.of hr2
    refine ⟨_, pss_one (ps_ret (pe_c cR hr (pa_cons (pe_op op_mulW (pe_ix ix_tup (pv 0) pe_int (fun _ _ => rfl)) (pe_ix ix_tup (pv 1) pe_int (fun _ _ => rfl)))
      (pa_cons (pe_op op_mulW (pe_ix ix_tup (pv 0) pe_int (fun _ _ => rfl)) (pe_ix ix_tup (pv 1) pe_int (fun _ _ => rfl))) pa_nil)))), ?_⟩
    have m1 := wide_mul ha hc (by decide) (by decide) (by decide)
    have m3 := wide_mul hb hd (by decide) (by decide) (by decide)
    refine ⟨_, rfl, l, _, _, _, rfl, rfl, sl, at2_0, _, rfl, r, _, _, _, rfl, rfl, sr, at2_0, _, _, rfl, rfl, m1, ?_⟩
    refine ⟨_, rfl, l, _, _, _, rfl, rfl, sl, at2_1, _, rfl, r, _, _, _, rfl, rfl, sr, at2_1, _, _, rfl, rfl, m3, ?_⟩
    exact ⟨_, _, rfl, pw_mul ha hc (by decide), pw_mul hb hd (by decide), Int.mul_pos b0 d0, k⟩
theorem ok_trim {f : Addr} {fd : FuncData} (F : Fun K "_law_pv_trim" "_law_pv_trim" s_l_trim f fd) {fS fR : Addr} (T : T1 mg fS fR) : FnOk P w K mg base CX0 1 f fd p_l_trim (spTrim K) := by
  refine F.ok sc_l_trim (fun vs H Q E h => ?_) (fun cdv A outer s H vs Q E hr h => ?_)
  · obtain ⟨a, ns, rfl, _⟩ := h
    rfl
  · obtain ⟨a, ns, rfl, hS, hl, k⟩ := h
    have nd := sc_l_trim.nd
    refine ⟨_, pss_cons (ps_set (i := 1) nd rfl (Or.inl rfl) (pe_callB call_len_seq (by rfl) T.len PySem.boot_len (pa_cons (pv 0) pa_nil)))
      (pss_cons (ps_for PassesOwn.never rfl (pi_range1 (by rfl) T.rng (pa_cons (pe_callB call_len_seq (by rfl) T.len PySem.boot_len (pa_cons (pv 0) pa_nil)) pa_nil)) (pg_name (i := 2) nd rfl (Or.inl rfl))
        (pss_one (ps_if (PW.pt (pw_and (pt_cmpR op_gt (pv 1) pe_int (nomark _)) (pw_and1 (pt_cmpR op_eq (pe_ix ix_list (pv 0) (pe_op op_sub (pv 1) pe_int) (fun _ _ => rfl)) pe_int (nomark _)))))
          (pss_one (ps_set (i := 1) nd rfl (Or.inl rfl) (pe_op op_sub (pv 1) pe_int))) pss_nil)))
      (pss_one (ps_ret (pe_callTy call_list_of (by rfl) T.lst (by decide +kernel) (pa_cons (pe_slice sl_list (pv 0) po_none (po_some (pv 1))) pa_nil))))), ?_⟩
    have hz := tz_le ns
    refine ⟨_, rfl, a, _, rfl, .inl hS, _, rfl, a, _, rfl, .inl hS, _, rfl, by rw [iV_len]; omega, by rw [iV_len]; omega, ?_⟩
    rw [Int.toNat_natCast, iV_len]
    refine for_range (n := ns.length) (fun i σ H' => H' = H ∧ ∃ (v : Option V), σ = [some (.ref a), some (.int ((ns.length - min i (tz ns) : Nat) : Int)), v]) ⟨rfl, none, by rw [← iV_len ns]; simp [L2.start]⟩ ?_ ?_
    · rintro i σ H' hi ⟨rfl, v, rfl⟩
      (refine ⟨_, rfl, _, _, rfl, rfl, _, rfl, ?_⟩)
      have sp : 0 < ns.length - min i (tz ns) := by omega
      refine ite2 (fun _ => ?_) (fun q => absurd (decide_eq_true (by omega : (0 : Int) < ((ns.length - min i (tz ns) : Nat) : Int))) q)
      obtain ⟨x, hx, h1, h2⟩ : ∃ x, ns[ns.length - 1 - min i (tz ns)]? = some x ∧ (i < tz ns → x = 0) ∧ (tz ns ≤ i → x ≠ 0) := by
        by_cases c : i < tz ns
        · refine ⟨0, ?_, fun _ => rfl, fun z => absurd c (by omega)⟩
          rw [Nat.min_eq_left (by omega)]
          exact tz_in ns i c
        · rw [Nat.min_eq_right (by omega)]
          obtain ⟨x, h3, h4⟩ := tz_at ns (by omega)
          exact ⟨x, h3, fun z => absurd z c, fun _ => h4⟩
      have ei : (((ns.length - min i (tz ns) : Nat) : Int) - 1) = ((ns.length - 1 - min i (tz ns) : Nat) : Int) := by omega
      refine ⟨_, rfl, _, rfl, _, _, rfl, rfl, a, _, _, .int x, rfl, rfl, hS, ?_, rfl, _, rfl, ?_⟩
      · show atI (iV ns) (((ns.length - min i (tz ns) : Nat) : Int) - 1) = _
        rw [ei]
        exact atI_nat (iV_at hx)
      · refine ite2 (fun q => ?_) (fun q => ?_)
        · have x0 : x = 0 := by
            have := of_decide_eq_true q
            injection this
          have c : i < tz ns := by
            rcases Nat.lt_or_ge i (tz ns) with c | c
            · exact c
            · exact absurd x0 (h2 c)
          refine ⟨_, rfl, _, _, rfl, rfl, rfl, some (.int (0 + (i : Int))), ?_⟩
          show [some (V.ref a), some (V.int (((ns.length - min i (tz ns) : Nat) : Int) - 1)), some (V.int (0 + (i : Int)))] = _
          rw [ei, show ns.length - 1 - min i (tz ns) = ns.length - min (i + 1) (tz ns) by omega]
        · have x0 : x ≠ 0 := fun e => q (decide_eq_true (by rw [e]))
          have c : tz ns ≤ i := by
            rcases Nat.lt_or_ge i (tz ns) with c | c
            · exact absurd (h1 c) x0
            · exact c
          refine ⟨rfl, some (.int (0 + (i : Int))), ?_⟩
          rw [show min (i + 1) (tz ns) = min i (tz ns) by omega]
          rfl
    · rintro σ H' ⟨rfl, v, rfl⟩
      rw [Nat.min_eq_right hz]
      refine ⟨_, rfl, _, rfl, _, rfl, a, _, rfl, hS, fun p hp => ?_⟩
      refine ⟨p, _, rfl, .inl (SqL.of upd_same), fun q hq => ?_⟩
      have qp : upd H' p (.lst (cutV (iV ns) none (some ((ns.length - tz ns : Nat) : Int)))) q = none := hq
      refine k q _ (Evl.fresh_back (Evl.Ex.new hp) hq) ((Evl.Ex.new hp).trans (Evl.Ex.new hq)) ?_
      rw [upd_same, cut_to _ (by rw [iV_len]; omega)]
      unfold trm iV
      rw [List.map_take]
end
end V2


namespace V2
/-! ## lists by their places; sums and products of polynomials -/
def vec (N : Nat) (f : Nat → Int) : List Int := (List.range N).map f
theorem vec_len (N : Nat) (f : Nat → Int) : (vec N f).length = N := by unfold vec; simp
theorem vec_get {N : Nat} {f : Nat → Int} {i : Nat} (h : i < N) : (vec N f)[i]? = some (f i) := by
  unfold vec; simp [h]
theorem vec_ext {N : Nat} {f : Nat → Int} {l : List Int} (hl : l.length = N) (h : ∀ i, i < N → l[i]? = some (f i)) : l = vec N f := by
  apply List.ext_getElem?
  intro i
  by_cases hi : i < N
  · rw [h i hi, vec_get hi]
  · rw [List.getElem?_eq_none (by omega), List.getElem?_eq_none (by rw [vec_len]; omega)]
theorem vec_congr {N : Nat} {f g : Nat → Int} (h : ∀ i, i < N → f i = g i) : vec N f = vec N g :=
  vec_ext (vec_len N f) fun i hi => by rw [vec_get hi, h i hi]
theorem vec_set {N : Nat} {f g : Nat → Int} {p : Nat} {v : Int} (hv : g p = v) (h : ∀ i, i ≠ p → g i = f i) : (vec N f).set p v = vec N g := by
  refine vec_ext (by rw [List.length_set, vec_len]) fun i hi => ?_
  by_cases e : i = p
  · subst e
    rw [List.getElem?_set_self (by rw [vec_len]; exact hi), hv]
  · rw [List.getElem?_set_ne (fun z => e z.symm), vec_get hi, h i e]
theorem vec_zero (N : Nat) : vec N (fun _ => 0) = List.replicate N 0 := by
  symm
  refine vec_ext (by simp) fun i hi => by simp [hi]
theorem getD_at {l : List Int} {k : Nat} {x : Int} (h : l[k]? = some x) : l.getD k 0 = x := by
  rw [List.getD_eq_getElem?_getD, h]; rfl
theorem getD_out {l : List Int} {k : Nat} (h : l.length ≤ k) : l.getD k 0 = 0 := by
  rw [List.getD_eq_getElem?_getD, List.getElem?_eq_none h]; rfl
/-- the sum, zeros at the end and all -/
def padd (xs ys : List Int) : List Int := vec (max xs.length ys.length) fun k => xs.getD k 0 + ys.getD k 0
/-- the first k rows of a product, at place i -/
def cf (xs ys : List Int) : Nat → Nat → Int
  | 0, _ => 0
  | k + 1, i => cf xs ys k i + (if k ≤ i then xs.getD k 0 * ys.getD (i - k) 0 else 0)
/-- k rows, and j places of the next -/
def rw_ (xs ys : List Int) (k j i : Nat) : Int := cf xs ys k i + (if k ≤ i ∧ i < k + j then xs.getD k 0 * ys.getD (i - k) 0 else 0)
theorem rw_0 (xs ys : List Int) (k i : Nat) : rw_ xs ys k 0 i = cf xs ys k i := by
  unfold rw_; rw [if_neg (by omega), Int.add_zero]
theorem rw_end (xs ys : List Int) (k i : Nat) : rw_ xs ys k ys.length i = rw_ xs ys (k + 1) 0 i := by
  rw [rw_0]
  unfold rw_
  show _ = cf xs ys k i + (if k ≤ i then xs.getD k 0 * ys.getD (i - k) 0 else 0)
  by_cases h1 : k ≤ i
  · by_cases h2 : i < k + ys.length
    · rw [if_pos ⟨h1, h2⟩, if_pos h1]
    · rw [if_neg (by omega), if_pos h1, getD_out (l := ys) (k := i - k) (by omega), Int.mul_zero]
  · rw [if_neg (by omega), if_neg h1]
theorem rw_step {xs ys : List Int} {k j : Nat} : rw_ xs ys k (j + 1) (k + j) = rw_ xs ys k j (k + j) + xs.getD k 0 * ys.getD j 0 := by
  unfold rw_
  rw [if_pos (by omega), if_neg (by omega), Int.add_zero, show k + j - k = j by omega]
theorem rw_other {xs ys : List Int} {k j i : Nat} (h : i ≠ k + j) : rw_ xs ys k (j + 1) i = rw_ xs ys k j i := by
  unfold rw_
  by_cases h1 : k ≤ i ∧ i < k + j
  · rw [if_pos h1, if_pos (by omega)]
  · rw [if_neg h1, if_neg (by omega)]
/-- the product, at N places -/
def pmul (xs ys : List Int) : List Int := vec (xs.length + ys.length - 1) (cf xs ys xs.length)
theorem cf_nil_right (xs : List Int) : ∀ k i, cf xs [] k i = 0
  | 0, _ => rfl
  | k + 1, i => by
    show cf xs [] k i + _ = 0
    rw [cf_nil_right xs k i]
    simp
theorem tz_vec0 (N : Nat) : trm (vec N fun _ => 0) = [] := by
  have h : ∀ l : List Int, (∀ x ∈ l, x = 0) → zer l = l.length := by
    intro l
    induction l with
    | nil => intro _; rfl
    | cons x r ih =>
      intro h
      unfold zer
      rw [if_pos (h x List.mem_cons_self), ih fun y hy => h y (List.mem_cons_of_mem _ hy)]
      rfl
  unfold trm tz
  rw [h _ (fun x hx => by
    rw [List.mem_reverse, vec_zero] at hx
    exact List.eq_of_mem_replicate hx), List.length_reverse, Nat.sub_self, List.take_zero]
theorem pmul_nil (xs : List Int) : trm (pmul xs []) = [] := by
  unfold pmul
  rw [vec_congr (g := fun _ => 0) fun i _ => cf_nil_right xs _ i]
  exact tz_vec0 _
theorem nil_pmul (ys : List Int) : trm (pmul [] ys) = [] := tz_vec0 _
/-- beyond the last row nothing -/
theorem cf_high {xs ys : List Int} : ∀ (k i : Nat), k + ys.length ≤ i + 1 → k < xs.length → cf xs ys k i = 0
  | 0, _, _, _ => rfl
  | k + 1, i, h, hk => by
    show cf xs ys k i + _ = 0
    rw [cf_high k i (by omega) (by omega)]
    by_cases h1 : k ≤ i
    · rw [if_pos h1, getD_out (l := ys) (k := i - k) (by omega)]
      simp
    · rw [if_neg h1]; rfl
theorem pol_pmul {xs ys : List Int} (hx : Pol xs) (hy : Pol ys) (nx : xs ≠ []) (ny : ys ≠ []) : Pol (pmul xs ys) := by
  intro z h
  have lx : 0 < xs.length := List.length_pos_iff.mpr nx
  have ly : 0 < ys.length := List.length_pos_iff.mpr ny
  unfold pmul at h
  rw [vec_len, vec_get (by omega)] at h
  have h := Option.some.inj h
  obtain ⟨n, en⟩ : ∃ n, xs.length = n + 1 := ⟨xs.length - 1, by omega⟩
  rw [en] at h
  have h2 : cf xs ys n (n + 1 + ys.length - 1 - 1) + (if n ≤ n + 1 + ys.length - 1 - 1 then xs.getD n 0 * ys.getD (n + 1 + ys.length - 1 - 1 - n) 0 else 0) = z := h
  rw [cf_high n _ (by omega) (by omega), if_pos (by omega), show n + 1 + ys.length - 1 - 1 - n = ys.length - 1 by omega, Int.zero_add] at h2
  have ex : xs[n]? = some xs[n] := List.getElem?_eq_getElem (by omega)
  have ey : ys[ys.length - 1]? = some ys[ys.length - 1] := List.getElem?_eq_getElem (by omega)
  rw [getD_at ex, getD_at ey] at h2
  rw [← h2]
  exact Int.mul_ne_zero (hx _ (by simpa [show xs.length - 1 = n by omega] using ex)) (hy _ ey)
end V2


namespace V2
open PySem L2
open PySem.Spec PyProof.Rows
section
variable {base : Heap} {mg : Str → Option Value} {K : PySem.W.Frag} {w : World} {P : Program}
theorem if_t {c : Bool} {A B : Prop} (hc : c = true) (h : A) : if c = true then A else B := by
  rw [if_pos hc]; exact h
theorem if_f {c : Bool} {A B : Prop} (hc : c = false) (h : B) : if c = true then A else B := by
  rw [hc, if_neg Bool.false_ne_true]; exact h
theorem ok_cut {f : Addr} {fd : FuncData} (F : Fun K "cut" "cut" s_cut f fd) (mL : mg "len" = none) : FnOk P w K mg base CX0 1 f fd p_cut (spTrim K) := by
  refine F.ok sc_cut (fun vs H Q E h => ?_) (fun cdv A outer s H vs Q E hr h => ?_)
  · obtain ⟨a, ns, rfl, _⟩ := h
    rfl
  · obtain ⟨a, ns, rfl, hS, hl, k⟩ := h
    have nd := sc_cut.nd
    refine ⟨_, pss_cons (ps_set (i := 1) nd rfl (Or.inl rfl) (pe_callB call_len_seq (by rfl) mL PySem.boot_len (pa_cons (pv 0) pa_nil)))
      (pss_cons (ps_while PassesOwn.never (PW.pt (pw_and (pt_cmpR op_gt (pv 1) pe_int (nomark _)) (pw_and1 (pt_cmpR op_eq (pe_ix ix_list (pv 0) (pe_op op_sub (pv 1) pe_int) (fun _ _ => rfl)) pe_int (nomark _)))))
          (pss_one (ps_aug (i := 1) nd rfl (.inl rfl) pe_int ip_sub)))
      (pss_one (ps_ret (pe_slice sl_list (pv 0) po_none (po_some (pv 1)))))), ?_⟩
    have hz := tz_le ns
    refine ⟨_, rfl, a, _, rfl, .inl hS, ?_⟩
    refine ⟨fun m σ H' => H' = H ∧ ns.length - tz ns ≤ m ∧ m ≤ ns.length ∧ σ = [some (.ref a), some (.int (m : Int))], ⟨ns.length, rfl, by omega, Nat.le_refl _, by rw [← iV_len ns]; simp [L2.start]⟩, ?_⟩
    rintro m σ H' ⟨rfl, h1, h2, rfl⟩
    have fin : ns.length - tz ns = m → Q = Q := fun _ => rfl
    (refine ⟨_, rfl, _, _, rfl, rfl, _, rfl, ?_⟩)
    by_cases hm : 0 < m
    · refine if_t (decide_eq_true (by omega)) ?_
      obtain ⟨x, hx, q1, q2⟩ : ∃ x, ns[m - 1]? = some x ∧ (ns.length - tz ns < m → x = 0) ∧ (m = ns.length - tz ns → x ≠ 0) := by
        by_cases c : ns.length - tz ns < m
        · have := tz_in ns (ns.length - m) (by omega)
          rw [show ns.length - 1 - (ns.length - m) = m - 1 by omega] at this
          exact ⟨0, this, fun _ => rfl, fun z => by omega⟩
        · obtain ⟨x, h3, h4⟩ := tz_at ns (by omega)
          rw [show ns.length - 1 - tz ns = m - 1 by omega] at h3
          exact ⟨x, h3, fun z => absurd z c, fun _ => h4⟩
      have ei : ((m : Int) - 1) = ((m - 1 : Nat) : Int) := by omega
      refine ⟨_, rfl, _, rfl, _, _, rfl, rfl, a, _, _, .int x, rfl, rfl, hS, ?_, rfl, _, rfl, ?_⟩
      · show atI (iV ns) ((m : Int) - 1) = _
        rw [ei]
        exact atI_nat (iV_at hx)
      · by_cases e : x = 0
        · subst e
          refine if_t (decide_eq_true rfl) ?_
          have c : ns.length - tz ns < m := by
            rcases Nat.lt_or_ge (ns.length - tz ns) m with c | c
            · exact c
            · exact absurd rfl (q2 (by omega))
          refine ⟨fun σ H2 => H2 = H' ∧ σ = [some (.ref a), some (.int ((m - 1 : Nat) : Int))], fun σ H2 z => ⟨m - 1, by omega, z.1, by omega, by omega, z.2⟩, ?_⟩
          refine ⟨_, rfl, _, _, rfl, rfl, rfl, ?_⟩
          show [some (V.ref a), some (V.int ((m : Int) - 1))] = _
          rw [ei]
        · refine if_f (decide_eq_false fun z => e (by injection z)) ?_
          have c : m = ns.length - tz ns := by
            rcases Nat.lt_or_ge (ns.length - tz ns) m with c | c
            · exact absurd (q1 c) e
            · omega
          refine ⟨_, rfl, _, rfl, _, rfl, a, _, rfl, hS, fun p hp => k p _ hp (Evl.Ex.new hp) ?_⟩
          rw [upd_same, cut_to _ (by rw [iV_len]; omega), c]
          unfold trm iV
          rw [List.map_take]
    · refine if_f (decide_eq_false (by omega)) ?_
      have c : m = ns.length - tz ns := by omega
      refine ⟨_, rfl, _, rfl, _, rfl, a, _, rfl, hS, fun p hp => k p _ hp (Evl.Ex.new hp) ?_⟩
      rw [upd_same, cut_to _ (by rw [iV_len]; omega), c]
      unfold trm iV
      rw [List.map_take]
end
end V2


namespace V2
open PySem L2
open PySem.Spec PyProof.Rows
/-- a list of ints at a -/
def Li (H : Hp) (a : Addr) (ns : List Int) : Prop := H a = some (.lst (iV ns))
theorem Li.sq {K : PySem.W.Frag} {H : Hp} {a : Addr} {ns : List Int} (h : Li H a ns) : SqL K H a (iV ns) := SqL.of h
theorem iV_set (ns : List Int) (j : Nat) (v : Int) : (iV ns).set j (.int v) = iV (ns.set j v) := by
  unfold iV; rw [List.map_set]
theorem iV_get {ns : List Int} {i : Nat} {x : V} (h : (iV ns)[i]? = some x) : ∃ n, ns[i]? = some n ∧ x = .int n := by
  unfold iV at h
  rw [List.getElem?_map] at h
  cases e : ns[i]? with
  | none =>
    rw [e] at h
    cases h
  | some n => rw [e] at h; exact ⟨n, rfl, (Option.some.inj h).symm⟩
theorem rep_flat (k : Nat) (x : V) : (List.replicate k [x]).flatten = List.replicate k x := by simp
theorem iV_rep (k : Nat) : iV (List.replicate k 0) = List.replicate k (.int 0) := by unfold iV; simp
/-- the mutual rows of a product, as the loops of both texts run them -/
def tRowsIn (K : PySem.W.Frag) : TS := tAsg (tOp (rI0 fun i j => .int (i + j)) (tOp (rIxL K) (tVar 2) (tOp (rI0 fun i j => .int (i + j)) (tVar 3) (tVar 5))) (tOp (rI CMul fun i j => .int (i * j)) (tVar 4) (tVar 6))) (gSub (tVar 2) (tOp (rI0 fun i j => .int (i + j)) (tVar 3) (tVar 5)) rSetL)
def tRows (K : PySem.W.Frag) : TS := tFor (iEnum K (tCons (tVar 0) tNil)) (gTup K 2 (gCons (gName 3) (gCons (gName 4) gNil))) (tFor (iEnum K (tCons (tVar 1) tNil)) (gTup K 2 (gCons (gName 5) (gCons (gName 6) gNil))) (tRowsIn K))
theorem rows_read {K : PySem.W.Frag} {D : Ends} {H : Hp} {a b l : Addr} {xs ys : List Int} {N : Nat} {u3 u4 u5 u6 : Option V} (ha : Li H a xs) (hb : Li H b ys) (hl : Li H l (vec N fun _ => 0)) (na : a ≠ l) (nb : b ≠ l) (hN : xs.length + ys.length ≤ N + 1)
    (hx : ∀ x ∈ xs, -(2 ^ 64) < x ∧ x < 2 ^ 64) (k : ∀ (H' : Hp) v3 v4 v5 v6, But l H H' → Li H' l (vec N (cf xs ys xs.length)) → D.nx [some (.ref a), some (.ref b), some (.ref l), v3, v4, v5, v6] H') :
    tRows K D [some (.ref a), some (.ref b), some (.ref l), u3, u4, u5, u6] H := by
  refine ⟨_, rfl, a, _, rfl, ha.sq, for_it walk_enum (fun i σ H' => ∃ v3 v4 v5 v6, σ = [some (.ref a), some (.ref b), some (.ref l), v3, v4, v5, v6] ∧ But l H H' ∧ Li H' l (vec N (rw_ xs ys i 0)))
    ⟨_, _, _, _, rfl, But.refl _ _, ?_⟩ (fun i σ H' _ ⟨_, _, _, _, _, q, _⟩ => SqL.of (q _ _ na ha)) ?_ ?_⟩
  · rw [vec_congr (g := fun _ => 0) fun i _ => by rw [rw_0]; rfl]
    exact hl
  · rintro i x σ H' H2 hi ⟨v3, v4, v5, v6, rfl, q, hL⟩ ⟨T, z, y, rfl, hT, rfl, hz, hy⟩
    obtain rfl := (Option.some.inj hz).symm
    obtain ⟨n, hn, rfl⟩ := iV_get hy
    rw [iV_len] at hi
    have nTl : T ≠ l := (ne_of_none hL hT).symm
    have q2 : But l H (upd H' T (.tup [.int (i : Nat), .int n])) := fun c o nc e => by
      rw [upd_ne (ne_of_none (q c o nc e) hT)]; exact q c o nc e
    refine ⟨T, _, rfl, SqT.of upd_same, rfl, _, _, rfl, _, _, rfl, rfl, ?_⟩
    have hL2 : Li (upd H' T (.tup [.int (i : Nat), .int n])) l (vec N (rw_ xs ys i 0)) := Eq.trans (upd_ne nTl.symm) hL
    refine ⟨_, rfl, b, _, rfl, SqL.of (q2 _ _ nb hb), for_it walk_enum (fun j σ H3 => ∃ v5 v6, σ = [some (.ref a), some (.ref b), some (.ref l), some (.int (i : Nat)), some (.int n), v5, v6] ∧ But l H H3 ∧ Li H3 l (vec N (rw_ xs ys i j)))
      ⟨_, _, rfl, q2, hL2⟩ (fun i σ H' _ ⟨_, _, _, q, _⟩ => SqL.of (q _ _ nb hb)) ?_ ?_⟩
    · rintro j x σ H3 H4 hj ⟨v5, v6, rfl, q3, hL3⟩ ⟨T2, z, y, rfl, hT2, rfl, hz, hy⟩
      obtain rfl := (Option.some.inj hz).symm
      obtain ⟨m, hm, rfl⟩ := iV_get hy
      rw [iV_len] at hj
      have nTl2 : T2 ≠ l := (ne_of_none hL3 hT2).symm
      refine ⟨T2, _, rfl, SqT.of upd_same, rfl, _, _, rfl, _, _, rfl, rfl, ?_⟩
      have hL4 : Li (upd H3 T2 (.tup [.int (j : Nat), .int m])) l (vec N (rw_ xs ys i j)) := Eq.trans (upd_ne nTl2.symm) hL3
      have hp : i + j < N := by omega
      have ep : ((i : Nat) : Int) + ((j : Nat) : Int) = ((i + j : Nat) : Int) := by omega
      refine ⟨_, rfl, _, rfl, _, rfl, _, _, rfl, rfl, l, _, _, .int (rw_ xs ys i j (i + j)), rfl, rfl, SqL.of hL4, ?_, _, rfl, _, rfl, n, m, rfl, rfl, .inl (hx n (List.mem_of_getElem? hn)), _, _, rfl, rfl, ?_⟩
      · show atI _ (((i : Nat) : Int) + ((j : Nat) : Int)) = _
        rw [ep]
        exact atI_nat (iV_at (vec_get hp))
      refine ⟨_, rfl, _, rfl, _, rfl, _, _, rfl, rfl, l, _, _, i + j, rfl, rfl, hL4, ?_, ?_⟩
      · show ixN _ (((i : Nat) : Int) + ((j : Nat) : Int)) = _
        rw [ep]
        exact Evl.ixN_nat (by rw [iV_len, vec_len]; exact hp)
      refine ⟨_, _, rfl, fun c o nc e => ?_, ?_⟩
      · rw [upd_ne nc, upd_ne (ne_of_none (q3 c o nc e) hT2)]
        exact q3 c o nc e
      · unfold Li
        rw [upd_same]
        show some (HO.lst ((iV (vec N (rw_ xs ys i j))).set (i + j) (.int (rw_ xs ys i j (i + j) + n * m)))) = _
        rw [iV_set, vec_set (g := rw_ xs ys i (j + 1)) (by rw [rw_step, getD_at hn, getD_at hm]) fun p hp => rw_other hp]
    · rintro σ H3 ⟨v5, v6, rfl, q3, hL3⟩
      refine ⟨_, _, _, _, rfl, q3, ?_⟩
      rw [iV_len, vec_congr (g := rw_ xs ys (i + 1) 0) fun p _ => rw_end xs ys i p] at hL3
      exact hL3
  · rintro σ H' ⟨v3, v4, v5, v6, rfl, q, hL⟩
    rw [iV_len, vec_congr (g := cf xs ys xs.length) fun i _ => rw_0 _ _ _ _] at hL
    exact k H' v3 v4 v5 v6 q hL
/-- a polynomial that may be handed over: at most 16 numbers below 2 ^ 64 -/
def Pn (ns : List Int) : Prop := Pol ns ∧ ns.length ≤ 16 ∧ ∀ x ∈ ns, -(2 ^ 64) < x ∧ x < 2 ^ 64
def spTwo (m : List Int → List Int → List Int) : Sp := fun vs H Q _ => ∃ (a b : Addr) (xs ys : List Int), vs = [.ref a, .ref b] ∧ Li H a xs ∧ Li H b ys ∧ Pn xs ∧ Pn ys ∧ Evl.RetL (iV (m xs ys)) H Q
structure T2 (mg : Str → Option Value) : Prop where
  len : mg "len" = none
  max : mg "max" = none
  rng : mg "range" = none
  enu : mg "enumerate" = none
section
variable {base : Heap} {mg : Str → Option Value} {K : PySem.W.Frag} {w : World} {P : Program}
theorem tru_list {H : Hp} {a : Addr} {ns : List Int} (h : Li H a ns) : TruV K (.ref a) H (!(iV ns).isEmpty) := .inl ⟨_, SqL.of h, rfl⟩
end
end V2


namespace V2
open PySem L2
open PySem.Spec PyProof.Rows
theorem max_len (n m : Nat) : (if (m : Int) > (n : Int) then (m : Int) else (n : Int)) = ((max n m : Nat) : Int) := by
  split <;> omega
theorem gt_len (n m k : Nat) (h : k = max n m) : (if (m : Int) > (n : Int) then (m : Int) else (n : Int)) = (k : Int) := by
  rw [h]; exact max_len n m
/-- a list made longer by zeros -/
def pad (ns : List Int) (N : Nat) : List Int := ns ++ List.replicate (N - ns.length) 0
theorem pad_at {ns : List Int} {N i : Nat} (h : i < N) (hl : ns.length ≤ N) : (pad ns N)[i]? = some (ns.getD i 0) := by
  unfold pad
  by_cases h1 : i < ns.length
  · rw [List.getElem?_append_left h1, List.getD_eq_getElem?_getD, List.getElem?_eq_getElem h1]; rfl
  · rw [List.getElem?_append_right (by omega), getD_out (by omega), List.getElem?_replicate, if_pos (by omega)]
theorem iV_app (xs ys : List Int) : iV xs ++ iV ys = iV (xs ++ ys) := by unfold iV; rw [List.map_append]
theorem given_vec (n : Nat) (g : Nat → Int) : Evl.given n (fun _ => true) (fun i => .int (g i)) = iV (vec n g) := by
  unfold Evl.given iV vec
  rw [List.filter_eq_self.mpr (by simp), List.map_map]
  rfl
/-- xs + [0] * (n - len(xs)) -/
theorem el_pad {K : PySem.W.Frag} {σ : L2.St} {H : Hp} {i j : Nat} {a : Addr} {xs : List Int} {n : Nat} (hi : σ[i]? = some (some (.ref a))) (hj : σ[j]? = some (some (.int (n : Int)))) (ha : Li H a xs) (hl : xs.length ≤ n) (hn : n ≤ 100) :
    Evl.EvL (tOp rCat (tVar i) (tOp rRep (tLst (tCons (tC (.int 0)) tNil)) (tOp (rI0 fun i j => .int (i - j)) (tVar j) (tCB (Evl.rLenS K) (tCons (tVar i) tNil))))) σ H (iV (pad xs n)) := by
  intro H1 e1 Q k
  have ha1 : Li H1 a xs := e1 _ _ ha
  refine ⟨_, hi, (by show 1 ≤ sizeLine; decide), fun p hp => ?_⟩
  have e2 : Evl.Ex H1 (upd H1 p (.lst [.int 0])) := Evl.Ex.new hp
  refine ⟨_, hj, _, hi, a, _, rfl, .inl (SqL.of (e2 _ _ ha1)), _, _, rfl, rfl, p, _, _, rfl, rfl, upd_same, by rw [iV_len]; omega, by rw [iV_len]; omega, ?_, fun q hq => ?_⟩
  · rw [iV_len]
    show 1 * _ ≤ sizeLine
    exact Nat.le_trans (by omega) (show 100 ≤ sizeLine by decide)
  have e3 := e2.trans (Evl.Ex.new (o := .lst (List.replicate ((n : Int) - ((iV xs).length : Int)).toNat [V.int 0]).flatten) hq)
  refine ⟨a, q, _, _, rfl, rfl, e3 _ _ ha1, upd_same, ?_, fun r hr2 => ?_⟩
  · simp only [iV_len, rep_flat, List.length_replicate]
    exact Nat.le_trans (by omega) (show 100 ≤ sizeLine by decide)
  refine k r _ (Evl.fresh_back e3 hr2) (e3.trans (Evl.Ex.new hr2)) ?_
  rw [upd_same, rep_flat, iV_len, ← iV_rep, iV_app, show ((n : Int) - (xs.length : Int)).toNat = n - xs.length by omega]
  rfl
/-- [mine[k] + yours[k] for k in range(n)] -/
theorem el_sums {K : PySem.W.Frag} {σ : L2.St} {H : Hp} {im iy jn jk : Nat} {a b : Addr} {xs ys : List Int} {n : Nat} (hn : σ[jn]? = some (some (.int (n : Int)))) (ha : Li H a (pad xs n)) (hb : Li H b (pad ys n)) (hx : xs.length ≤ n) (hy : ys.length ≤ n) (h100 : n ≤ 100)
    (hw : ∀ x, wipe ((wipe σ [jk]).set jk (some x)) [jk] = wipe σ [jk]) (hm : ∀ x, ((wipe σ [jk]).set jk (some x))[im]? = some (some (.ref a))) (hyy : ∀ x, ((wipe σ [jk]).set jk (some x))[iy]? = some (some (.ref b))) (hk : ∀ x, ((wipe σ [jk]).set jk (some x))[jk]? = some (some x)) :
    Evl.EvL (tLc (iRng1 (tCons (tVar jn) tNil)) (gName jk) tYes (tOp (rI0 fun i j => .int (i + j)) (tOp (rIxL K) (tVar im) (tVar jk)) (tOp (rIxL K) (tVar iy) (tVar jk))) [jk]) σ H (iV (vec n fun k => xs.getD k 0 + ys.getD k 0)) := by
  have h := Evl.el_lcR1 (σ := σ) (H := H) (ta := tCons (tVar jn) tNil) (j := jk) (vs := [jk]) (t := tYes) (te := tOp (rI0 fun i j => .int (i + j)) (tOp (rIxL K) (tVar im) (tVar jk)) (tOp (rIxL K) (tVar iy) (tVar jk))) (n := (n : Int)) (fun _ => true) (fun k => .int (xs.getD k 0 + ys.getD k 0))
    (Evl.ea_cons (Evl.ev_var hn) Evl.ea_nil) ⟨by omega, by omega⟩ hw (fun i H1 _ _ => fun H2 e2 Q q => q H2 (Evl.Ex.refl _)) (fun i H1 e1 hi _ => ?_)
  · rw [Int.toNat_natCast, given_vec] at h
    exact h
  · have hi : i < n := by omega
    exact Evl.ev_op (Evl.ev_op (Evl.ev_var (hm _)) (Evl.ev_var (hk _)) (Evl.rv_ixL (SqL.of (e1 _ _ ha)) (atI_nat (iV_at (pad_at hi hx)))))
      (Evl.ev_op (Evl.ev_var (hyy _)) (Evl.ev_var (hk _)) (Evl.rv_ixL (SqL.of (e1 _ _ hb)) (atI_nat (iV_at (pad_at hi hy))))) Evl.rv_I0
section
variable {base : Heap} {mg : Str → Option Value} {K : PySem.W.Frag} {w : World} {P : Program}
theorem ok_product {f : Addr} {fd : FuncData} (F : Fun K "_law_pv_product" "_law_pv_product" s_l_product f fd) (T : T2 mg) (cT : Cal P w K mg base 1 "_law_pv_trim" p_l_trim (spTrim K)) : FnOk P w K mg base CX0 2 f fd p_l_product (spTwo fun xs ys => trm (pmul xs ys)) := by
  refine F.ok sc_l_product (fun vs H Q E h => ?_) (fun cdv A outer s H vs Q E hr h => ?_)
  · obtain ⟨a, b, xs, ys, rfl, _⟩ := h
    rfl
  · obtain ⟨a, b, xs, ys, rfl, ha, hb, hx, hy, k⟩ := h
    have k : Evl.RetL (iV (trm (pmul xs ys))) H Q := k
    have nd := sc_l_product.nd
    refine ⟨_, pss_cons (ps_set (i := 2) nd rfl (Or.inl rfl) (pe_op op_rep (pe_lst (pa_cons pe_int pa_nil)) (pe_callB (call_max2 rfl) (by rfl) T.max (by decide +kernel) (pa_cons pe_int (pa_cons (pe_op op_sub (pe_op op_add (pe_callB call_len_seq (by rfl) T.len PySem.boot_len (pa_cons (pv 0) pa_nil)) (pe_callB call_len_seq (by rfl) T.len PySem.boot_len (pa_cons (pv 1) pa_nil))) pe_int) pa_nil)))))
      (pss_cons (ps_for PassesOwn.never rfl (pi_enum (by rfl) T.enu (pa_cons (pv 0) pa_nil)) (pg_tup rfl (pgs_cons (pg_name (i := 3) nd rfl (Or.inl rfl)) (pgs_cons (pg_name (i := 4) nd rfl (Or.inl rfl)) pgs_nil)))
        (pss_one (ps_for PassesOwn.never rfl (pi_enum (by rfl) T.enu (pa_cons (pv 1) pa_nil)) (pg_tup rfl (pgs_cons (pg_name (i := 5) nd rfl (Or.inl rfl)) (pgs_cons (pg_name (i := 6) nd rfl (Or.inl rfl)) pgs_nil)))
          (pss_one (ps_asg (pe_op op_add (pe_ix ix_list (pv 2) (pe_op op_add (pv 3) (pv 5)) (fun _ _ => rfl)) (pe_op op_mul (pv 4) (pv 6))) (pg_sub (pv 2) (pe_op op_add (pv 3) (pv 5)) set_list))))))
      (pss_one (ps_ret (pe_c cT hr (pa_cons (pv 2) pa_nil))))), ?_⟩
    obtain ⟨px, hx2, hx3⟩ := hx
    obtain ⟨py, hy2, hy3⟩ := hy
    refine ⟨(by show 1 ≤ sizeLine; decide), fun p hp => ?_⟩
    have ha1 : Li (upd H p (.lst [.int 0])) a xs := Eq.trans (upd_ne (ne_of_none ha hp)) ha
    have hb1 : Li (upd H p (.lst [.int 0])) b ys := Eq.trans (upd_ne (ne_of_none hb hp)) hb
    have eN : (if ((iV xs).length : Int) + ((iV ys).length : Int) - 1 > 0 then ((iV xs).length : Int) + ((iV ys).length : Int) - 1 else (0 : Int)) = ((xs.length + ys.length - 1 : Nat) : Int) := by
      rw [iV_len, iV_len]; split <;> omega
    refine ⟨_, rfl, a, _, rfl, .inl ha1.sq, _, rfl, b, _, rfl, .inl hb1.sq, _, _, rfl, rfl, _, _, rfl, rfl, _, _, rfl, p, _, _, rfl, rfl, upd_same, by rw [eN]; omega, by rw [eN]; omega, ?_, fun l hl => ?_⟩
    · rw [eN]
      show 1 * _ ≤ sizeLine
      refine Nat.le_trans ?_ (show 100 ≤ sizeLine by decide)
      omega
    refine rows_read (K := K) (N := xs.length + ys.length - 1) (Eq.trans (upd_ne (ne_of_none ha1 hl)) ha1) (Eq.trans (upd_ne (ne_of_none hb1 hl)) hb1) ?_ (ne_of_none ha1 hl) (ne_of_none hb1 hl) (by omega) hx3 fun H' v3 v4 v5 v6 q hL => ?_
    · unfold Li
      rw [upd_same, eN, Int.toNat_natCast, rep_flat, vec_zero, iV_rep]
    · refine ⟨_, rfl, l, _, rfl, hL.sq, by rw [vec_len]; omega, fun r H2 hr e2 h2 => ?_⟩
      have e0 : Evl.Ex H H' := fun c o e => by
        have e1 : upd H p (.lst [.int 0]) c = some o := Eq.trans (upd_ne (ne_of_none e hp)) e
        exact q c o (ne_of_none e1 hl) (Eq.trans (upd_ne (ne_of_none e1 hl)) e1)
      exact k r H2 (Evl.fresh_back e0 hr) (e0.trans e2) h2
theorem ok_sum {f : Addr} {fd : FuncData} (F : Fun K "_law_pv_sum" "_law_pv_sum" s_l_sum f fd) (T : T2 mg) (cT : Cal P w K mg base 1 "_law_pv_trim" p_l_trim (spTrim K)) : FnOk P w K mg base CX0 2 f fd p_l_sum (spTwo fun xs ys => trm (padd xs ys)) := by
  refine F.ok sc_l_sum (fun vs H Q E h => ?_) (fun cdv A outer s H vs Q E hr h => ?_)
  · obtain ⟨a, b, xs, ys, rfl, _⟩ := h
    rfl
  · obtain ⟨a, b, xs, ys, rfl, ha, hb, hx, hy, k⟩ := h
    have k : Evl.RetL (iV (trm (padd xs ys))) H Q := k
    have nd := sc_l_sum.nd
    refine ⟨_, pss_cons (ps_set (i := 2) nd rfl (Or.inl rfl) (pe_callB (call_max2 rfl) (by rfl) T.max (by decide +kernel) (pa_cons (pe_callB call_len_seq (by rfl) T.len PySem.boot_len (pa_cons (pv 0) pa_nil)) (pa_cons (pe_callB call_len_seq (by rfl) T.len PySem.boot_len (pa_cons (pv 1) pa_nil)) pa_nil))))
      (pss_cons (ps_set (i := 0) nd rfl (Or.inr rfl) (pe_op op_cat (pv 0) (pe_op op_rep (pe_lst (pa_cons pe_int pa_nil)) (pe_op op_sub (pv 2) (pe_callB call_len_seq (by rfl) T.len PySem.boot_len (pa_cons (pv 0) pa_nil))))))
      (pss_cons (ps_set (i := 1) nd rfl (Or.inr rfl) (pe_op op_cat (pv 1) (pe_op op_rep (pe_lst (pa_cons pe_int pa_nil)) (pe_op op_sub (pv 2) (pe_callB call_len_seq (by rfl) T.len PySem.boot_len (pa_cons (pv 1) pa_nil))))))
      (pss_one (ps_ret (pe_c cT hr (pa_cons (pe_lc (own := [("k", 3)]) (g := gName 3) (tt := tYes) (te := tOp (rI0 fun i j => .int (i + j)) (tOp (rIxL K) (tVar 0) (tVar 3)) (tOp (rIxL K) (tVar 1) (tVar 3))) rfl nd (pi_range1 (by rfl) T.rng (pa_cons (pv 2) pa_nil)) (blkOk_by (N := n_l_sum) (sc := defScope s_l_sum) (by decide +kernel)) (fun _ _ _ _ _ => pg_name (i := 3) nd rfl (Or.inl rfl)) (fun _ _ _ _ _ => pts_nil)
        (fun _ _ _ _ _ => pe_op op_add (pe_ix ix_list (pv 0) (pv 3) (fun _ _ => rfl)) (pe_ix ix_list (pv 1) (pv 3) (fun _ _ => rfl)))) pa_nil)))))), ?_⟩
    obtain ⟨px, hx2, hx3⟩ := hx
    obtain ⟨py, hy2, hy3⟩ := hy
    generalize hn : max xs.length ys.length = n
    have em : (if ((iV ys).length : Int) > ((iV xs).length : Int) then ((iV ys).length : Int) else ((iV xs).length : Int)) = (n : Int) := by
      rw [iV_len, iV_len]; exact gt_len _ _ _ hn.symm
    refine ⟨_, rfl, a, _, rfl, .inl ha.sq, _, rfl, b, _, rfl, .inl hb.sq, _, _, rfl, ?_⟩
    rw [em]
    refine el_pad (K := K) (n := n) (xs := xs) (a := a) rfl rfl ha (by omega) (by omega) H (Evl.Ex.refl _) _ fun p H1 hp e1 h1 => ?_
    refine el_pad (K := K) (n := n) (xs := ys) (a := b) rfl rfl (e1 _ _ hb) (by omega) (by omega) H1 (Evl.Ex.refl _) _ fun q H2 hq e2 h2 => ?_
    have hG := el_sums (K := K) (σ := [some (.ref p), some (.ref q), some (.int (n : Int)), none]) (jn := 2) (jk := 3) (im := 0) (iy := 1) (n := n) (xs := xs) (ys := ys) (a := p) (b := q) rfl (e2 _ _ h1) h2 (by omega) (by omega) (by omega) (by intro _; rfl) (by intro _; rfl) (by intro _; rfl) (by intro _; rfl) _ (Evl.Ex.refl _) (fun x H1 => spTrim K [x] H1 Q E0) (fun r H4 hr4 e4 h4 => by
      refine ⟨r, _, rfl, SqL.of h4, by rw [vec_len]; omega, fun z H5 hz e5 h5 => ?_⟩
      have e05 := (e1.trans e2).trans e4
      refine k z H5 (Evl.fresh_back e05 hz) (e05.trans e5) ?_
      rw [h5, ← hn]
      rfl)
    exact hG
end
end V2


namespace V2
/-! ## what a polynomial is at a fraction p by q -/
def hT (p q : Int) : List Int → Int
  | [] => 0
  | a :: r => hT p q r * p + a * q ^ r.length
def hA (p q : Int) : List Int → Int
  | [] => 0
  | a :: r => a * q ^ (r.length + 1) + p * hA p q r
theorem hT_hA (p q : Int) : ∀ l : List Int, hT p q l * q = hA p q l
  | [] => by show (0 : Int) * q = 0; exact Int.zero_mul q
  | a :: r => by
    show (hT p q r * p + a * q ^ r.length) * q = a * q ^ (r.length + 1) + p * hA p q r
    rw [← hT_hA p q r, Int.pow_succ, Int.add_mul, Int.add_comm]
    congr 1
    · rw [Int.mul_assoc]
    · rw [Int.mul_comm (hT p q r) p, Int.mul_assoc]
theorem hA_snoc (p q : Int) (a : Int) : ∀ l : List Int, hA p q (l ++ [a]) = hA p q l * q + a * p ^ l.length * q
  | [] => by
    show a * q ^ (0 + 1) + p * 0 = 0 * q + a * p ^ 0 * q
    simp [Int.pow_succ]
  | b :: r => by
    show b * q ^ ((r ++ [a]).length + 1) + p * hA p q (r ++ [a]) = (b * q ^ (r.length + 1) + p * hA p q r) * q + a * p ^ (r.length + 1) * q
    rw [hA_snoc p q a r, List.length_append, List.length_singleton, Int.pow_succ q (r.length + 1), Int.pow_succ p, Int.add_mul, Int.mul_add]
    have e1 : b * (q ^ (r.length + 1) * q) = b * q ^ (r.length + 1) * q := by rw [Int.mul_assoc]
    have e2 : p * (hA p q r * q) = p * hA p q r * q := by rw [Int.mul_assoc]
    have e3 : p * (a * p ^ r.length * q) = a * (p ^ r.length * p) * q := by simp only [Int.mul_assoc, Int.mul_comm, Int.mul_left_comm]
    rw [e1, e2, e3, Int.add_assoc]
theorem hT_drop (p q : Int) (l : List Int) (k : Nat) (x : Int) (hk : k < l.length) (h : l[l.length - 1 - k]? = some x) : hT p q (l.drop (l.length - (k + 1))) = hT p q (l.drop (l.length - k)) * p + x * q ^ k := by
  have e1 : l.drop (l.length - (k + 1)) = x :: l.drop (l.length - k) := by
    have h2 : l.length - (k + 1) < l.length := by omega
    rw [List.drop_eq_getElem_cons h2]
    have h3 : l[l.length - (k + 1)] = x := by
      have : l[l.length - (k + 1)]? = some x := by rw [show l.length - (k + 1) = l.length - 1 - k by omega]; exact h
      rw [List.getElem?_eq_getElem h2] at this
      exact Option.some.inj this
    rw [h3, show l.length - (k + 1) + 1 = l.length - k by omega]
  rw [e1]
  show hT p q (l.drop (l.length - k)) * p + x * q ^ (l.drop (l.length - k)).length = _
  rw [List.length_drop, show l.length - (l.length - k) = k by omega]
theorem npow_lt {q : Int} {n : Nat} (h : q.natAbs < 2 ^ n) : ∀ k, (q ^ k).natAbs < 2 ^ (n * k + 1)
  | 0 => by
    rw [Nat.mul_zero, Nat.zero_add, Int.pow_zero]
    decide
  | k + 1 => by
    rw [Int.pow_succ, Int.natAbs_mul, Nat.mul_succ, show n * k + n + 1 = n * k + 1 + n by omega, Nat.pow_add]
    exact Nat.mul_lt_mul'' (npow_lt h k) h
theorem hT_lt {p q : Int} (hp : p.natAbs < 2 ^ 50) (hq : q.natAbs < 2 ^ 50) : ∀ (l : List Int), (∀ x ∈ l, x.natAbs < 2 ^ 64) → (hT p q l).natAbs < 2 ^ (65 + 51 * l.length)
  | [], _ => by show (0 : Int).natAbs < _; exact Nat.pow_pos (by decide)
  | a :: r, h => by
    have h1 := hT_lt hp hq r fun x hx => h x (List.mem_cons_of_mem _ hx)
    have h2 := npow_lt hq r.length
    have ha := h a List.mem_cons_self
    have m1 : (hT p q r * p).natAbs < 2 ^ (65 + 51 * r.length + 50) := by
      (rw [Int.natAbs_mul, Nat.pow_add])
      exact Nat.mul_lt_mul'' h1 hp
    have m2 : (a * q ^ r.length).natAbs < 2 ^ (64 + (50 * r.length + 1)) := by
      (rw [Int.natAbs_mul, Nat.pow_add])
      exact Nat.mul_lt_mul'' ha h2
    have m3 : (2 : Nat) ^ (64 + (50 * r.length + 1)) ≤ 2 ^ (65 + 51 * r.length + 50) := Nat.pow_le_pow_right (by decide) (by omega)
    have m4 : (2 : Nat) ^ (65 + 51 * (r.length + 1)) = 2 ^ (65 + 51 * r.length + 50) * 2 := by
      rw [← Nat.pow_succ]; congr 1
    show (hT p q r * p + a * q ^ r.length).natAbs < 2 ^ (65 + 51 * (r.length + 1))
    rw [m4]
    omega
theorem hA_lt {p q : Int} (hp : p.natAbs < 2 ^ 50) (hq : q.natAbs < 2 ^ 50) {l : List Int} (h : ∀ x ∈ l, x.natAbs < 2 ^ 64) : (hA p q l).natAbs < 2 ^ (115 + 51 * l.length) := by
  rw [← hT_hA, Int.natAbs_mul, show 115 + 51 * l.length = 65 + 51 * l.length + 50 by omega, Nat.pow_add]
  exact Nat.mul_lt_mul'' (hT_lt hp hq l h) hq
theorem qpos {q : Int} (h : 0 < q) (k : Nat) : 0 < q ^ k := Int.pow_pos h
/-- one step of the law's sum -/
theorem at_step {p q : Int} (hq : 0 < q) (pre : List Int) (a : Int) :
    let F := fr (hA p q pre) (q ^ pre.length)
    let W := fr (p ^ pre.length) (q ^ pre.length)
    let M := fr (a * W.1) (1 * W.2)
    fr (F.1 * M.2 + M.1 * F.2) (F.2 * M.2) = fr (hA p q (pre ++ [a])) (q ^ (pre.length + 1)) := by
  intro F W M
  have qk := qpos hq pre.length
  have f2 : 0 < F.2 := fr_pos qk
  have w2 : 0 < W.2 := fr_pos qk
  have w2' : 0 < 1 * W.2 := by omega
  have m2 : 0 < M.2 := fr_pos w2'
  have e1 : F.1 * q ^ pre.length = hA p q pre * F.2 := fr_val qk
  have e2 : W.1 * q ^ pre.length = p ^ pre.length * W.2 := fr_val qk
  have e3 : M.1 * (1 * W.2) = a * W.1 * M.2 := fr_val w2'
  refine fr_eq (Int.mul_pos f2 m2) (qpos hq _) ?_
  generalize F.1 = x1 at *
  generalize F.2 = x2 at *
  generalize M.1 = y1 at *
  generalize M.2 = y2 at *
  generalize W.1 = z1 at *
  generalize W.2 = z2 at *
  rw [hA_snoc, Int.pow_succ]
  generalize hA p q pre = A at *
  generalize p ^ pre.length = pk at *
  generalize q ^ pre.length = Qk at *
  rw [Int.one_mul] at e3
  have e4 : y1 * Qk = a * pk * y2 := by
    refine Int.eq_of_mul_eq_mul_right (Int.ne_of_gt w2) ?_
    calc y1 * Qk * z2 = (y1 * z2) * Qk := by simp only [Int.mul_assoc, Int.mul_comm, Int.mul_left_comm]
      _ = a * z1 * y2 * Qk := by rw [e3]
      _ = a * y2 * (z1 * Qk) := by simp only [Int.mul_assoc, Int.mul_comm, Int.mul_left_comm]
      _ = a * y2 * (pk * z2) := by rw [e2]
      _ = a * pk * y2 * z2 := by simp only [Int.mul_assoc, Int.mul_comm, Int.mul_left_comm]
  calc (x1 * y2 + y1 * x2) * (Qk * q) = (x1 * Qk) * (y2 * q) + (y1 * Qk) * (x2 * q) := by rw [Int.add_mul]; congr 1 <;> simp only [Int.mul_assoc, Int.mul_comm, Int.mul_left_comm]
    _ = (A * x2) * (y2 * q) + (a * pk * y2) * (x2 * q) := by rw [e1, e4]
    _ = (A * q + a * pk * q) * (x2 * y2) := by rw [Int.add_mul]; congr 1 <;> simp only [Int.mul_assoc, Int.mul_comm, Int.mul_left_comm]
theorem pw_step {p q : Int} (hq : 0 < q) (hc : Int.gcd p q = 1) (k : Nat) : fr ((fr (p ^ k) (q ^ k)).1 * p) ((fr (p ^ k) (q ^ k)).2 * q) = fr (p ^ (k + 1)) (q ^ (k + 1)) := by
  have qk := qpos hq k
  have e := fr_val (a := p ^ k) qk
  have f2 := fr_pos (u := p ^ k) qk
  refine fr_eq (Int.mul_pos f2 hq) (qpos hq _) ?_
  rw [Int.pow_succ, Int.pow_succ]
  generalize (fr (p ^ k) (q ^ k)).1 = x at *
  generalize (fr (p ^ k) (q ^ k)).2 = y at *
  generalize p ^ k = pk at *
  generalize q ^ k = Qk at *
  calc x * p * (Qk * q) = (x * Qk) * (p * q) := by simp only [Int.mul_assoc, Int.mul_comm, Int.mul_left_comm]
    _ = (pk * y) * (p * q) := by rw [e]
    _ = pk * p * (y * q) := by simp only [Int.mul_assoc, Int.mul_comm, Int.mul_left_comm]
/-- both tell one number -/
theorem val_same {p q : Int} (hq : 0 < q) (l : List Int) (h : l ≠ []) : fr (hT p q l) (q ^ (l.length - 1)) = fr (hA p q l) (q ^ l.length) := by
  refine fr_eq (qpos hq _) (qpos hq _) ?_
  obtain ⟨n, e⟩ : ∃ n, l.length = n + 1 := ⟨l.length - 1, by have := List.length_pos_iff.mpr h; omega⟩
  rw [e, Nat.add_sub_cancel, Int.pow_succ, ← hT_hA]
  simp only [Int.mul_assoc, Int.mul_comm, Int.mul_left_comm]
end V2


namespace V2
open PySem L2
open PySem.Spec PyProof.Rows
/-- a fraction's tuple at a -/
def Fr (H : Hp) (a : Addr) (p q : Int) : Prop := H a = some (.tup [.int p, .int q])
def Qn (p q : Int) : Prop := 0 < q ∧ Int.gcd p q = 1 ∧ p.natAbs < 2 ^ 50 ∧ q.natAbs < 2 ^ 50
/-- the value of a polynomial at a fraction, a new fraction -/
def spVal : Sp := fun vs H Q _ => ∃ (a b : Addr) (xs : List Int) (p q : Int), vs = [.ref a, .ref b] ∧ Li H a xs ∧ Fr H b p q ∧ Pn xs ∧ Qn p q ∧ RetU [.int (fr (hA p q xs) (q ^ xs.length)).1, .int (fr (hA p q xs) (q ^ xs.length)).2] H Q
/-- its numerator and denominator, not in lowest terms -/
def spScaled : Sp := fun vs H Q _ => ∃ (a b : Addr) (xs : List Int) (p q : Int), vs = [.ref a, .ref b] ∧ Li H a xs ∧ Fr H b p q ∧ Pn xs ∧ Qn p q ∧ RetU [.int (hT p q xs), .int (q ^ (xs.length - 1))] H Q
theorem n64 {x : Int} (h : -(2 ^ 64) < x ∧ x < 2 ^ 64) : x.natAbs < 2 ^ 64 := by
  have e : (2 : Int) ^ 64 = 18446744073709551616 := by decide
  have e2 : (2 : Nat) ^ 64 = 18446744073709551616 := by decide
  rw [e] at h
  rw [e2]
  omega
section
variable {base : Heap} {mg : Str → Option Value} {K : PySem.W.Frag} {w : World} {P : Program}
end
end V2


namespace V2
open PySem L2
open PySem.Spec PyProof.Rows
theorem big {x : Int} {n m : Nat} (h : x.natAbs < 2 ^ n) (l : n ≤ m) : x.natAbs < 2 ^ m := Nat.lt_of_lt_of_le h (Nat.pow_le_pow_right (by decide) l)
theorem take_len {xs : List Int} {i : Nat} (h : i ≤ xs.length) : (xs.take i).length = i := by rw [List.length_take]; omega
theorem take_snoc {xs : List Int} {i : Nat} {x : Int} (h : xs[i]? = some x) : xs.take (i + 1) = xs.take i ++ [x] := by
  rw [List.take_add_one, h]; rfl
section
variable {base : Heap} {mg : Str → Option Value} {K : PySem.W.Frag} {w : World} {P : Program}
end
end V2


namespace V2
open PySem L2
open PySem.Spec PyProof.Rows
structure T3 (mg : Str → Option Value) : Prop where
  isi : mg "isinstance" = none
  int : mg "int" = none
  bool : mg "bool" = none
  lst : mg "list" = none
  tup : mg "tuple" = none
  len : mg "len" = none
  all : mg "all" = none
  gcd : mg "gcd" = some (.builtin "math.gcd")
def spInt : Sp := fun vs H Q _ => ∃ n : Int, vs = [.int n] ∧ Evl.RetV (.bl true) H Q
def spPol : Sp := fun vs H Q _ => ∃ (a : Addr) (ns : List Int), vs = [.ref a] ∧ Li H a ns ∧ Pn ns ∧ Evl.RetV (.bl true) H Q
def spIsFr : Sp := fun vs H Q _ => ∃ (a : Addr) (p q : Int), vs = [.ref a] ∧ Fr H a p q ∧ Qn p q ∧ Evl.RetV (.bl true) H Q
def spChk : Sp := fun vs H Q _ => ∃ (l : Addr) (as : List Addr), vs = [.ref l] ∧ H l = some (.lst (as.map V.ref)) ∧ as.length ≤ 10 ∧ (∀ a ∈ as, ∃ ns, Li H a ns ∧ Pn ns) ∧ Evl.RetV .non H Q
def spChkFr : Sp := fun vs H Q _ => ∃ (a : Addr) (p q : Int), vs = [.ref a] ∧ Fr H a p q ∧ Qn p q ∧ Evl.RetV .non H Q
theorem atI_end {ns : List Int} (h0 : ns ≠ []) : ∃ x, ns[ns.length - 1]? = some x ∧ atI (iV ns) (-1) = some (.int x) := by
  have e := List.dropLast_concat_getLast h0
  refine ⟨ns.getLast h0, ?_, ?_⟩
  · rw [← List.getLast?_eq_getElem?, List.getLast?_eq_some_getLast h0]
  · have e2 : iV ns = iV ns.dropLast ++ [.int (ns.getLast h0)] := by
      conv => lhs; rw [← e]
      unfold iV
      rw [List.map_append]
      rfl
    rw [e2]
    exact atI_last _ _
theorem rep_snoc (n : Nat) (x : V) : List.replicate n x ++ [x] = List.replicate (n + 1) x := by
  rw [List.replicate_succ']
section
variable {base : Heap} {mg : Str → Option Value} {K : PySem.W.Frag} {w : World} {P : Program}
theorem ok_is_integer {f : Addr} {fd : FuncData} (F : Fun K "is_integer" "is_integer" s_is_integer f fd) (T : T3 mg) : FnOk P w K mg base CX0 1 f fd p_is_integer spInt := by
  refine F.ok sc_is_integer (fun vs H Q E h => ?_) (fun cdv A outer s H vs Q E hr h => ?_)
  · obtain ⟨n, rfl, _⟩ := h
    rfl
  · obtain ⟨n, rfl, k⟩ := h
    refine ⟨_, pss_one (ps_ret (pe_and (pe_callB call_isi (by rfl) T.isi (by decide +kernel) (pa_cons (pv 0) (pa_cons (pe_bltn (v := .ty "int") (by rfl) T.int (by decide +kernel) rfl) pa_nil)))
      (pe_one (pe_not (pe_callB call_isi (by rfl) T.isi (by decide +kernel) (pa_cons (pv 0) (pa_cons (pe_bltn (v := .ty "bool") (by rfl) T.bool (by decide +kernel) rfl) pa_nil))))))), ?_⟩
    refine ⟨_, rfl, _, _, _, _, true, rfl, .ty "int", .base (.int n), kit_ty (by decide +kernel), true, rfl, if_t rfl ?_⟩
    refine ⟨_, rfl, _, _, _, _, false, rfl, .ty "bool", .base (.int n), kit_ty (by decide +kernel), false, rfl, ?_⟩
    exact k _ (Evl.Ex.refl _)
theorem ok_is_polynomial {f : Addr} {fd : FuncData} (F : Fun K "is_polynomial" "is_polynomial" s_is_polynomial f fd) (T : T3 mg) (cI : Cal P w K mg base 1 "is_integer" p_is_integer spInt) : FnOk P w K mg base CX0 2 f fd p_is_polynomial spPol := by
  refine F.ok sc_is_polynomial (fun vs H Q E h => ?_) (fun cdv A outer s H vs Q E hr h => ?_)
  · obtain ⟨a, ns, rfl, _⟩ := h
    rfl
  · obtain ⟨a, ns, rfl, ha, hp, k⟩ := h
    have nd := sc_is_polynomial.nd
    refine ⟨_, pss_cons (ps_if (PW.pt (pw_or (pt_not (pt_val (pe_callB call_isi (by rfl) T.isi (by decide +kernel) (pa_cons (pv 0) (pa_cons (pe_bltn (v := .ty "list") (by rfl) T.lst (by decide +kernel) rfl) pa_nil)))))
        (pw_or1 (pt_not (pt_val (pe_callB (cr_all rfl) (by rfl) T.all (by decide +kernel) (pa_cons (pe_lc (own := [("number", 1)]) (g := gName 1) (tt := tYes) (te := tCall spInt [] E0 (tCons (tVar 1) tNil)) rfl nd (pi_list (pv 0)) (blkOk_by (N := n_is_polynomial) (sc := defScope s_is_polynomial) (by decide +kernel)) (fun _ _ _ _ _ => pg_name (i := 1) nd rfl (Or.inl rfl)) (fun _ _ _ _ _ => pts_nil)
          (fun _ _ _ _ _ => pe_c cI hr (pa_cons (pv 1) pa_nil))) pa_nil))))))) (pss_one (ps_ret pe_bl)) pss_nil)
      (pss_one (ps_ret (pe_or (pe_notT (pv 0)) (pe_one (pe_cmpR op_ne (pe_ix ix_list (pv 0) (pe_un un_neg pe_int) (fun _ _ => rfl)) pe_int (nomark _)))))), ?_⟩
    obtain ⟨p1, p2, p3⟩ := hp
    refine ⟨_, rfl, _, _, _, _, true, rfl, .ty "list", .base (.lst ha), kit_ty (by decide +kernel), true, rfl, if_f rfl ?_⟩
    refine ⟨_, rfl, a, rfl, ⟨_, ha.sq⟩, fun D hD => lc_list (xs := iV ns) (fun i H' => Evl.Ex H H' ∧ H' D = some (.lst (List.replicate i (.bl true)))) ⟨Evl.Ex.new hD, upd_same⟩ (fun i H' _ q => SqL.of (q.1 _ _ ha)) ?_ ?_⟩
    · rintro i x H' hi ⟨e1, h1⟩
      obtain ⟨n, hn, rfl⟩ := iV_get hi
      have hl : i < ns.length := (List.getElem?_eq_some_iff.mp hn).1
      refine ⟨rfl, ?_⟩
      show tCall spInt [] E0 (tCons (tVar 1) tNil) _ _ _
      refine ⟨_, rfl, n, rfl, fun H2 e2 => ⟨_, e2 _ _ h1, ?_, ?_, ?_⟩⟩
      · rw [List.length_replicate]; exact Nat.lt_of_lt_of_le (show i < 100 by omega) (by decide)
      · exact Evl.Ex.mut (e1.trans e2) hD
      · rw [upd_same, rep_snoc]
    · rintro H' ⟨e1, h1⟩
      rw [iV_len] at h1
      refine ⟨D, List.replicate ns.length true, rfl, SqL.of (by rw [h1, List.map_replicate]), true, by simp, ?_⟩
      refine if_f rfl ?_
      by_cases h0 : ns = []
      · refine ⟨_, rfl, false, .inl ⟨_, SqL.of (e1 _ _ ha), by rw [h0]; rfl⟩, _, rfl, if_t rfl ?_⟩
        exact k _ e1
      · obtain ⟨x, hx, hx2⟩ := atI_end h0
        refine ⟨_, rfl, true, .inl ⟨_, SqL.of (e1 _ _ ha), by cases ns with | nil => exact absurd rfl h0 | cons _ _ => rfl⟩, _, rfl, if_f rfl ?_⟩
        refine ⟨_, rfl, _, rfl, a, _, _, _, rfl, rfl, SqL.of (e1 _ _ ha), hx2, rfl, ?_⟩
        have e : (!decide (V.int x = V.int 0)) = true := by
          rw [decide_eq_false fun z => p1 x hx (by injection z)]; rfl
        show Q (.bl (!decide (V.int x = V.int 0))) H'
        rw [e]
        exact k _ e1
theorem ok_check_polynomials {f : Addr} {fd : FuncData} (F : Fun K "check_polynomials" "check_polynomials" s_check_polynomials f fd) (cP : Cal P w K mg base 2 "is_polynomial" p_is_polynomial spPol) : FnOk P w K mg base CX0 3 f fd p_check_polynomials spChk := by
  refine F.ok sc_check_polynomials (fun vs H Q E h => ?_) (fun cdv A outer s H vs Q E hr h => ?_)
  · obtain ⟨l, as, rfl, _⟩ := h
    rfl
  · obtain ⟨l, as, rfl, hl, h10, ha, k⟩ := h
    have nd := sc_check_polynomials.nd
    refine ⟨_, pss_one (ps_for PassesOwn.never rfl (pi_list (pv 0)) (pg_name (i := 1) nd rfl (Or.inl rfl))
      (pss_one (ps_if (pt_not (pt_val (pe_c cP hr (pa_cons (pv 1) pa_nil)))) (pss_one ps_never) pss_nil))), ?_⟩
    refine ⟨_, rfl, l, rfl, ⟨_, SqL.of hl⟩, for_list (xs := as.map V.ref) (fun i σ H' => Evl.Ex H H' ∧ ∃ v, σ = [some (.ref l), v]) ⟨Evl.Ex.refl _, none, rfl⟩ (fun i σ H' _ q => SqL.of (q.1 _ _ hl)) ?_ ?_⟩
    · rintro i x σ H' hi ⟨e1, v, rfl⟩
      rw [List.getElem?_map] at hi
      obtain ⟨a, h1, rfl⟩ : ∃ a, as[i]? = some a ∧ x = .ref a := by
        cases e : as[i]? with
        | none => rw [e] at hi; cases hi
        | some a => rw [e] at hi; exact ⟨a, rfl, (Option.some.inj hi).symm⟩
      obtain ⟨ns, hL, hP⟩ := ha a (List.mem_of_getElem? h1)
      refine ⟨_, rfl, a, ns, rfl, e1 _ _ hL, hP, fun H2 e2 => ⟨true, rfl, if_f rfl ⟨e1.trans e2, _, rfl⟩⟩⟩
    · rintro σ H' ⟨e1, v, rfl⟩
      exact k _ e1
end
end V2


namespace V2
open PySem L2
open PySem.Spec PyProof.Rows
/-- keywords alone -/
def CalK (P : Program) (w : World) (K : PySem.W.Frag) (mg : Str → Option Value) (base : Heap) (k : Nat) (x : Str) (ps ks : List Str) (gV : List V → List V) (sp : Sp) : Prop :=
  ∃ (f : Addr) (fd : FuncData) (g : List Value → List Value → List Value), FnOk P w K mg base CX0 k f fd ps sp ∧ mg x = some (.ref f) ∧ PySem.W.keepIn K (.ref f) = true ∧ KBn K fd ps 0 ks g (fun _ zs => gV zs)
theorem pe_ck {X : Cx} {k : Nat} {x : Str} {ps ks : List Str} {gV : List V → List V} {sp : Sp} {kws : List Keyword} {t : TA} {p pos : Pos} (c : CalK X.prog X.w X.K X.mg X.base k x ps ks gV sp) (hr : Room k X.A) (hkw : PK X kws t) (hg : Gl X x := by rfl)
    (hall : (backToKw pos (keywordEach kws X.env)).all (fun b => b.1.isSome) = true := by rfl)
    (hks : (backToKw pos (keywordEach kws X.env)).filterMap (fun b => b.1) = ks := by rfl) (hdb : (x == ("__debug__" : Str)) = false := by decide)
    (hpl : ((backTo pos (starEach [] X.env)).any (fun b => b.1) || (backToKw pos (keywordEach kws X.env)).any (fun b => b.1.isNone)) = false := by rfl) :
    PE X (.Call (.Name x p) [] kws pos) (fun σ H Q => t σ H fun zs H1 => zs.length = ks.length ∧ sp (gV zs) H1 Q E0) := by
  obtain ⟨f, fd, g, F, hm, hk, hb⟩ := c
  constructor
  intro pins s σ H Q I h
  apply wpAny_Call_Name_kw
  apply ld_glob I hg hm _ hdb
  apply PySem.W.callWith_KW0 (h₀ := X.base) I.ok.mod.kin hk hall _ hpl
  apply thn (hkw.run pos pins s σ H _ I h)
  rintro ws s2 ⟨zs, H2, I2, rz, l2, q2⟩
  rw [hks]
  exact ⟨I2.kIn, run_fnN (us := []) (vs := []) F hr hb pass0 I2 .nil rz rfl l2 q2⟩
section
variable {base : Heap} {mg : Str → Option Value} {K : PySem.W.Frag} {w : World} {P : Program}
end
end V2


namespace V2
open PySem L2
open PySem.Spec PyProof.Rows
/-! ## defs that show things: they are called where no repr is under way -/
structure FnG (P : Program) (w : World) (K : PySem.W.Frag) (mg : Str → Option Value) (base : Heap) (k : Nat) (f : Addr) (fd : FuncData) (ps : List Str) (sp : Sp) : Prop where
  len : ∀ vs H Qv Ee, sp vs H Qv Ee → vs.length = ps.length
  run : ∀ (A : Around) (outer : List Env) (s : Shared) (H : Hp) (args : Args) (us : List Value) (vs : List V) (Q : VK) (E : XK), A.guards = some [] → Room k A → Env0 P w K mg base A outer s H → BindsTo s fd args (ps.zip us) → Vals vs us → sp vs H Q E →
    codeAny (model P w) A (.call (.ref f) args) (CR CX0 outer P w H s Q E) s
theorem guards_deeper (A : Around) (env : Env) : (A.deeper env).guards = A.guards := rfl
/-- a def by its body, the way in told -/
theorem Fun.okG {P : Program} {w : World} {K : PySem.W.Frag} {mg : Str → Option Value} {base : Heap} {x qual : Str} {st : Stmt} {f : Addr} {fd : FuncData} {N ps : List Str} {k : Nat} {sp : Sp} (F : Fun K x qual st f fd) (S : FnScope N ps (defScope st))
    (len : ∀ vs H Qv Ee, sp vs H Qv Ee → vs.length = ps.length)
    (hbody : ∀ (cdv : Value) (A : Around) (outer : List Env) (s : Shared) (H : Hp) (vs : List V) (Q : VK) (E : XK), A.guards = some [] → Room k (A.deeper (envOfC qual (defScope st) s.heap.objs.size f cdv)) → sp vs H Q E →
      ∃ t, PSs (cxOf CX0 P w K mg base N qual (defScope st) f cdv A outer s H E).nox (defBody st) t ∧ t { nx := fun _ H' => Q .non H', rt := Q } (start N vs) H) :
    FnG P w K mg base (k + 1) f fd ps sp := by
  obtain ⟨ow, oe, kw, dc, pn, am, cdv, cu, sl, rfl, lk, hcd⟩ := F.ex
  constructor
  · exact len
  intro A outer s H args us vs Q E hg hr e0 hb r hsp
  have hl := len vs H Q E hsp
  have st1 : ∀ b o, base.get? b = some o → s.heap.get? b = some o := fun b o e => (e0.bs b o e).1
  have KX : K.In s.heap := e0.mod.kin.keeps st1
  have lim := e0.mod.nolimit.keeps st1
  have kinds : ∀ y ∈ ps.zip us, (defScope st).names.lookup y.1 = some .local ∨ ((defScope st).names.lookup y.1 = some .cell ∧ ((cellsFrom (s.heap.objs.size + 1) (defScope st).names []).lookup y.1).isSome = true) := by
    rintro ⟨n, v⟩ hy
    cases S.par n (List.of_mem_zip hy).1 with
    | inl q => exact .inl q
    | inr q => exact .inr ⟨q, PySem.W.cellsFrom_some _ _ _ (.inl q)⟩
  apply codeAny_call_function hr.depth (KX _ _ lk) rfl S.co S.gen rfl (PySem.W.codeRec_of KX hcd)
  apply hb
  apply wpAny_newFunctionEnv_cells S.kind kinds
  rintro env rfl s1 ic
  constructor
  · exact lim.keeps ic.toInCall.keep
  apply codeAny_func
  obtain ⟨t, ht, hq⟩ := hbody cdv A outer s H vs Q E hg (hr.deeper _) hsp
  have I := inv_start (CX := CX0) (E := E) (qual := qual) (f := f) (cd := cdv) S hr.hd e0 hl r ic
  apply wpAny_mono (ht.nox.run [] s1 (start N vs) H _ I hq)
  · intro fl s' hs
    cases fl with
    | ret u =>
      obtain ⟨v, σ', Hb, J, rr, q⟩ := hs
      exact ⟨v, Hb, J.os, J.bare, J.base, J.hok, rr, q⟩
    | next =>
      obtain ⟨σ', H', J, q⟩ := hs
      exact ⟨V.non, H', J.os, J.bare, J.base, J.hok, rfl, q⟩
    | brk => exact hs.elim fun _ z => z.elim fun _ z => z.2.elim
    | cont => exact hs.elim fun _ z => z.elim fun _ z => z.2.elim
  · exact fun e s' hs => hs
theorem FnOk.toG {P : Program} {w : World} {K : PySem.W.Frag} {mg : Str → Option Value} {base : Heap} {k : Nat} {f : Addr} {fd : FuncData} {ps : List Str} {sp : Sp} (F : FnOk P w K mg base CX0 k f fd ps sp) : FnG P w K mg base k f fd ps sp :=
  ⟨F.len, fun A outer s H args us vs Q E _ => F.run A outer s H args us vs Q E⟩
def CalG (P : Program) (w : World) (K : PySem.W.Frag) (mg : Str → Option Value) (base : Heap) (k : Nat) (x : Str) (ps : List Str) (sp : Sp) : Prop :=
  ∃ (f : Addr) (fd : FuncData), FnG P w K mg base k f fd ps sp ∧ mg x = some (.ref f) ∧ PySem.W.keepIn K (.ref f) = true ∧ Binds K fd ps []
theorem pe_cg {X : Cx} {k : Nat} {x : Str} {ps : List Str} {sp : Sp} {e : Expr} {es : List Expr} {t : TA} {p pos : Pos} (c : CalG X.prog X.w X.K X.mg X.base k x ps sp) (hgd : X.A.guards = some []) (hr : Room k X.A) (ha : PA X (e :: es) t) (hg : Gl X x := by rfl)
    (he : starEach (e :: es) X.env = (false, eval e X.env) :: starEach es X.env := by rfl)
    (hpl : (backTo pos (starEach es X.env)).any (fun b => b.1) = false := by rfl) (hdb : (x == ("__debug__" : Str)) = false := by decide) :
    PE X (.Call (.Name x p) (e :: es) [] pos) (tCall sp [] E0 t) := by
  obtain ⟨f, fd, F, hm, hk, hb⟩ := c
  constructor
  intro pins s σ H Q I h
  apply wpAny_Call_Name_kw
  apply ld_glob I hg hm _ hdb
  refine PySem.W.callWith_K (h₀ := X.base) I.ok.mod.kin hk ?_ he hpl
  apply thn (ha.run pos pins s σ H _ I h)
  rintro us s1 ⟨vs, H1, I1, r, q⟩
  refine ⟨I1.kIn, ?_⟩
  (show wpAny _ _ (call (.ref f) us) _ _ _)
  have q : sp (vs ++ []) H1 Q E0 := q
  rw [List.append_nil] at q
  have hl : us.length = ps.length := by rw [← Paired.length r]; exact F.len _ _ _ _ q
  have bb := hb s1 us I1.kIn (by rw [List.append_nil]; exact hl)
  rw [List.append_nil] at bb
  apply wpAny_call
  apply codeAny_mono (F.run X.A X.stack s1 H1 ⟨us, []⟩ us vs Q E0 hgd hr I1.env0 bb r q)
  intro r' s' hq
  cases r' with
  | error e => exact hq.elim
  | ok fl =>
    cases fl with
    | ret u => exact I1.after hq
    | next => exact hq.elim
    | brk => exact hq.elim
    | cont => exact hq.elim
/-- repr of what is data -/
def rShow (K : PySem.W.Frag) : List V → Hp → VK → Prop := fun xs H Q => ∃ (a : Addr) (d : PyData), xs = [.ref a] ∧ Dp K H (.ref a) d ∧ d.showable = true ∧ d.hasDict = false ∧ d.depth ≤ 60 ∧ d.shown.length ≤ sizeLine ∧ Q (.str d.shown) H
theorem call_show {X : Cx} (hgd : X.A.guards = some []) (hu : X.A.units + 64 < cLine) : CallR X (.builtin "repr") (rShow X.K) := by
  intro pins
  intro s σ H xs us Q I r h
  obtain ⟨a, d, rfl, hd, hs, hn, hp, hz, q⟩ := h
  obtain ⟨u, rfl, ru⟩ : ∃ u, us = [u] ∧ RelV (.ref a) u := by
    cases r with
    | cons ra rb =>
      cases rb
      exact ⟨_, rfl, ra⟩
  have eu : u = Value.ref a := ru
  subst eu
  obtain ⟨as, rd⟩ := Dp.reads I d (.ref a) (.ref a) hd rfl
  apply repr_of_reads' rd hs (fun z => by rw [hn] at z; cases z) hgd (by omega) (fun _ _ e => e) _ hz
  intro h' u tk k
  exact ⟨.str d.shown, H, I.kept (t' := tk) k, ⟨u, rfl⟩, q⟩
end V2


namespace V2
open PySem L2
open PySem.Spec PyProof.Rows
/-! ## the law's own call -/
/-- it says True and leaves what it found -/
def Fine (s₁ : Shared) : Result → Shared → Prop := fun r s2 =>
  r = .ok (.ret (.bool true)) ∧ OldK s₁.heap s2.heap ∧ s2.os = s₁.os ∧ AllBare s2.gens
section
variable {P : Program} {w : World} {K : PySem.W.Frag} {mg mb : Str → Option Value} {k : Nat} {fa a : Addr} {fd : FuncData} {x : Str} {sp : Sp} {s₁ : Shared} {vs : List Value} {ns : List Int}
/-- from an abstract heap that tracks the script at most -/
theorem core_G (KX : K.In s₁.heap) (hns : s₁.heap.Ns mainGlobals mg) (hb : s₁.heap.Ns builtinsNs mb) (hbb : ∀ x : Str, x ≠ "__name__" → mb x = bootBuiltins x) (hlim : s₁.heap.NoLimit) (hg : s₁.gens = #[])
    (ha : s₁.heap.get? a = some { cls := .type "list", data := .seq vs.toArray }) (hr : Room k callerA)
    (F : ∀ base : Heap, K.In base → base.Ns mainGlobals mg → FnG P w K mg base k fa fd [x] sp) (hbind : ∀ (s : Shared) (u : Value), BindsTo s fd ⟨[u], []⟩ [(x, u)])
    (H : Hp) (hO : Only H) (hq : sp [.ref a] H (fun v _ => v = .bl true) fun _ _ _ => False) (hok : HOk P w H s₁.heap) (hA : ∀ b u, H b = some u → b = a) (hK : ∀ u, H a = some u → K.lookup a = none) :
    codeAny (model P w) callerA (.call (.ref fa) ⟨[.ref a], []⟩) (Fine s₁) s₁ := by
  have dictNo : ∀ {b : Addr} {o : Obj} {es : Array DictEntry} {ep : Nat}, s₁.heap.get? b = some o → o.data = .dict es ep → H b = none := by
    intro b o es ep e d
    cases q : H b with
    | none => rfl
    | some u =>
      obtain rfl := hA b u q
      rw [ha] at e
      cases e
      cases d
  have hideNs : ∀ {b : Addr} {m : Str → Option Value}, s₁.heap.Ns b m → (hidT s₁.heap H).Ns b m := by
    rintro b m ⟨o, es, ep, e, d, r⟩
    exact ⟨o, es, ep, hidT_get e (dictNo e d), d, r⟩
  have hKb : K.In (hidT s₁.heap H) := by
    intro b o e
    apply hidT_get (KX b o e)
    cases q : H b with
    | none => rfl
    | some u =>
      obtain rfl := hA b u q
      rw [hK u q] at e
      cases e
  have hM : Mod K mg (hidT s₁.heap H) := by
    obtain ⟨mc, h1, h2⟩ := hlim
    exact ⟨hKb, hideNs hns, ⟨mb, hideNs hb, hbb⟩, ⟨mc, hideNs h1, h2⟩⟩
  have none_ : ∀ b ∈ frs [], H b = none := by
    intro b hb
    cases (show b ∈ ([] : List Addr) from hb)
  have e0 : Env0 P w K mg (hidT s₁.heap H) callerA [] s₁ H := ⟨rfl, hM, fun b o e => of_hidT e, Nat.le_of_eq (hidT_size _ _), trivial, none_, hok, .of_eq hg⟩
  apply codeAny_mono ((F _ hKb (hideNs hns)).run callerA [] s₁ H ⟨[.ref a], []⟩ [.ref a] [.ref a] _ _ rfl hr e0 (hbind s₁ (.ref a)) (.cons rfl .nil) hq)
  intro r s' h
  cases r with
  | error e => exact h.elim
  | ok fl =>
    cases fl with
    | next => exact h.elim
    | brk => exact h.elim
    | cont => exact h.elim
    | ret u =>
      obtain ⟨v, H', os, bare, un, hok', r', rfl⟩ := h
      have eu : u = Value.bool true := r'
      subst eu
      refine ⟨rfl, OldK.of_keep ?_, os, bare⟩
      intro b o e
      cases q : H b with
      | none => exact un.keep b o e q (by intro z; cases (show b ∈ ([] : List Addr) from z)) (by intro z; cases z)
      | some u =>
        (rcases hO b with z | ⟨ob, xs, z⟩)
        · rw [q] at z; cases z
        · have e1 := (hok b _ z).1
          have e2 := (hok' b _ (un.frzs b ob _ z)).1
          rw [e] at e1
          cases e1
          exact e2
theorem law_G (KX : K.In s₁.heap) (hns : s₁.heap.Ns mainGlobals mg) (hb : s₁.heap.Ns builtinsNs mb) (hbb : ∀ x : Str, x ≠ "__name__" → mb x = bootBuiltins x) (hlim : s₁.heap.NoLimit) (hg : s₁.gens = #[])
    (ha : s₁.heap.get? a = some { cls := .type "list", data := .seq vs.toArray })
    (hi : IntsAre vs ns) (hl : ns.length ≤ sizeLine) (hr : Room k callerA)
    (F : ∀ base : Heap, K.In base → base.Ns mainGlobals mg → FnG P w K mg base k fa fd [x] sp) (hbind : ∀ (s : Shared) (u : Value), BindsTo s fd ⟨[u], []⟩ [(x, u)])
    (hsp : ∀ H : Hp, Only H → SqL K H a (ns.map V.int) → sp [.ref a] H (fun v _ => v = .bl true) fun _ _ _ => False) :
    codeAny (model P w) callerA (.call (.ref fa) ⟨[.ref a], []⟩) (Fine s₁) s₁ := by
  have rv := vals_ints hi
  have lenV := hi.length
  cases hk : K.lookup a with
  | some o =>
    have e := KX a o hk
    rw [ha] at e
    cases e
    have hS : SqL K (fun _ => none) a (ns.map V.int) := .inr ⟨_, vs.toArray, _, hk, rfl, rfl, rfl, by rw [List.size_toArray, lenV]; exact hl, by simpa using rv⟩
    have hO : Only (fun _ => none) := fun _ => .inl rfl
    exact core_G KX hns hb hbb hlim hg ha hr F hbind _ hO (hsp _ hO hS) (fun b u z => by cases (show (none : Option HO) = some u from z)) (fun b u z => by cases (show (none : Option HO) = some u from z)) fun u z => by cases (show (none : Option HO) = some u from z)
  | none =>
    let H : Hp := fun b => if b = a then some (.frz { cls := .type "list", data := .seq vs.toArray } (.lst (ns.map V.int))) else none
    have at_a : H a = some (.frz { cls := .type "list", data := .seq vs.toArray } (.lst (ns.map V.int))) := if_pos rfl
    have off : ∀ b u, H b = some u → b = a := by
      intro b u z
      by_cases e : b = a
      · exact e
      · rw [show H b = none from if_neg e] at z; cases z
    have hO : Only H := by
      intro b
      by_cases e : b = a
      · exact .inr ⟨_, _, by rw [e]; exact at_a⟩
      · exact .inl (if_neg e)
    have hok : HOk P w H s₁.heap := by
      intro b u z
      obtain rfl := off b u z
      rw [at_a] at z
      cases z
      (exact ⟨ha, by rw [List.length_map]; exact hl, vs, _, rv, ha⟩)
    exact core_G KX hns hb hbb hlim hg ha hr F hbind H hO (hsp H hO (.inl (.inr ⟨_, at_a⟩))) hok off fun _ _ => hk
end
theorem walk_G {l : PySem.W.OpenLaw} {n k : Nat} {q : Program} {loose : List Str} {XP : (Str → Option Value) → Heap → Prop} {YP : World → Heap → Prop} {d : DefRec} {K : Params → PySem.W.Frag} {sp : PySem.W.Frag → Sp} {x : Str}
    (hn : l.most = some n) (hn2 : n ≤ sizeLine)
    (hdf : d.params.defaults = []) (hr : Room k callerA)
    (hY : ∀ (w : World) (hp : Heap), YP w hp → (K w.params).In hp)
    (F : ∀ (w : World) (mg : Str → Option Value) (fa : Addr) (hp : Heap), (K w.params).In hp → hp.Ns mainGlobals mg → mg d.name = some (.ref fa) →
      ∃ fd : FuncData, (∀ (s : Shared) (u : Value), BindsTo s fd ⟨[u], []⟩ [(x, u)]) ∧ ∀ base : Heap, (K w.params).In base → base.Ns mainGlobals mg → FnG l.prog w (K w.params) mg base k fa fd [x] (sp (K w.params)))
    (hsp : ∀ (K : PySem.W.Frag) (H : Hp) (a : Addr) (ns : List Int), ns.length ≤ n → Only H → SqL K H a (ns.map V.int) → sp K [.ref a] H (fun v _ => v = .bl true) fun _ _ _ => False) :
    PySem.W.WalkO q loose XP YP l.row.toRowW d []
      (fun f us => PySem.call f us) := by
  apply Att.attach_call hn hdf
  intro w s₀ s₁ mg mb fa o pm cd doc a vs ns G Y ho hd hcd hmg hobj hints hlen hg
  obtain ⟨fd, hb, hF⟩ := F w mg fa _ (hY w _ Y) G.T.g hmg
  exact law_G (hY w _ Y) G.T.g G.T.b G.T.builtins G.T.nolimit hg hobj hints (Nat.le_trans hlen hn2) hr hF hb fun H hO hS => hsp _ H a ns hlen hO hS
end V2


namespace V2
open PySem L2
open PySem.Spec PyProof.Rows
/-! ## flat lists and tuples of ints, and lists of such -/
abbrev Itm := Bool × Addr × List Int
def ItAt (H : Hp) (i : Itm) : Prop := H i.2.1 = some (if i.1 = true then .lst (iV i.2.2) else .tup (iV i.2.2))
def itD (i : Itm) : PyData := if i.1 = true then .list (i.2.2.map .int) else .tuple (i.2.2.map .int)
def refs (its : List Itm) : List V := its.map fun i => .ref i.2.1
def TreeAt (H : Hp) (a : Addr) (its : List Itm) : Prop := H a = some (.lst (refs its)) ∧ ∀ i ∈ its, ItAt H i
def treeD (its : List Itm) : PyData := .list (its.map itD)
def lsts (its : List Itm) : List (Addr × List Int) := its.filterMap fun i => if i.1 = true then some (i.2.1, i.2.2) else none
def goM : Nat → List Itm → List PyData
  | _, [] => []
  | k, (true, _, ns) :: r => .list ((ns ++ [(k : Int)]).map .int) :: goM (k + 1) r
  | k, (false, _, ns) :: r => .tuple (ns.map .int) :: goM k r
def markD (its : List Itm) : PyData := .list (goM 1 its ++ [.int 0])
/-- all that is marked: the list itself, then its lists -/
def CL (a : Addr) (its : List Itm) : List (Addr × List V) := (a, refs its) :: (lsts its).map fun p => (p.1, iV p.2)
def Dst (a : Addr) (its : List Itm) : Prop := ((CL a its).map (·.1)).Nodup
def Off (S : List Addr) (H H' : Hp) : Prop := ∀ b o, b ∉ S → H b = some o → H' b = some o
theorem ItAt.ex {H H' : Hp} {i : Itm} (h : ItAt H i) (e : Evl.Ex H H') : ItAt H' i := e _ _ h
theorem TreeAt.ex {H H' : Hp} {a : Addr} {its : List Itm} (h : TreeAt H a its) (e : Evl.Ex H H') : TreeAt H' a its := ⟨e _ _ h.1, fun i hi => (h.2 i hi).ex e⟩
theorem lsts_mem {its : List Itm} {b : Addr} {ns : List Int} (h : (b, ns) ∈ lsts its) : (true, b, ns) ∈ its := by
  obtain ⟨i, hi, e⟩ := List.mem_filterMap.mp h
  obtain ⟨k, c, ms⟩ := i
  cases k with
  | true => simp at e; obtain ⟨rfl, rfl⟩ := e; exact hi
  | false => simp at e
theorem dpI {K : PySem.W.Frag} {H : Hp} : ∀ ns : List Int, DpAll K H (iV ns) (ns.map .int)
  | [] => .nil
  | n :: r => .cons (.int n) (dpI r)
theorem dp_it {K : PySem.W.Frag} {H : Hp} {i : Itm} (h : ItAt H i) : Dp K H (.ref i.2.1) (itD i) := by
  obtain ⟨b, a, ns⟩ := i
  cases b with
  | true => exact .lst (SqL.of h) (dpI ns)
  | false => exact .tup (SqT.of h) (dpI ns)
theorem dp_tree {K : PySem.W.Frag} {H : Hp} {a : Addr} {its : List Itm} (h : TreeAt H a its) : Dp K H (.ref a) (treeD its) := by
  refine .lst (SqL.of h.1) ?_
  have key : ∀ l : List Itm, (∀ i ∈ l, ItAt H i) → DpAll K H (refs l) (l.map itD) := by
    intro l
    induction l with
    | nil => intro _; exact .nil
    | cons i r ih => intro q; exact .cons (dp_it (q i List.mem_cons_self)) (ih fun j hj => q j (List.mem_cons_of_mem _ hj))
  exact key its h.2
/-- behind the marking -/
theorem dp_go {K : PySem.W.Frag} {H : Hp} : ∀ (its : List Itm) (k : Nat), (∀ j b ns, (lsts its)[j]? = some (b, ns) → H b = some (.lst (iV (ns ++ [((k + j : Nat) : Int)])))) → (∀ i ∈ its, i.1 = false → H i.2.1 = some (.tup (iV i.2.2))) → DpAll K H (refs its) (goM k its)
  | [], _, _, _ => .nil
  | (true, b, ns) :: r, k, h1, h2 => by
    have e : lsts ((true, b, ns) :: r) = (b, ns) :: lsts r := by unfold lsts; rw [List.filterMap_cons_some (by rfl)]
    have h0 := h1 0 b ns (by rw [e]; rfl)
    refine .cons (.lst (SqL.of h0) (dpI _)) (dp_go r (k + 1) (fun j c ms hj => ?_) fun i hi => h2 i (List.mem_cons_of_mem _ hi))
    have := h1 (j + 1) c ms (by rw [e]; exact hj)
    rw [show k + (j + 1) = k + 1 + j by omega] at this
    exact this
  | (false, b, ns) :: r, k, h1, h2 => by
    have e : lsts ((false, b, ns) :: r) = lsts r := by unfold lsts; rw [List.filterMap_cons_none (by rfl)]
    exact .cons (.tup (SqT.of (h2 (false, b, ns) List.mem_cons_self rfl)) (dpI _)) (dp_go r k (fun j c ms hj => h1 j c ms (by rw [e]; exact hj)) fun i hi => h2 i (List.mem_cons_of_mem _ hi))
theorem go_shape : ∀ (k : Nat) (l m : List Itm), l.map (fun i => (i.1, i.2.2)) = m.map (fun i => (i.1, i.2.2)) → goM k l = goM k m
  | _, [], [], _ => rfl
  | _, [], _ :: _, h => by simp at h
  | _, _ :: _, [], h => by simp at h
  | k, (b, x, ns) :: l, (c, y, ms) :: m, h => by
    simp only [List.map_cons, List.cons.injEq, Prod.mk.injEq] at h
    obtain ⟨⟨rfl, rfl⟩, h2⟩ := h
    cases b with
    | true => show _ :: goM (k + 1) l = _ :: goM (k + 1) m; rw [go_shape (k + 1) l m h2]
    | false => show _ :: goM k l = _ :: goM k m; rw [go_shape k l m h2]
theorem tree_shape {l m : List Itm} (h : l.map (fun i => (i.1, i.2.2)) = m.map (fun i => (i.1, i.2.2))) : treeD l = treeD m := by
  have e : ∀ k : List Itm, k.map itD = (k.map fun i => (i.1, i.2.2)).map fun p => if p.1 = true then PyData.list (p.2.map .int) else .tuple (p.2.map .int) := fun k => by rw [List.map_map]; rfl
  unfold treeD
  rw [e, e, h]
theorem mark_shape {l m : List Itm} (h : l.map (fun i => (i.1, i.2.2)) = m.map (fun i => (i.1, i.2.2))) : markD l = markD m := by
  unfold markD; rw [go_shape 1 l m h]
theorem kA_int {K : PySem.W.Frag} : PySem.W.kitAny K (.type "int") [.type "list", .type "tuple"] = some false := kitAny_cons (b := false) (kit_ty (by decide +kernel)) (fun _ => kitAny_cons (b := false) (kit_ty (by decide +kernel)) (fun _ => kitAny_nil) (fun h => by cases h)) (fun h => by cases h)
theorem kA_lst {K : PySem.W.Frag} : PySem.W.kitAny K (.type "list") [.type "list", .type "tuple"] = some true := kitAny_cons (b := true) (kit_ty (by decide +kernel)) (fun h => by cases h) (fun _ => rfl)
theorem kA_tup {K : PySem.W.Frag} : PySem.W.kitAny K (.type "tuple") [.type "list", .type "tuple"] = some true := kitAny_cons (b := false) (kit_ty (by decide +kernel)) (fun _ => kitAny_cons (b := true) (kit_ty (by decide +kernel)) (fun h => by cases h) (fun _ => rfl)) (fun h => by cases h)
structure T4 (mg : Str → Option Value) : Prop where
  isi : mg "isinstance" = none
  lst : mg "list" = none
  tup : mg "tuple" = none
  len : mg "len" = none
  rng : mg "range" = none
  rep : mg "repr" = none
def spL0 : Sp := fun vs H Q _ => ∃ n : Int, vs = [.int n] ∧ Evl.RetL [] H Q
def spL1 : Sp := fun vs H Q _ => ∃ i : Itm, vs = [.ref i.2.1] ∧ ItAt H i ∧ i.2.2.length ≤ 100 ∧ Evl.RetL (if i.1 = true then [.ref i.2.1] else []) H Q
def spL2 : Sp := fun vs H Q _ => ∃ (a : Addr) (its : List Itm), vs = [.ref a] ∧ TreeAt H a its ∧ its.length ≤ 100 ∧ (∀ i ∈ its, i.2.2.length ≤ 100) ∧ Evl.RetL ((CL a its).map fun p => .ref p.1) H Q
def spC0 : Sp := fun vs H Q _ => ∃ n : Int, vs = [.int n] ∧ Evl.RetV (.int n) H Q
def spC1 : Sp := fun vs H Q _ => ∃ i : Itm, vs = [.ref i.2.1] ∧ ItAt H i ∧ i.2.2.length ≤ 100 ∧ ∀ p H2, H p = none → Evl.Ex H H2 → ItAt H2 (i.1, p, i.2.2) → Q (.ref p) H2
def spC2 : Sp := fun vs H Q _ => ∃ (a : Addr) (its : List Itm), vs = [.ref a] ∧ TreeAt H a its ∧ its.length ≤ 100 ∧ (∀ i ∈ its, i.2.2.length ≤ 100) ∧
  ∀ p jts H2, H p = none → Evl.Ex H H2 → TreeAt H2 p jts → Dst p jts → (∀ x ∈ CL p jts, H x.1 = none) → jts.map (fun i => (i.1, i.2.2)) = its.map (fun i => (i.1, i.2.2)) → Q (.ref p) H2
def lrefs (its : List Itm) : List V := (lsts its).map fun p => .ref p.1
theorem lrefs_snoc {its : List Itm} {i : Nat} {x : Itm} (h : its[i]? = some x) : lrefs (its.take (i + 1)) = lrefs (its.take i) ++ (if x.1 = true then [.ref x.2.1] else []) := by
  rw [List.take_add_one, h]
  unfold lrefs lsts
  rw [List.filterMap_append, List.map_append]
  congr 1
  obtain ⟨b, a, ns⟩ := x
  cases b <;> rfl
theorem lrefs_len (its : List Itm) : (lrefs its).length ≤ its.length := by
  unfold lrefs lsts
  rw [List.length_map]
  exact List.length_filterMap_le _ _
theorem refs_get {its : List Itm} {i : Nat} {x : V} (h : (refs its)[i]? = some x) : ∃ j, its[i]? = some j ∧ x = .ref j.2.1 := by
  unfold refs at h
  rw [List.getElem?_map] at h
  cases e : its[i]? with
  | none =>
    rw [e] at h
    cases h
  | some j => rw [e] at h; exact ⟨j, rfl, (Option.some.inj h).symm⟩
theorem refs_len (its : List Itm) : (refs its).length = its.length := List.length_map ..
theorem cl_refs (a : Addr) (its : List Itm) : ((CL a its).map fun p => V.ref p.1) = .ref a :: lrefs its := by
  unfold CL lrefs
  rw [List.map_cons, List.map_map]
  rfl
section
variable {base : Heap} {mg : Str → Option Value} {K : PySem.W.Frag} {w : World} {P : Program}
theorem ok_lists0 {f : Addr} {fd : FuncData} (F : Fun K "_law_pv_lists" "_law_pv_lists" s_l_lists f fd) (T : T4 mg) : FnOk P w K mg base CX0 1 f fd p_l_lists spL0 := by
  refine F.ok sc_l_lists (fun vs H Q E h => ?_) (fun cdv A outer s H vs Q E hr h => ?_)
  · obtain ⟨n, rfl, _⟩ := h
    rfl
  · obtain ⟨n, rfl, k⟩ := h
    have nd := sc_l_lists.nd
    refine ⟨_, pss_cons (ps_set (i := 1) nd rfl (Or.inl rfl) (pe_lst pa_nil))
      (pss_cons (ps_if (pt_val (pe_callB call_isi (by rfl) T.isi (by decide +kernel) (pa_cons (pv 0) (pa_cons (pe_bltn (v := .ty "list") (by rfl) T.lst (by decide +kernel) rfl) pa_nil)))) (pss_one ps_never) pss_nil)
      (pss_cons (ps_if (pt_val (pe_callB call_isiT (by rfl) T.isi (by decide +kernel) (pa_cons (pv 0) (pa_cons (pe_tup (pa_cons (pe_bltn (v := .ty "list") (by rfl) T.lst (by decide +kernel) rfl) (pa_cons (pe_bltn (v := .ty "tuple") (by rfl) T.tup (by decide +kernel) rfl) pa_nil))) pa_nil)))) (pss_one ps_never) pss_nil)
      (pss_one (ps_ret (pv 1))))), ?_⟩
    refine ⟨Nat.zero_le _, fun l hl => ⟨_, rfl, _, _, _, _, false, rfl, .ty "list", .base (.int n), kit_ty (by decide +kernel), false, rfl, if_f rfl ?_⟩⟩
    refine ⟨_, rfl, (by show 2 ≤ sizeLine; decide), fun t ht => ⟨_, t, _, _, _, false, rfl, upd_same, .cons (.ty "list") (.cons (.ty "tuple") .nil), .base (.int n), ?_, false, rfl, if_f rfl ?_⟩⟩
    · exact kA_int
    · refine ⟨_, rfl, k l _ hl ((Evl.Ex.new hl).trans (Evl.Ex.new ht)) ?_⟩
      exact Evl.Ex.new ht _ _ upd_same
theorem ok_lists1 {f : Addr} {fd : FuncData} (F : Fun K "_law_pv_lists" "_law_pv_lists" s_l_lists f fd) (T : T4 mg) (c0 : Cal P w K mg base 1 "_law_pv_lists" p_l_lists spL0) : FnOk P w K mg base CX0 2 f fd p_l_lists spL1 := by
  refine F.ok sc_l_lists (fun vs H Q E h => ?_) (fun cdv A outer s H vs Q E hr h => ?_)
  · obtain ⟨i, rfl, _⟩ := h
    rfl
  · obtain ⟨⟨b, a, ns⟩, rfl, hI, hz, k⟩ := h
    have nd := sc_l_lists.nd
    have two : 2 ≤ sizeLine := by show 2 ≤ sizeLine; decide
    cases b with
    | true =>
      have hI : H a = some (.lst (iV ns)) := hI
      have k : Evl.RetL [.ref a] H Q := k
      refine ⟨_, pss_cons (ps_set (i := 1) nd rfl (Or.inl rfl) (pe_lst pa_nil))
        (pss_cons (ps_if (pt_val (pe_callB call_isi (by rfl) T.isi (by decide +kernel) (pa_cons (pv 0) (pa_cons (pe_bltn (v := .ty "list") (by rfl) T.lst (by decide +kernel) rfl) pa_nil))))
          (pss_one (ps_expr (pe_bm PySem.F.plainAttrs_list PySem.F.slot_list_append PySem.F.type_list_append mt_append (pv 1) (pa_cons (pv 0) pa_nil)))) pss_nil)
        (pss_cons (ps_if (pt_val (pe_callB call_isiT (by rfl) T.isi (by decide +kernel) (pa_cons (pv 0) (pa_cons (pe_tup (pa_cons (pe_bltn (v := .ty "list") (by rfl) T.lst (by decide +kernel) rfl) (pa_cons (pe_bltn (v := .ty "tuple") (by rfl) T.tup (by decide +kernel) rfl) pa_nil))) pa_nil))))
          (pss_one (ps_for PassesOwn.never rfl (pi_list (pv 0)) (pg_name (i := 2) nd rfl (Or.inl rfl)) (pss_one (ps_set (i := 1) nd rfl (Or.inl rfl) (pe_op op_cat (pv 1) (pe_c c0 hr (pa_cons (pv 2) pa_nil))))))) pss_nil)
        (pss_one (ps_ret (pv 1))))), ?_⟩
      (refine ⟨Nat.zero_le _, fun l hl => ?_⟩)
      have e1 : Evl.Ex H (upd H l (.lst [])) := Evl.Ex.new hl
      refine ⟨_, rfl, _, _, _, _, true, rfl, .ty "list", .base (.lst (e1 _ _ hI)), kit_ty (by decide +kernel), true, rfl, if_t rfl ?_⟩
      refine ⟨_, rfl, .inl ⟨rfl, _, SqL.of upd_same⟩, _, rfl, l, _, _, rfl, rfl, upd_same, by show 0 < sizeLine; decide, ?_⟩
      rw [upd_upd]
      have e2 : Evl.Ex H (upd H l (.lst [.ref a])) := Evl.Ex.new hl
      refine ⟨_, rfl, two, fun t ht => ⟨_, t, _, _, _, true, rfl, upd_same, .cons (.ty "list") (.cons (.ty "tuple") .nil), .base (.lst (Evl.Ex.new ht _ _ (e2 _ _ hI))), kA_lst, true, rfl, if_t rfl ?_⟩⟩
      have e3 := e2.trans (Evl.Ex.new (o := .tup [.ty "list", .ty "tuple"]) ht)
      refine ⟨_, rfl, a, rfl, ⟨_, SqL.of (e3 _ _ hI)⟩, for_list (xs := iV ns) (fun i σ H' => Evl.Ex H H' ∧ ∃ q v, σ = [some (.ref a), some (.ref q), v] ∧ H q = none ∧ H' q = some (.lst [.ref a]))
        ⟨e3, l, none, rfl, hl, Evl.Ex.new ht _ _ upd_same⟩ (fun i σ H' _ q => SqL.of (q.1 _ _ hI)) ?_ ?_⟩
      · rintro i x σ H' hi ⟨e4, q, v, rfl, hq, hq2⟩
        obtain ⟨n, hn, rfl⟩ := iV_get hi
        refine ⟨_, rfl, _, rfl, n, rfl, fun z H2 hz2 e5 h5 => ⟨q, z, _, _, rfl, rfl, e5 _ _ hq2, h5, by show 1 ≤ sizeLine; decide, fun y hy => ?_⟩⟩
        refine ⟨(e4.trans e5).trans (Evl.Ex.new hy), y, _, rfl, Evl.fresh_back (e4.trans e5) hy, ?_⟩
        rw [upd_same]; rfl
      · rintro σ H' ⟨e4, q, v, rfl, hq, hq2⟩
        exact ⟨_, rfl, k q H' hq e4 hq2⟩
    | false =>
      have hI : H a = some (.tup (iV ns)) := hI
      have k : Evl.RetL [] H Q := k
      refine ⟨_, pss_cons (ps_set (i := 1) nd rfl (Or.inl rfl) (pe_lst pa_nil))
        (pss_cons (ps_if (pt_val (pe_callB call_isi (by rfl) T.isi (by decide +kernel) (pa_cons (pv 0) (pa_cons (pe_bltn (v := .ty "list") (by rfl) T.lst (by decide +kernel) rfl) pa_nil)))) (pss_one ps_never) pss_nil)
        (pss_cons (ps_if (pt_val (pe_callB call_isiT (by rfl) T.isi (by decide +kernel) (pa_cons (pv 0) (pa_cons (pe_tup (pa_cons (pe_bltn (v := .ty "list") (by rfl) T.lst (by decide +kernel) rfl) (pa_cons (pe_bltn (v := .ty "tuple") (by rfl) T.tup (by decide +kernel) rfl) pa_nil))) pa_nil))))
          (pss_one (ps_for PassesOwn.never rfl (pi_tup (pv 0)) (pg_name (i := 2) nd rfl (Or.inl rfl)) (pss_one (ps_set (i := 1) nd rfl (Or.inl rfl) (pe_op op_cat (pv 1) (pe_c c0 hr (pa_cons (pv 2) pa_nil))))))) pss_nil)
        (pss_one (ps_ret (pv 1))))), ?_⟩
      (refine ⟨Nat.zero_le _, fun l hl => ?_⟩)
      have e1 : Evl.Ex H (upd H l (.lst [])) := Evl.Ex.new hl
      refine ⟨_, rfl, _, _, _, _, false, rfl, .ty "list", .base (.tup (e1 _ _ hI)), kit_ty (by decide +kernel), false, rfl, if_f rfl ?_⟩
      refine ⟨_, rfl, two, fun t ht => ⟨_, t, _, _, _, true, rfl, upd_same, .cons (.ty "list") (.cons (.ty "tuple") .nil), .base (.tup (Evl.Ex.new ht _ _ (e1 _ _ hI))), kA_tup, true, rfl, if_t rfl ?_⟩⟩
      have e3 := e1.trans (Evl.Ex.new (o := .tup [.ty "list", .ty "tuple"]) ht)
      refine ⟨_, rfl, a, rfl, ⟨_, SqT.of (e3 _ _ hI)⟩, for_tup (xs := iV ns) (fun i σ H' => Evl.Ex H H' ∧ ∃ q v, σ = [some (.ref a), some (.ref q), v] ∧ H q = none ∧ H' q = some (.lst []))
        ⟨e3, l, none, rfl, hl, Evl.Ex.new ht _ _ upd_same⟩ (fun i σ H' _ q => SqT.of (q.1 _ _ hI)) ?_ ?_⟩
      · rintro i x σ H' hi ⟨e4, q, v, rfl, hq, hq2⟩
        obtain ⟨n, hn, rfl⟩ := iV_get hi
        refine ⟨_, rfl, _, rfl, n, rfl, fun z H2 hz2 e5 h5 => ⟨q, z, _, _, rfl, rfl, e5 _ _ hq2, h5, by show 0 ≤ sizeLine; decide, fun y hy => ?_⟩⟩
        refine ⟨(e4.trans e5).trans (Evl.Ex.new hy), y, _, rfl, Evl.fresh_back (e4.trans e5) hy, ?_⟩
        rw [upd_same]; rfl
      · rintro σ H' ⟨e4, q, v, rfl, hq, hq2⟩
        exact ⟨_, rfl, k q H' hq e4 hq2⟩
theorem ok_lists2 {f : Addr} {fd : FuncData} (F : Fun K "_law_pv_lists" "_law_pv_lists" s_l_lists f fd) (T : T4 mg) (c1 : Cal P w K mg base 2 "_law_pv_lists" p_l_lists spL1) : FnOk P w K mg base CX0 3 f fd p_l_lists spL2 := by
  refine F.ok sc_l_lists (fun vs H Q E h => ?_) (fun cdv A outer s H vs Q E hr h => ?_)
  · obtain ⟨a, its, rfl, _⟩ := h
    rfl
  · obtain ⟨a, its, rfl, ⟨hI, hIt⟩, hl100, hz, k⟩ := h
    rw [cl_refs] at k
    have nd := sc_l_lists.nd
    have two : 2 ≤ sizeLine := by show 2 ≤ sizeLine; decide
    refine ⟨_, pss_cons (ps_set (i := 1) nd rfl (Or.inl rfl) (pe_lst pa_nil))
      (pss_cons (ps_if (pt_val (pe_callB call_isi (by rfl) T.isi (by decide +kernel) (pa_cons (pv 0) (pa_cons (pe_bltn (v := .ty "list") (by rfl) T.lst (by decide +kernel) rfl) pa_nil))))
        (pss_one (ps_expr (pe_bm PySem.F.plainAttrs_list PySem.F.slot_list_append PySem.F.type_list_append mt_append (pv 1) (pa_cons (pv 0) pa_nil)))) pss_nil)
      (pss_cons (ps_if (pt_val (pe_callB call_isiT (by rfl) T.isi (by decide +kernel) (pa_cons (pv 0) (pa_cons (pe_tup (pa_cons (pe_bltn (v := .ty "list") (by rfl) T.lst (by decide +kernel) rfl) (pa_cons (pe_bltn (v := .ty "tuple") (by rfl) T.tup (by decide +kernel) rfl) pa_nil))) pa_nil))))
        (pss_one (ps_for PassesOwn.never rfl (pi_list (pv 0)) (pg_name (i := 2) nd rfl (Or.inl rfl)) (pss_one (ps_set (i := 1) nd rfl (Or.inl rfl) (pe_op op_cat (pv 1) (pe_c c1 hr (pa_cons (pv 2) pa_nil))))))) pss_nil)
      (pss_one (ps_ret (pv 1))))), ?_⟩
    (refine ⟨Nat.zero_le _, fun l hl => ?_⟩)
    have e1 : Evl.Ex H (upd H l (.lst [])) := Evl.Ex.new hl
    refine ⟨_, rfl, _, _, _, _, true, rfl, .ty "list", .base (.lst (e1 _ _ hI)), kit_ty (by decide +kernel), true, rfl, if_t rfl ?_⟩
    refine ⟨_, rfl, .inl ⟨rfl, _, SqL.of upd_same⟩, _, rfl, l, _, _, rfl, rfl, upd_same, by show 0 < sizeLine; decide, ?_⟩
    rw [upd_upd]
    have e2 : Evl.Ex H (upd H l (.lst [.ref a])) := Evl.Ex.new hl
    refine ⟨_, rfl, two, fun t ht => ⟨_, t, _, _, _, true, rfl, upd_same, .cons (.ty "list") (.cons (.ty "tuple") .nil), .base (.lst (Evl.Ex.new ht _ _ (e2 _ _ hI))), kA_lst, true, rfl, if_t rfl ?_⟩⟩
    have e3 := e2.trans (Evl.Ex.new (o := .tup [.ty "list", .ty "tuple"]) ht)
    refine ⟨_, rfl, a, rfl, ⟨_, SqL.of (e3 _ _ hI)⟩, for_list (xs := refs its) (fun i σ H' => Evl.Ex H H' ∧ ∃ q v, σ = [some (.ref a), some (.ref q), v] ∧ H q = none ∧ H' q = some (.lst (.ref a :: lrefs (its.take i))))
      ⟨e3, l, none, rfl, hl, Evl.Ex.new ht _ _ upd_same⟩ (fun i σ H' _ q => SqL.of (q.1 _ _ hI)) ?_ ?_⟩
    · rintro i x σ H' hi ⟨e4, q, v, rfl, hq, hq2⟩
      obtain ⟨j, hj, rfl⟩ := refs_get hi
      have hm := List.mem_of_getElem? hj
      have li := lrefs_len (its.take i)
      have lt : (its.take i).length ≤ 100 := by rw [List.length_take]; omega
      refine ⟨_, rfl, _, rfl, j, rfl, (hIt j hm).ex e4, hz j hm, fun z H2 hz2 e5 h5 => ⟨q, z, _, _, rfl, rfl, e5 _ _ hq2, h5, ?_, fun y hy => ?_⟩⟩
      · refine Nat.le_trans ?_ (show 200 ≤ sizeLine by decide)
        rw [List.length_cons]
        split <;> simp only [List.length_cons, List.length_nil] <;> omega
      · refine ⟨(e4.trans e5).trans (Evl.Ex.new hy), y, _, rfl, Evl.fresh_back (e4.trans e5) hy, ?_⟩
        rw [upd_same, lrefs_snoc hj]; rfl
    · rintro σ H' ⟨e4, q, v, rfl, hq, hq2⟩
      rw [refs_len, List.take_length] at hq2
      exact ⟨_, rfl, k q H' hq e4 hq2⟩
/-! copies -/
theorem ok_copied0 {f : Addr} {fd : FuncData} (F : Fun K "_law_pv_copied" "_law_pv_copied" s_l_copied f fd) (T : T4 mg) : FnOk P w K mg base CX0 1 f fd p_l_copied spC0 := by
  refine F.ok sc_l_copied (fun vs H Q E h => ?_) (fun cdv A outer s H vs Q E hr h => ?_)
  · obtain ⟨n, rfl, _⟩ := h
    rfl
  · obtain ⟨n, rfl, k⟩ := h
    refine ⟨_, pss_cons (ps_if (pt_val (pe_callB call_isi (by rfl) T.isi (by decide +kernel) (pa_cons (pv 0) (pa_cons (pe_bltn (v := .ty "list") (by rfl) T.lst (by decide +kernel) rfl) pa_nil)))) (pss_one ps_never) pss_nil)
      (pss_cons (ps_if (pt_val (pe_callB call_isi (by rfl) T.isi (by decide +kernel) (pa_cons (pv 0) (pa_cons (pe_bltn (v := .ty "tuple") (by rfl) T.tup (by decide +kernel) rfl) pa_nil)))) (pss_one ps_never) pss_nil)
      (pss_one (ps_ret (pv 0)))), ?_⟩
    refine ⟨_, rfl, _, _, _, _, false, rfl, .ty "list", .base (.int n), kit_ty (by decide +kernel), false, rfl, if_f rfl ?_⟩
    refine ⟨_, rfl, _, _, _, _, false, rfl, .ty "tuple", .base (.int n), kit_ty (by decide +kernel), false, rfl, if_f rfl ?_⟩
    exact ⟨_, rfl, k _ (Evl.Ex.refl _)⟩
theorem ok_copied1 {f : Addr} {fd : FuncData} (F : Fun K "_law_pv_copied" "_law_pv_copied" s_l_copied f fd) (T : T4 mg) (c0 : Cal P w K mg base 1 "_law_pv_copied" p_l_copied spC0) : FnOk P w K mg base CX0 2 f fd p_l_copied spC1 := by
  refine F.ok sc_l_copied (fun vs H Q E h => ?_) (fun cdv A outer s H vs Q E hr h => ?_)
  · obtain ⟨i, rfl, _⟩ := h
    rfl
  · obtain ⟨⟨b, a, ns⟩, rfl, hI, hz, k⟩ := h
    have hz : ns.length ≤ 100 := hz
    have nd := sc_l_copied.nd
    cases b with
    | true =>
      have hI : H a = some (.lst (iV ns)) := hI
      refine ⟨_, pss_cons (ps_if (pt_val (pe_callB call_isi (by rfl) T.isi (by decide +kernel) (pa_cons (pv 0) (pa_cons (pe_bltn (v := .ty "list") (by rfl) T.lst (by decide +kernel) rfl) pa_nil))))
          (pss_one (ps_ret (pe_lc (own := [("part", 1)]) (g := gName 1) (tt := tYes) (te := tCall spC0 [] E0 (tCons (tVar 1) tNil)) rfl nd (pi_list (pv 0)) (blkOk_by (N := n_l_copied) (sc := defScope s_l_copied) (by decide +kernel)) (fun _ _ _ _ _ => pg_name (i := 1) nd rfl (Or.inl rfl)) (fun _ _ _ _ _ => pts_nil)
            (fun _ _ _ _ _ => pe_c c0 hr (pa_cons (pv 1) pa_nil))))) pss_nil)
        (pss_cons ps_never (pss_one ps_never)), ?_⟩
      refine ⟨_, rfl, _, _, _, _, true, rfl, .ty "list", .base (.lst hI), kit_ty (by decide +kernel), true, rfl, if_t rfl ?_⟩
      refine ⟨_, rfl, a, rfl, ⟨_, SqL.of hI⟩, fun D hD => lc_list (xs := iV ns) (fun i H' => Evl.Ex H H' ∧ H' D = some (.lst (iV (ns.take i)))) ⟨Evl.Ex.new hD, upd_same⟩ (fun i H' _ q => SqL.of (q.1 _ _ hI)) ?_ ?_⟩
      · rintro i x H' hi ⟨e1, h1⟩
        obtain ⟨n, hn, rfl⟩ := iV_get hi
        have hl : i < ns.length := (List.getElem?_eq_some_iff.mp hn).1
        refine ⟨rfl, ?_⟩
        show tCall spC0 [] E0 (tCons (tVar 1) tNil) _ _ _
        refine ⟨_, rfl, n, rfl, fun H2 e2 => ⟨_, e2 _ _ h1, ?_, ?_, ?_⟩⟩
        · rw [iV_len, List.length_take]; exact Nat.lt_of_lt_of_le (show min i ns.length < 200 by omega) (by decide)
        · exact Evl.Ex.mut (e1.trans e2) hD
        · rw [upd_same, take_snoc hn]
          unfold iV
          rw [List.map_append]
          rfl
      · rintro H' ⟨e1, h1⟩
        rw [iV_len, List.take_length] at h1
        exact k D H' hD e1 h1
    | false =>
      have hI : H a = some (.tup (iV ns)) := hI
      refine ⟨_, pss_cons (ps_if (pt_val (pe_callB call_isi (by rfl) T.isi (by decide +kernel) (pa_cons (pv 0) (pa_cons (pe_bltn (v := .ty "list") (by rfl) T.lst (by decide +kernel) rfl) pa_nil)))) (pss_one ps_never) pss_nil)
        (pss_cons (ps_if (pt_val (pe_callB call_isi (by rfl) T.isi (by decide +kernel) (pa_cons (pv 0) (pa_cons (pe_bltn (v := .ty "tuple") (by rfl) T.tup (by decide +kernel) rfl) pa_nil))))
          (pss_one (ps_ret (pe_callTy call_tuple_of (by rfl) T.tup (by decide +kernel) (pa_cons (pe_lc (own := [("part", 1)]) (g := gName 1) (tt := tYes) (te := tCall spC0 [] E0 (tCons (tVar 1) tNil)) rfl nd (pi_tup (pv 0)) (blkOk_by (N := n_l_copied) (sc := defScope s_l_copied) (by decide +kernel)) (fun _ _ _ _ _ => pg_name (i := 1) nd rfl (Or.inl rfl)) (fun _ _ _ _ _ => pts_nil)
            (fun _ _ _ _ _ => pe_c c0 hr (pa_cons (pv 1) pa_nil))) pa_nil)))) pss_nil)
        (pss_one ps_never)), ?_⟩
      refine ⟨_, rfl, _, _, _, _, false, rfl, .ty "list", .base (.tup hI), kit_ty (by decide +kernel), false, rfl, if_f rfl ?_⟩
      refine ⟨_, rfl, _, _, _, _, true, rfl, .ty "tuple", .base (.tup hI), kit_ty (by decide +kernel), true, rfl, if_t rfl ?_⟩
      refine ⟨_, rfl, a, rfl, ⟨_, SqT.of hI⟩, fun D hD => lc_tup (xs := iV ns) (fun i H' => Evl.Ex H H' ∧ H' D = some (.lst (iV (ns.take i)))) ⟨Evl.Ex.new hD, upd_same⟩ (fun i H' _ q => SqT.of (q.1 _ _ hI)) ?_ ?_⟩
      · rintro i x H' hi ⟨e1, h1⟩
        obtain ⟨n, hn, rfl⟩ := iV_get hi
        have hl : i < ns.length := (List.getElem?_eq_some_iff.mp hn).1
        refine ⟨rfl, ?_⟩
        show tCall spC0 [] E0 (tCons (tVar 1) tNil) _ _ _
        refine ⟨_, rfl, n, rfl, fun H2 e2 => ⟨_, e2 _ _ h1, ?_, ?_, ?_⟩⟩
        · rw [iV_len, List.length_take]; exact Nat.lt_of_lt_of_le (show min i ns.length < 200 by omega) (by decide)
        · exact Evl.Ex.mut (e1.trans e2) hD
        · rw [upd_same, take_snoc hn]
          unfold iV
          rw [List.map_append]
          rfl
      · rintro H' ⟨e1, h1⟩
        rw [iV_len, List.take_length] at h1
        refine ⟨D, _, rfl, .inl ⟨SqL.of h1, fun l hl => ?_⟩⟩
        exact k l _ (Evl.fresh_back e1 hl) (e1.trans (Evl.Ex.new hl)) upd_same
end
end V2


namespace V2
open PySem L2
open PySem.Spec PyProof.Rows
def sh (i : Itm) : Bool × List Int := (i.1, i.2.2)
theorem lsts_fst (its : List Itm) : (lsts its).map (·.1) = (its.filter (·.1)).map (·.2.1) := by
  unfold lsts
  induction its with
  | nil => rfl
  | cons i r ih =>
    obtain ⟨b, a, ns⟩ := i
    cases b with
    | true => rw [List.filterMap_cons_some (by rfl), List.filter_cons_of_pos (by rfl), List.map_cons, List.map_cons, ih]
    | false => rw [List.filterMap_cons_none (by rfl), List.filter_cons_of_neg (by simp), ih]
theorem cl_fst (a : Addr) (its : List Itm) : (CL a its).map (·.1) = a :: (its.filter (·.1)).map (·.2.1) := by
  unfold CL
  rw [List.map_cons, List.map_map, ← lsts_fst]
  rfl
theorem cl_mem {a : Addr} {its : List Itm} {x : Addr × List V} (h : x ∈ CL a its) : x.1 = a ∨ ∃ i ∈ its, i.1 = true ∧ i.2.1 = x.1 := by
  have h2 : x.1 ∈ (CL a its).map (·.1) := List.mem_map_of_mem h
  rw [cl_fst] at h2
  rcases List.mem_cons.mp h2 with e | h2
  · exact .inl e
  · obtain ⟨i, hi, e⟩ := List.mem_map.mp h2
    have := List.mem_filter.mp hi
    exact .inr ⟨i, this.1, this.2, e⟩
theorem dst_of {a : Addr} {its : List Itm} (h : (its.map (·.2.1)).Nodup) (ha : ∀ i ∈ its, i.2.1 ≠ a) : Dst a its := by
  unfold Dst
  rw [cl_fst, List.nodup_cons]
  refine ⟨fun hm => ?_, ?_⟩
  · obtain ⟨i, hi, e⟩ := List.mem_map.mp hm
    exact ha i (List.mem_filter.mp hi).1 e
  · exact List.Nodup.sublist (List.Sublist.map _ List.filter_sublist) h
theorem dp_snoc {K : PySem.W.Frag} {H : Hp} : ∀ (vs : List V) (ds : List PyData), DpAll K H vs ds → DpAll K H (vs ++ [.int 0]) (ds ++ [.int 0])
  | [], _, h => by
    cases h
    exact .cons (.int 0) .nil
  | _ :: vs, _, h => by
    cases h with
    | cons h1 h2 => exact .cons h1 (dp_snoc vs _ h2)
/-- what may be shown -/
def Shw (d : PyData) : Prop := d.showable = true ∧ d.hasDict = false ∧ d.depth ≤ 60 ∧ d.shown.length ≤ sizeLine
def spM : Sp := fun vs H Q _ => ∃ (a : Addr) (its : List Itm), vs = [.ref a] ∧ TreeAt H a its ∧ Dst a its ∧ its.length ≤ 100 ∧ (∀ i ∈ its, i.2.2.length ≤ 100) ∧ Shw (markD its) ∧
  ∀ H', Off ((CL a its).map (·.1)) H H' → Q (.str (markD its).shown) H'
def spR : Sp := fun vs H Q _ => ∃ (a d : Addr) (its jts : List Itm), vs = [.ref a, .ref d] ∧ TreeAt H a its ∧ Dst a its ∧ TreeAt H d jts ∧ its.map sh = jts.map sh ∧ d ∉ (CL a its).map (·.1) ∧ (∀ j ∈ jts, j.2.1 ∉ (CL a its).map (·.1)) ∧
  its.length ≤ 100 ∧ (∀ i ∈ its, i.2.2.length ≤ 100) ∧ Shw (treeD its) ∧ Shw (markD its) ∧ ∀ H', Off ((CL a its).map (·.1)) H H' → Q (.bl true) H'
section
variable {base : Heap} {mg : Str → Option Value} {K : PySem.W.Frag} {w : World} {P : Program}
theorem ok_copied2 {f : Addr} {fd : FuncData} (F : Fun K "_law_pv_copied" "_law_pv_copied" s_l_copied f fd) (T : T4 mg) (c1 : Cal P w K mg base 2 "_law_pv_copied" p_l_copied spC1) : FnOk P w K mg base CX0 3 f fd p_l_copied spC2 := by
  refine F.ok sc_l_copied (fun vs H Q E h => ?_) (fun cdv A outer s H vs Q E hr h => ?_)
  · obtain ⟨a, its, rfl, _⟩ := h
    rfl
  · obtain ⟨a, its, rfl, ⟨hI, hIt⟩, hl100, hz, k⟩ := h
    have nd := sc_l_copied.nd
    refine ⟨_, pss_cons (ps_if (pt_val (pe_callB call_isi (by rfl) T.isi (by decide +kernel) (pa_cons (pv 0) (pa_cons (pe_bltn (v := .ty "list") (by rfl) T.lst (by decide +kernel) rfl) pa_nil))))
        (pss_one (ps_ret (pe_lc (own := [("part", 1)]) (g := gName 1) (tt := tYes) (te := tCall spC1 [] E0 (tCons (tVar 1) tNil)) rfl nd (pi_list (pv 0)) (blkOk_by (N := n_l_copied) (sc := defScope s_l_copied) (by decide +kernel)) (fun _ _ _ _ _ => pg_name (i := 1) nd rfl (Or.inl rfl)) (fun _ _ _ _ _ => pts_nil)
          (fun _ _ _ _ _ => pe_c c1 hr (pa_cons (pv 1) pa_nil))))) pss_nil)
      (pss_cons ps_never (pss_one ps_never)), ?_⟩
    refine ⟨_, rfl, _, _, _, _, true, rfl, .ty "list", .base (.lst hI), kit_ty (by decide +kernel), true, rfl, if_t rfl ?_⟩
    refine ⟨_, rfl, a, rfl, ⟨_, SqL.of hI⟩, fun D hD => lc_list (xs := refs its) (fun i H' => Evl.Ex H H' ∧ ∃ jts : List Itm, H' D = some (.lst (refs jts)) ∧ jts.map sh = (its.take i).map sh ∧ (∀ j ∈ jts, ItAt H' j ∧ H j.2.1 = none ∧ j.2.1 ≠ D) ∧ (jts.map (·.2.1)).Nodup)
      ⟨Evl.Ex.new hD, [], upd_same, by simp, (by intro j hj; cases hj), List.nodup_nil⟩ (fun i H' _ q => SqL.of (q.1 _ _ hI)) ?_ ?_⟩
    · rintro i x H' hi ⟨e1, jts, h1, h2, h3, h4⟩
      obtain ⟨j, hj, rfl⟩ := refs_get hi
      have hm := List.mem_of_getElem? hj
      have hl : i < its.length := (List.getElem?_eq_some_iff.mp hj).1
      refine ⟨rfl, ?_⟩
      show tCall spC1 [] E0 (tCons (tVar 1) tNil) _ _ _
      refine ⟨_, rfl, j, rfl, (hIt j hm).ex e1, hz j hm, fun p H2 hp e2 hp2 => ⟨_, e2 _ _ h1, ?_, Evl.Ex.mut (e1.trans e2) hD, jts ++ [(j.1, p, j.2.2)], ?_, ?_, ?_, ?_⟩⟩
      · have ej : jts.length = min i its.length := by
          have := congrArg List.length h2
          rw [List.length_map, List.length_map, List.length_take] at this
          exact this
        rw [refs_len, ej]
        exact Nat.lt_of_lt_of_le (show min i its.length < 200 by omega) (by decide)
      · rw [upd_same]; unfold refs; rw [List.map_append]; rfl
      · rw [List.map_append, h2, List.take_add_one, hj]; simp [sh]
      · intro y hy
        rcases (List.mem_append.mp hy) with hy | hy
        · obtain ⟨q1, q2, q3⟩ := h3 y hy
          refine ⟨?_, q2, q3⟩
          unfold ItAt
          rw [upd_ne q3]
          exact e2 _ _ q1
        · obtain rfl := List.mem_singleton.mp hy
          have np : p ≠ D := (ne_of_none h1 hp).symm
          refine ⟨?_, Evl.fresh_back e1 hp, np⟩
          unfold ItAt
          rw [upd_ne np]
          exact hp2
      · (rw [List.map_append, List.nodup_append])
        refine ⟨h4, by simp, ?_⟩
        intro x hx y hy e
        obtain ⟨z, hz1, rfl⟩ := List.mem_map.mp hx
        obtain rfl : y = p := by simpa using hy
        exact ne_of_none (h3 z hz1).1 hp e
    · rintro H' ⟨e1, jts, h1, h2, h3, h4⟩
      rw [refs_len, List.take_length] at h2
      refine k D jts H' hD e1 ⟨h1, fun i hi => (h3 i hi).1⟩ (dst_of h4 fun i hi => (h3 i hi).2.2) (fun x hx => ?_) h2
      rcases cl_mem hx with e | ⟨i, hi, _, e⟩
      · rw [e]; exact hD
      · rw [← e]; exact (h3 i hi).2.1
theorem ok_marked {f : Addr} {fd : FuncData} (F : Fun K "_law_pv_marked" "_law_pv_marked" s_l_marked f fd) (T : T4 mg) (cL : Cal P w K mg base 3 "_law_pv_lists" p_l_lists spL2) : FnG P w K mg base 4 f fd p_l_marked spM := by
  refine Fun.okG F sc_l_marked (fun vs H Q E h => ?_) (fun cdv A outer s H vs Q E hg hr h => ?_)
  · obtain ⟨a, its, rfl, _⟩ := h
    rfl
  · obtain ⟨a, its, rfl, hT, hD, hl100, hz, ⟨w1, w2, w3, w4⟩, k⟩ := h
    have nd := sc_l_marked.nd
    refine ⟨_, pss_cons (ps_set (i := 1) nd rfl (Or.inl rfl) (pe_c cL hr (pa_cons (pv 0) pa_nil)))
      (pss_cons (ps_for PassesOwn.never rfl (pi_range1 (by rfl) T.rng (pa_cons (pe_callB call_len_seq (by rfl) T.len PySem.boot_len (pa_cons (pv 1) pa_nil)) pa_nil)) (pg_name (i := 2) nd rfl (Or.inl rfl))
        (pss_one (ps_expr (pe_bm PySem.F.plainAttrs_list PySem.F.slot_list_append PySem.F.type_list_append mt_append (pe_ix ix_list (pv 1) (pv 2) (fun _ _ => rfl)) (pa_cons (pv 2) pa_nil)))))
      (pss_one (ps_ret (pe_callB (call_show hg hr.units) (by rfl) T.rep (by decide +kernel) (pa_cons (pv 0) pa_nil))))), ?_⟩
    refine ⟨_, rfl, a, its, rfl, hT, hl100, hz, fun q H1 hq e1 h1 => ?_⟩
    have hT1 := hT.ex e1
    have cln : (CL a its).length ≤ 101 := by
      unfold CL
      rw [List.length_cons, List.length_map]
      have := lrefs_len its
      unfold lrefs at this
      rw [List.length_map] at this
      omega
    have qn : ∀ x ∈ CL a its, x.1 ≠ q := by
      intro x hx e
      rcases cl_mem hx with e2 | ⟨i, hi, _, e2⟩
      · rw [← e, e2, hT.1] at hq; cases hq
      · rw [← e, ← e2, hT.2 i hi] at hq; cases hq
    have c0 : ∀ x ∈ CL a its, H1 x.1 = some (.lst x.2) := by
      intro x hx
      rcases (List.mem_cons.mp hx) with rfl | hx
      · exact hT1.1
      · obtain ⟨p, hp, rfl⟩ := List.mem_map.mp hx
        exact hT1.2 _ (lsts_mem hp)
    refine ⟨_, rfl, q, _, rfl, .inl (SqL.of h1), _, rfl, by omega, ?_, ?_⟩
    · rw [List.length_map]; omega
    rw [Int.toNat_natCast, List.length_map]
    refine for_range (n := (CL a its).length) (fun k σ H' => (∃ v, σ = [some (.ref a), some (.ref q), v]) ∧ Off ((CL a its).map (·.1)) H1 H' ∧ H' q = some (.lst ((CL a its).map fun p => .ref p.1)) ∧
      ∀ j x, (CL a its)[j]? = some x → H' x.1 = some (.lst (x.2 ++ if j < k then [.int (j : Int)] else []))) ⟨⟨_, rfl⟩, fun _ _ _ h => h, h1, fun j x hj => ?_⟩ ?_ ?_
    · rw [if_neg (Nat.not_lt_zero _), List.append_nil]
      exact c0 x (List.mem_of_getElem? hj)
    · rintro i σ H' hi ⟨⟨v, rfl⟩, g1, g2, g3⟩
      have hx := List.getElem?_eq_getElem hi
      have hx3 := g3 i _ hx
      rw [if_neg (Nat.lt_irrefl _), List.append_nil] at hx3
      have nq := qn _ (List.getElem_mem hi)
      have e0 : (0 : Int) + (i : Int) = (i : Int) := (Int.zero_add _)
      refine ⟨_, rfl, _, rfl, q, _, _, .ref (CL a its)[i].1, rfl, rfl, SqL.of g2, ?_, .inl ⟨rfl, _, SqL.of hx3⟩, _, rfl, _, _, _, rfl, rfl, hx3, ?_, ?_⟩
      · show atI _ ((0 : Int) + (i : Int)) = _
        rw [e0]
        refine atI_nat ?_
        rw [List.getElem?_map, hx]; rfl
      · have : (CL a its)[i].2.length ≤ 100 := by
          have hm := List.getElem_mem hi
          rcases (List.mem_cons.mp hm) with e | hm
          · rw [e]; show (refs its).length ≤ 100; rw [refs_len]; exact hl100
          · obtain ⟨p, hp, e⟩ := List.mem_map.mp hm
            rw [← e]
            show (iV p.2).length ≤ 100
            rw [iV_len]
            exact hz _ (lsts_mem hp)
        exact Nat.lt_of_le_of_lt this (by decide)
      · refine ⟨⟨_, rfl⟩, fun b o hb h => ?_, ?_, fun j x hj => ?_⟩
        · rw [upd_ne (fun e => hb (by rw [e]; exact List.mem_map_of_mem (List.getElem_mem hi)))]
          exact g1 b o hb h
        · rw [upd_ne nq.symm]; exact g2
        · by_cases e : j = i
          · subst e
            rw [hx] at hj
            cases hj
            rw [upd_same, if_pos (Nat.lt_succ_self _)]
            show some (HO.lst ((CL a its)[j].2 ++ [.int ((0 : Int) + (j : Int))])) = _
            rw [e0]
          · have nx : x.1 ≠ (CL a its)[i].1 := by
              intro e2
              have hj2 : j < (CL a its).length := (List.getElem?_eq_some_iff.mp hj).1
              have ej : (CL a its)[j] = x := (List.getElem?_eq_some_iff.mp hj).2
              have hD2 : ((CL a its).map (·.1)).Nodup := hD
              have := (List.pairwise_iff_getElem.mp hD2)
              rcases Nat.lt_or_gt_of_ne e with c | c
              · exact this j i (by rw [List.length_map]; exact hj2) (by rw [List.length_map]; exact hi) c (by rw [List.getElem_map, List.getElem_map, ej, e2])
              · exact this i j (by rw [List.length_map]; exact hi) (by rw [List.length_map]; exact hj2) c (by rw [List.getElem_map, List.getElem_map, ej, e2])
            rw [upd_ne nx, g3 j x hj]
            by_cases c : j < i
            · rw [if_pos c, if_pos (by omega)]
            · rw [if_neg c, if_neg (by omega)]
    · rintro σ H' ⟨⟨v, rfl⟩, g1, g2, g3⟩
      refine ⟨_, rfl, a, markD its, rfl, ?_, w1, w2, w3, w4, k H' fun b o hb h => g1 b o hb (e1 b o h)⟩
      have ha := g3 0 (a, refs its) rfl
      rw [if_pos (by unfold CL; exact Nat.succ_pos _)] at ha
      refine .lst (SqL.of ha) ?_
      refine dp_snoc _ _ (dp_go its 1 (fun j b ns hj => ?_) fun i hi hf => ?_)
      · have hj2 : (CL a its)[j + 1]? = some (b, iV ns) := by
          unfold CL
          rw [List.getElem?_cons_succ, List.getElem?_map, hj]; rfl
        have := g3 (j + 1) _ hj2
        rw [if_pos (List.getElem?_eq_some_iff.mp hj2).1] at this
        rw [this]
        unfold iV
        rw [List.map_append, show ((1 + j : Nat) : Int) = ((j + 1 : Nat) : Int) by omega]
        rfl
      · have h2 := hT1.2 i hi
        unfold ItAt at h2
        rw [if_neg (by rw [hf]; decide)] at h2
        refine g1 _ _ (fun hm => ?_) h2
        obtain ⟨x, hx, e⟩ := List.mem_map.mp hm
        have := c0 x hx
        rw [e, h2] at this
        cases this
theorem ok_right {f : Addr} {fd : FuncData} (F : Fun K "_law_pv_right" "_law_pv_right" s_l_right f fd) (T : T4 mg) (cC : Cal P w K mg base 3 "_law_pv_copied" p_l_copied spC2) (cM : CalG P w K mg base 4 "_law_pv_marked" p_l_marked spM) : FnG P w K mg base 5 f fd p_l_right spR := by
  refine Fun.okG F sc_l_right (fun vs H Q E h => ?_) (fun cdv A outer s H vs Q E hg hr h => ?_)
  · obtain ⟨a, d, its, jts, rfl, _⟩ := h
    rfl
  · obtain ⟨a, d, its, jts, rfl, hT, hD, hU, hsh, hd, hds, hl100, hz, wT, wM, k⟩ := h
    have hm3 : Room 3 _ := hr.mono (by decide)
    refine ⟨_, pss_cons (ps_if (pt_cmpR op_ne (pe_callB (call_show hg hr.units) (by rfl) T.rep (by decide +kernel) (pa_cons (pv 0) pa_nil)) (pe_callB (call_show hg hr.units) (by rfl) T.rep (by decide +kernel) (pa_cons (pv 1) pa_nil)) (nomark _)) (pss_one (ps_ret pe_bl)) pss_nil)
      (pss_one (ps_ret (pe_cmpR op_eq (pe_cg cM hg hr (pa_cons (pv 0) pa_nil)) (pe_cg cM hg hr (pa_cons (pe_c cC hm3 (pa_cons (pv 1) pa_nil)) pa_nil)) (nomark _)))), ?_⟩
    have eT := tree_shape hsh
    have eM := mark_shape hsh
    obtain ⟨t1, t2, t3, t4⟩ := wT
    refine ⟨_, rfl, a, treeD its, rfl, dp_tree hT, t1, t2, t3, t4, _, rfl, d, treeD jts, rfl, dp_tree hU, by rw [← eT]; exact t1, by rw [← eT]; exact t2, by rw [← eT]; exact t3, by rw [← eT]; exact t4, rfl, _, rfl, ?_⟩
    rw [← eT]
    refine if_f (by simp) ?_
    refine ⟨_, rfl, a, its, rfl, hT, hD, hl100, hz, wM, fun H1 o1 => ?_⟩
    have hU1 : TreeAt H1 d jts := ⟨o1 _ _ hd hU.1, fun j hj => o1 _ _ (hds j hj) (hU.2 j hj)⟩
    have lj : jts.length = its.length := by
      have := congrArg List.length hsh
      rw [List.length_map, List.length_map] at this
      exact this.symm
    have zj : ∀ j ∈ jts, j.2.2.length ≤ 100 := by
      intro j hj
      have : sh j ∈ its.map sh := by rw [hsh]; exact List.mem_map_of_mem hj
      obtain ⟨i, hi, e⟩ := List.mem_map.mp this
      have e2 : i.2.2 = j.2.2 := congrArg (·.2) e
      rw [← e2]
      exact hz i hi
    refine ⟨_, rfl, d, jts, rfl, hU1, by omega, zj, fun p kts H2 hp e2 hT2 hD2 hn2 hs2 => ?_⟩
    have es : kts.map sh = its.map sh := Eq.trans hs2 hsh.symm
    have eK := mark_shape es
    have lk : kts.length = its.length := by
      have := congrArg List.length es
      rw [List.length_map, List.length_map] at this
      exact this
    have zk : ∀ j ∈ kts, j.2.2.length ≤ 100 := by
      intro j hj
      have : sh j ∈ its.map sh := by rw [← es]; exact List.mem_map_of_mem hj
      obtain ⟨i, hi, e⟩ := List.mem_map.mp this
      have e2 : i.2.2 = j.2.2 := congrArg (·.2) e
      rw [← e2]
      exact hz i hi
    refine ⟨p, kts, rfl, hT2, hD2, by omega, zk, by rw [eK]; exact wM, fun H3 o3 => ⟨rfl, ?_⟩⟩
    rw [eK]
    show Q (.bl (decide (V.str (markD its).shown = V.str (markD its).shown))) H3
    rw [decide_eq_true rfl]
    refine k H3 fun b o hb h => o3 b o (fun hm => ?_) (e2 b o (o1 b o hb h))
    obtain ⟨x, hx, e⟩ := List.mem_map.mp hm
    have h5 := o1 b o hb h
    rw [← e, hn2 x hx] at h5
    cases h5
end
end V2


namespace V2
open PySem L2
open PySem.Spec PyProof.Rows
theorem ex_but {p : Addr} {H H1 H2 : Hp} (e : Evl.Ex H H1) (b : But p H1 H2) : But p H H2 := (But.of_ex e).trans b
theorem but_back {p q : Addr} {H H' : Hp} (b : But p H H') (h : H' q = none) (hp : ∃ o, H' p = some o) : H q = none := by
  cases e : H q with
  | none => rfl
  | some o =>
    have n : q ≠ p := by
      intro z
      obtain ⟨o', h2⟩ := hp
      rw [← z, h] at h2
      cases h2
    rw [b q o n e] at h
    cases h
theorem sk_some {H : Hp} {p : Addr} {m : Nat} (h : Sk H p m) : ∃ o, H p = some o := by
  obtain ⟨a, b, c, h1, _⟩ := h
  exact ⟨_, h1⟩
theorem sk_ne {H : Hp} {p q : Addr} {m : Nat} (h : Sk H p m) (hq : H q = none) : q ≠ p := by
  intro z
  obtain ⟨o, h2⟩ := sk_some h
  rw [← z, hq] at h2
  cases h2
/-- small polynomials as the law draws them -/
def Sp6 (ns : List Int) : Prop := Pol ns ∧ ns.length ≤ 8 ∧ ∀ x ∈ ns, -1000000 ≤ x ∧ x ≤ 1000000
theorem Sp6.pn {ns : List Int} (h : Sp6 ns) : Pn ns := by
  refine ⟨h.1, by have := h.2.1; omega, fun x hx => ?_⟩
  have e : (2 : Int) ^ 64 = 18446744073709551616 := by decide
  have := h.2.2 x hx
  rw [e]
  omega
def spPoly : Sp := fun vs H Q _ => ∃ (p : Addr) (m : Nat), vs = [.ref p, .int 8] ∧ Sk H p m ∧ m ≤ 90000 ∧
  ∀ (q : Addr) (ns : List Int) (H' : Hp), But p H H' → Sk H' p (m + 20) → H q = none → Li H' q ns → Sp6 ns → Q (.ref q) H'
def spAny : Sp := fun vs H Q _ => ∃ (p : Addr) (m : Nat), vs = [.ref p] ∧ Sk H p m ∧ m ≤ 90000 ∧
  ∀ (q : Addr) (u d : Int) (H' : Hp), But p H H' → Sk H' p (m + 4) → H q = none → Fr H' q u d → Qn u d → Q (.ref q) H'
theorem at4 {a b c d r : Int} (h0 : 0 ≤ r) (h1 : r < 4) : ∃ v, atI [V.int a, .int b, .int c, .int d] r = some (.int v) ∧ (v = a ∨ v = b ∨ v = c ∨ v = d) := by
  have : r = 0 ∨ r = 1 ∨ r = 2 ∨ r = 3 := by omega
  rcases this with rfl | rfl | rfl | rfl
  · exact ⟨a, rfl, .inl rfl⟩
  · exact ⟨b, rfl, .inr (.inl rfl)⟩
  · exact ⟨c, rfl, .inr (.inr (.inl rfl))⟩
  · exact ⟨d, rfl, .inr (.inr (.inr rfl))⟩
theorem at3_ {a b c r : Int} (h0 : 0 ≤ r) (h1 : r < 3) : ∃ v, atI [V.int a, .int b, .int c] r = some (.int v) ∧ (v = a ∨ v = b ∨ v = c) := by
  have : r = 0 ∨ r = 1 ∨ r = 2 := by omega
  rcases this with rfl | rfl | rfl
  · exact ⟨a, rfl, .inl rfl⟩
  · exact ⟨b, rfl, .inr (.inl rfl)⟩
  · exact ⟨c, rfl, .inr (.inr rfl)⟩
theorem shaped_ints (ns : List Int) : SeqAt.shaped (.list (ns.map .int)) = true := by
  have h1 : ∀ l : List Int, PyData.canLayAll0 (l.map .int) = true := by
    intro l
    induction l with
    | nil => rfl
    | cons n r ih => simp [PyData.canLayAll0, PyData.canLay0, ih]
  have h2 : ∀ l : List Int, PyData.depthAll (l.map .int) ≤ 1 := by
    intro l
    induction l with
    | nil => simp [PyData.depthAll]
    | cons n r ih => simp [PyData.depthAll, PyData.depth]; omega
  unfold SeqAt.shaped
  have h3 := h2 ns
  simp [PyData.canLay0, PyData.depth, h1 ns]
  omega
section
variable {base : Heap} {mg : Str → Option Value} {K : PySem.W.Frag} {w : World} {P : Program}
theorem ok_poly {f : Addr} {fd : FuncData} (F : Fun K "_law_pv_poly" "_law_pv_poly" s_l_poly f fd) (mR : mg "range" = none) (cC : Cal P w K mg base 1 "_law_pv_coin" p_l_coin spCoin) : FnOk P w K mg base CX0 2 f fd p_l_poly spPoly := by
  refine F.ok sc_l_poly (fun vs H Q E h => ?_) (fun cdv A outer s H vs Q E hr h => ?_)
  · obtain ⟨p, m, rfl, _⟩ := h
    rfl
  · obtain ⟨p, m, rfl, hS, hm, k⟩ := h
    have nd := sc_l_poly.nd
    have w6 : CPowX 10 6 := pow_ok (k := 4) (n := 6) (by decide) (by decide)
    refine ⟨_, pss_cons (ps_set (i := 2) nd rfl (Or.inr rfl) (pe_ix ix_list (pe_lst (pa_cons pe_int (pa_cons pe_int (pa_cons pe_int (pa_cons (pe_op op_powX pe_int pe_int) pa_nil))))) (pe_c cC hr (pa_cons (pv 0) (pa_cons pe_int pa_nil))) (fun _ _ => rfl)))
      (pss_cons (ps_setLc (i := 3) (own := [("turn", 4)]) (g := gName 4) (tt := tYes) (te := tOp (rI0 fun i j => .int (i - j)) (tCall spCoin [] E0 (tCons (tVar 0) (tCons (tOp (rI0 fun i j => .int (i + j)) (tOp (rI CMul fun i j => .int (i * j)) (tC (.int 2)) (tVar 2)) (tC (.int 1))) tNil))) (tVar 2)) rfl nd rfl rfl (sw_true rfl rfl rfl (by decide +kernel))
          (pi_range1 (by rfl) mR (pa_cons (pe_c cC hr (pa_cons (pv 0) (pa_cons (pe_op op_add (pv 1) pe_int) pa_nil))) pa_nil)) (blkOk_by (N := n_l_poly) (sc := defScope s_l_poly) (by decide +kernel)) (fun _ _ _ _ _ => pg_name (i := 4) nd rfl (Or.inl rfl)) (fun _ _ _ _ _ => pts_nil)
          (fun _ _ _ _ _ => pe_op op_sub (pe_c cC hr (pa_cons (pv 0) (pa_cons (pe_op op_add (pe_op op_mul pe_int (pv 2)) pe_int) pa_nil))) (pv 2)))
      (pss_cons (ps_if (PW.pt (pw_and (pt_cmpR (op_neD hr.units) (pv 3) (pe_lst pa_nil) (nomark _)) (pw_and1 (pt_cmpR op_eq (pe_ix ix_list (pv 3) (pe_un un_neg pe_int) (fun _ _ => rfl)) pe_int (nomark _)))))
        (pss_one (ps_asg (pe_op op_sub pe_int (pe_op op_mul pe_int (pe_c cC hr (pa_cons (pv 0) (pa_cons pe_int pa_nil))))) (pg_sub (pv 3) (pe_un un_neg pe_int) set_list))) pss_nil)
      (pss_one (ps_ret (pv 3))))), ?_⟩
    -- top
    refine ⟨10, 6, rfl, rfl, w6, by show 4 ≤ sizeLine; decide, fun l hl => ?_⟩
    have e1 : Evl.Ex H (upd H l (.lst [.int 1, .int 3, .int 12, .int (10 ^ (6 : Int).toNat)])) := Evl.Ex.new hl
    refine ⟨_, rfl, p, 4, m, rfl, hS.ex e1, by omega, by decide, by decide, fun r H1 r0 r1 b1 s1 z1 => ?_⟩
    have nlp := sk_ne hS hl
    obtain ⟨top, ht, ht2⟩ := at4 (a := 1) (b := 3) (c := 12) (d := 10 ^ (6 : Int).toNat) r0 r1
    have e6 : (10 : Int) ^ (6 : Int).toNat = 1000000 := by decide
    have t1 : 1 ≤ top ∧ top ≤ 1000000 := by rcases ht2 with e | e | e | e <;> rw [e] <;> first | omega | (rw [e6]; omega)
    refine ⟨l, _, _, _, rfl, rfl, SqL.of (b1 l _ nlp upd_same), ht, ?_⟩
    have b01 := ex_but e1 b1
    -- the list
    refine ⟨_, rfl, _, rfl, 8, 1, rfl, rfl, p, 9, m + 1, rfl, s1, by omega, by decide, by decide, fun c H2 c0 c1 b2 s2 z2 => ?_⟩
    have b02 := b01.trans b2
    refine ⟨c, rfl, by omega, by omega, fun D hD => lc_range (n := c.toNat) (fun i H' => But p H H' ∧ Sk H' p (m + 2 + i) ∧ ∃ ns : List Int, H' D = some (.lst (iV ns)) ∧ ns.length = i ∧ ∀ x ∈ ns, -top ≤ x ∧ x ≤ top)
      ⟨b02.trans (But.of_ex (Evl.Ex.new hD)), s2.ex (Evl.Ex.new hD), [], upd_same, rfl, (by intro x hx; cases hx)⟩ ?_ ?_⟩
    · rintro i H' hi ⟨b3, s3, ns, h3, h4, h5⟩
      have nDp := sk_ne s2 hD
      refine ⟨rfl, ?_⟩
      show tOp (rI0 fun i j => .int (i - j)) (tCall spCoin [] E0 (tCons (tVar 0) (tCons (tOp (rI0 fun i j => .int (i + j)) (tOp (rI CMul fun i j => .int (i * j)) (tC (.int 2)) (tVar 2)) (tC (.int 1))) tNil))) (tVar 2) _ _ _
      refine ⟨_, rfl, _, rfl, 2, top, rfl, rfl, .inl ⟨by decide, by decide⟩, _, 1, rfl, rfl, p, 2 * top + 1, m + 2 + i, rfl, s3, by omega, by omega, ?_, fun y H3 y0 y1 b4 s4 z4 => ?_⟩
      · have : (2 * top + 1).natAbs < 2 ^ 30 := by
          have e : (2 : Nat) ^ 30 = 1073741824 := by decide
          rw [e]; omega
        exact big this (by decide)
      refine ⟨_, rfl, _, _, rfl, rfl, _, b4 D _ nDp h3, ?_, ?_, ?_, ns ++ [y - top], ?_, ?_, ?_⟩
      · rw [iV_len, h4]; exact Nat.lt_of_lt_of_le (show i < 100 by omega) (by decide)
      · have hDn : H D = none := by
          have h1D := but_back b2 hD (sk_some s2)
          exact Evl.fresh_back e1 (but_back b1 h1D (sk_some s1))
        intro b o hb h
        rw [upd_ne (ne_of_none h hDn)]
        exact (b3.trans b4) b o hb h
      · obtain ⟨a', b', c', q1, q2⟩ := s4
        exact ⟨a', b', c', by rw [upd_ne nDp.symm]; exact q1, q2.1, q2.2.1, q2.2.2.1, q2.2.2.2.1, by have := q2.2.2.2.2; omega⟩
      · rw [upd_same]; unfold iV; rw [List.map_append]; rfl
      · rw [List.length_append, h4]; rfl
      · intro x hx
        rcases (List.mem_append.mp hx) with hx | hx
        · exact h5 x hx
        · obtain rfl := List.mem_singleton.mp hx
          omega
    · rintro H' ⟨b3, s3, ns, h3, h4, h5⟩
      have cl : c.toNat ≤ 8 := by omega
      have hDn : H D = none := by
        have h1D := but_back b2 hD (sk_some s2)
        exact Evl.fresh_back e1 (but_back b1 h1D (sk_some s1))
      have nDp := sk_ne s2 hD
      have bnd : ∀ x ∈ ns, -1000000 ≤ x ∧ x ≤ 1000000 := fun x hx => by have := h5 x hx; omega
      -- if found != [] and found[-1] == 0
      refine ⟨_, rfl, Nat.zero_le _, fun g hg => ?_⟩
      have e5 : Evl.Ex H' (upd H' g (.lst [])) := Evl.Ex.new hg
      refine ⟨.list (ns.map .int), .list [], .lst (SqL.of (e5 _ _ h3)) (dpI ns), .lst (SqL.of upd_same) .nil, shaped_ints ns, rfl, _, rfl, ?_⟩
      have b5 := b3.trans (But.of_ex e5)
      have s5 := s3.ex e5
      have h35 := e5 _ _ h3
      by_cases hn : ns = []
      · subst hn
        refine if_f (by simp [PyData.eqv, PyData.eqvAll]) ?_
        exact ⟨_, rfl, k D [] _ b5 (s5.le (by omega)) hDn h35 ⟨(fun x hx => by cases hx), by simp, (by intro x hx; cases hx)⟩⟩
      · refine if_t (by cases ns with | nil => exact absurd rfl hn | cons n r => simp [PyData.eqv, PyData.eqvAll]) ?_
        obtain ⟨x, hx, hx2⟩ := atI_end hn
        refine ⟨_, rfl, _, rfl, D, _, _, _, rfl, rfl, SqL.of h35, hx2, rfl, _, rfl, ?_⟩
        have ln : 0 < ns.length := List.length_pos_iff.mpr hn
        by_cases x0 : x = 0
        · refine if_t (decide_eq_true (by rw [x0])) ?_
          refine ⟨_, rfl, p, 2, m + 2 + c.toNat, rfl, s5, by omega, by decide, by decide, fun y H6 y0 y1 b6 s6 z6 => ?_⟩
          refine ⟨2, y, rfl, rfl, .inl ⟨by decide, by decide⟩, 1, _, rfl, rfl, _, rfl, _, rfl, D, iV ns, -1, ns.length - 1, rfl, rfl, b6 D _ nDp h35, ?_, ?_⟩
          · rw [iV_len]
            unfold ixN
            rw [if_neg (by decide), if_pos (by omega)]
            congr 1
            omega
          · refine ⟨_, rfl, k D (ns.set (ns.length - 1) (1 - 2 * y)) _ ?_ ?_ hDn ?_ ⟨?_, ?_, ?_⟩⟩
            · intro b o hb h
              rw [upd_ne (ne_of_none h hDn)]
              exact (b5.trans b6) b o hb h
            · obtain ⟨a', b', c', q1, q2⟩ := s6
              exact ⟨a', b', c', by rw [upd_ne nDp.symm]; exact q1, q2.1, q2.2.1, q2.2.2.1, q2.2.2.2.1, by have := q2.2.2.2.2; omega⟩
            · unfold Li
              rw [upd_same, ← iV_set]
            · intro z hz
              rw [List.length_set, List.getElem?_set_self (by omega)] at hz
              cases hz
              omega
            · rw [List.length_set]; omega
            · intro z hz
              rcases List.mem_or_eq_of_mem_set hz with hz | rfl
              · exact bnd z hz
              · omega
        · refine if_f (decide_eq_false (fun z => x0 (by injection z))) ?_
          exact ⟨_, rfl, k D ns _ b5 (s5.le (by omega)) hDn h35 ⟨fun z hz => by rw [hx] at hz; cases hz; exact x0, by omega, bnd⟩⟩
end
end V2


namespace V2
open PySem L2
open PySem.Spec PyProof.Rows
/-! ## what may be shown -/
theorem log2_le {n B : Nat} (h : n < 2 ^ B) (hB : 0 < B) : n.log2 < B := PySem.Flt.log2_lt_of hB h
theorem w_ints {B : Nat} (hB : 0 < B) : ∀ ns : List Int, (∀ n ∈ ns, n.natAbs < 2 ^ B) → PyData.weightAll (ns.map .int) ≤ ns.length * (B + 1)
  | [], _ => by simp [PyData.weightAll]
  | n :: r, h => by
    have ih := w_ints hB r fun x hx => h x (List.mem_cons_of_mem _ hx)
    have h1 := log2_le (h n List.mem_cons_self) hB
    have h2 : PyData.weight (.int n) ≤ B := by
      simp only [PyData.weight]
      split <;> omega
    simp only [List.map_cons, PyData.weightAll, List.length_cons, Nat.succ_mul]
    omega
theorem d_ints : ∀ ns : List Int, PyData.depthAll (ns.map .int) ≤ 1
  | [] => by (simp [PyData.depthAll])
  | n :: r => by
    have := d_ints r
    simp [PyData.depthAll, PyData.depth]
    omega
theorem s_ints : ∀ ns : List Int, (∀ n ∈ ns, n.natAbs < 2 ^ 1000) → PyData.showableAll (ns.map .int) = true ∧ PyData.hasDictAll (ns.map .int) = false ∧ PyData.leavesShortAll 1001 (ns.map .int) = true
  | [], _ => ⟨rfl, rfl, rfl⟩
  | n :: r, h => by
    obtain ⟨h1, h2, h3⟩ := s_ints r fun x hx => h x (List.mem_cons_of_mem _ hx)
    have h4 := log2_le (h n List.mem_cons_self) (by decide)
    have h5 : (PyData.shown (.int n)).length ≤ 1001 := by
      show (Str.ofString (toString n)).length ≤ 1001
      rw [PySem.ofString_length]
      exact int_text_length_le (by decide) h4
    refine ⟨?_, ?_, ?_⟩
    · simp only [List.map_cons, PyData.showableAll, PyData.showable, h1, Bool.and_true, decide_eq_true_eq]; omega
    · simp only [List.map_cons, PyData.hasDictAll, PyData.hasDict, h2, Bool.or_false]
    · simp only [List.map_cons, PyData.leavesShortAll, PyData.leavesShort, h3, Bool.and_true, decide_eq_true_eq]; exact h5
/-- a flat part -/
def FlatOk (d : PyData) : Prop := PyData.showable d = true ∧ PyData.hasDict d = false ∧ PyData.leavesShort 1001 d = true ∧ PyData.depth d ≤ 3 ∧ PyData.weight d ≤ 2002
theorem flat_list {ns : List Int} (h : ∀ n ∈ ns, n.natAbs < 2 ^ 1000) (hw : PyData.weightAll (ns.map .int) ≤ 2002) : FlatOk (.list (ns.map .int)) ∧ FlatOk (.tuple (ns.map .int)) := by
  obtain ⟨h1, h2, h3⟩ := s_ints ns h
  have h4 := d_ints ns
  constructor
  · exact ⟨by simpa [PyData.showable] using h1, by simpa [PyData.hasDict] using h2, by simpa [PyData.leavesShort] using h3, by simp [PyData.depth]; omega, by simpa [PyData.weight] using hw⟩
  · exact ⟨by simpa [PyData.showable] using h1, by simpa [PyData.hasDict] using h2, by simpa [PyData.leavesShort] using h3, by simp [PyData.depth]; omega, by simpa [PyData.weight] using hw⟩
theorem flat_all : ∀ ds : List PyData, (∀ d ∈ ds, FlatOk d) → PyData.showableAll ds = true ∧ PyData.hasDictAll ds = false ∧ PyData.leavesShortAll 1001 ds = true ∧ PyData.depthAll ds ≤ 4 ∧ PyData.weightAll ds ≤ ds.length * 2003
  | [], _ => ⟨rfl, rfl, rfl, by simp [PyData.depthAll], by simp [PyData.weightAll]⟩
  | d :: r, h => by
    obtain ⟨a1, a2, a3, a4, a5⟩ := flat_all r fun x hx => h x (List.mem_cons_of_mem _ hx)
    obtain ⟨b1, b2, b3, b4, b5⟩ := h d List.mem_cons_self
    refine ⟨by simp [PyData.showableAll, a1, b1], by simp [PyData.hasDictAll, a2, b2], by simp [PyData.leavesShortAll, a3, b3], by simp [PyData.depthAll]; omega, ?_⟩
    simp only [PyData.weightAll, List.length_cons, Nat.succ_mul]
    omega
theorem shw_of {ds : List PyData} (h : ∀ d ∈ ds, FlatOk d) (hl : ds.length ≤ 6) : Shw (.list ds) := by
  obtain ⟨a1, a2, a3, a4, a5⟩ := flat_all ds h
  refine ⟨by simpa [PyData.showable] using a1, by simpa [PyData.hasDict] using a2, by simp [PyData.depth]; omega, ?_⟩
  have h1 := PyData.shown_le 1001 (by decide) (.list ds) (by simpa [PyData.leavesShort] using a3)
  have h2 : PyData.weight (.list ds) ≤ 6 * 2003 := by
    simp only [PyData.weight]
    exact Nat.le_trans a5 (Nat.mul_le_mul_right _ hl)
  have h3 : (1001 + 2) * PyData.weight (.list ds) ≤ 1003 * (6 * 2003) := Nat.mul_le_mul_left _ h2
  have h4 : 1003 * (6 * 2003) + 1001 ≤ sizeLine := by decide
  omega
def Lok (ns : List Int) : Prop := ns.length ≤ 16 ∧ ∀ x ∈ ns, x.natAbs < 2 ^ 64
def ItOk (i : Itm) : Prop := (i.1 = true ∧ Lok i.2.2) ∨ (i.1 = false ∧ i.2.2.length ≤ 2 ∧ ∀ x ∈ i.2.2, x.natAbs < 2 ^ 1000)
theorem lok_flat {ns : List Int} (h : ∀ x ∈ ns, x.natAbs < 2 ^ 64) (hl : ns.length ≤ 17) : FlatOk (.list (ns.map .int)) := by
  have h1 := w_ints (B := 64) (by decide) ns h
  exact (flat_list (fun n hn => big (h n hn) (by decide)) (by omega)).1
theorem tup_flat {ns : List Int} (h : ∀ x ∈ ns, x.natAbs < 2 ^ 1000) (hl : ns.length ≤ 2) : FlatOk (.tuple (ns.map .int)) := by
  have h1 := w_ints (B := 1000) (by decide) ns h
  exact (flat_list h (by omega)).2
theorem itok_flat {i : Itm} (h : ItOk i) : FlatOk (itD i) := by
  obtain ⟨b, a, ns⟩ := i
  rcases h with ⟨e, h1, h2⟩ | ⟨e, h1, h2⟩
  · cases e
    exact lok_flat h2 (Nat.le_succ_of_le h1)
  · cases e
    exact tup_flat h2 h1
theorem shw_tree {its : List Itm} (h : ∀ i ∈ its, ItOk i) (hl : its.length ≤ 6) : Shw (treeD its) := by
  refine shw_of (fun d hd => ?_) (by rw [List.length_map]; exact hl)
  obtain ⟨i, hi, rfl⟩ := List.mem_map.mp hd
  exact itok_flat (h i hi)
theorem go_flat : ∀ (its : List Itm) (k : Nat), k + its.length ≤ 100000 → (∀ i ∈ its, ItOk i) → ∀ d ∈ goM k its, FlatOk d := by
  intro its
  induction its with
  | nil => intro k _ _ d hd; cases hd
  | cons i r ih =>
    intro k hk h d hd
    obtain ⟨b, a, ns⟩ := i
    have h0 := h (b, a, ns) List.mem_cons_self
    have hr := fun i hi => h i (List.mem_cons_of_mem _ hi)
    rw [List.length_cons] at hk
    cases b with
    | true =>
      rcases (List.mem_cons.mp hd) with rfl | hd
      · rcases h0 with ⟨_, h1, h2⟩ | ⟨e, _⟩
        · have h1 : ns.length ≤ 16 := h1
          refine lok_flat (fun x hx => ?_) (by rw [List.length_append]; show ns.length + 1 ≤ 17; omega)
          rcases (List.mem_append.mp hx) with hx | hx
          · exact h2 x hx
          · obtain rfl := List.mem_singleton.mp hx
            rw [Int.natAbs_natCast]
            have e : (2 : Nat) ^ 64 = 18446744073709551616 := (by decide)
            rw [e]; omega
        · cases e
      · exact ih (k + 1) (by omega) hr d hd
    | false =>
      rcases (List.mem_cons.mp hd) with rfl | hd
      · rcases h0 with ⟨e, _⟩ | ⟨_, h1, h2⟩
        · cases e
        · exact tup_flat h2 h1
      · exact ih k (by omega) hr d hd
theorem go_len : ∀ (its : List Itm) (k : Nat), (goM k its).length = its.length
  | [], _ => rfl
  | (true, _, _) :: r, k => by show (goM (k + 1) r).length + 1 = r.length + 1; rw [go_len r]
  | (false, _, _) :: r, k => by show (goM k r).length + 1 = r.length + 1; rw [go_len r]
theorem flat_int0 : FlatOk (.int 0) := by
  refine ⟨by decide, rfl, ?_, by decide, by decide⟩
  simp only [PyData.leavesShort, decide_eq_true_eq]
  show (Str.ofString (toString (0 : Int))).length ≤ 1001
  rw [PySem.ofString_length]
  exact int_text_length_le (k := 1000) (by decide) (by decide)
theorem shw_mark {its : List Itm} (h : ∀ i ∈ its, ItOk i) (hl : its.length ≤ 5) : Shw (markD its) := by
  refine shw_of (fun d hd => ?_) (by rw [List.length_append, go_len]; show its.length + 1 ≤ 6; omega)
  rcases List.mem_append.mp hd with hd | hd
  · exact go_flat its 1 (by omega) h d hd
  · obtain rfl := List.mem_singleton.mp hd
    exact flat_int0
/-! ## small facts of polynomials -/
theorem vec_mem {N : Nat} {f : Nat → Int} {x : Int} (h : x ∈ vec N f) : ∃ i, i < N ∧ x = f i := by
  unfold vec at h
  obtain ⟨i, hi, e⟩ := List.mem_map.mp h
  exact ⟨i, List.mem_range.mp hi, e.symm⟩
theorem getD_bd {ns : List Int} {B : Int} (hB : 0 ≤ B) (h : ∀ x ∈ ns, -B ≤ x ∧ x ≤ B) (k : Nat) : -B ≤ ns.getD k 0 ∧ ns.getD k 0 ≤ B := by
  (rw [List.getD_eq_getElem?_getD])
  cases e : ns[k]? with
  | none => show -B ≤ (0 : Int) ∧ (0 : Int) ≤ B; omega
  | some x => exact h x (List.mem_of_getElem? e)
theorem padd_lok {xs ys : List Int} (hx : Sp6 xs) (hy : Sp6 ys) : Lok (trm (padd xs ys)) := by
  refine ⟨?_, fun x h => ?_⟩
  · have := trm_len (padd xs ys)
    have e : (padd xs ys).length = max xs.length ys.length := vec_len _ _
    have := hx.2.1
    have := hy.2.1
    omega
  · obtain ⟨i, _, rfl⟩ := vec_mem (trm_mem h)
    have h1 := getD_bd (B := 1000000) (by decide) hx.2.2 i
    have h2 := getD_bd (B := 1000000) (by decide) hy.2.2 i
    have e : (2 : Nat) ^ 64 = 18446744073709551616 := (by decide)
    rw [e]; omega
theorem cf_bd {xs ys : List Int} (hx : ∀ x ∈ xs, -1000000 ≤ x ∧ x ≤ 1000000) (hy : ∀ x ∈ ys, -1000000 ≤ x ∧ x ≤ 1000000) : ∀ k i, (cf xs ys k i).natAbs ≤ k * 1000000000000
  | 0, _ => by show (0 : Int).natAbs ≤ _; simp
  | k + 1, i => by
    have ih := cf_bd hx hy k i
    have h1 := getD_bd (B := 1000000) (by decide) hx k
    have h2 := getD_bd (B := 1000000) (by decide) hy (i - k)
    have h3 : (xs.getD k 0 * ys.getD (i - k) 0).natAbs ≤ 1000000 * 1000000 := by
      rw [Int.natAbs_mul]
      exact Nat.mul_le_mul (by omega) (by omega)
    show (cf xs ys k i + (if k ≤ i then xs.getD k 0 * ys.getD (i - k) 0 else 0)).natAbs ≤ _
    rw [Nat.succ_mul]
    split <;> omega
theorem pmul_lok {xs ys : List Int} (hx : Sp6 xs) (hy : Sp6 ys) : Lok (trm (pmul xs ys)) := by
  refine ⟨?_, fun x h => ?_⟩
  · have := trm_len (pmul xs ys)
    have e : (pmul xs ys).length = xs.length + ys.length - 1 := vec_len _ _
    have := hx.2.1
    have := hy.2.1
    omega
  · obtain ⟨i, _, rfl⟩ := vec_mem (trm_mem h)
    have h1 := cf_bd hx.2.2 hy.2.2 xs.length i
    have := hx.2.1
    have e : (2 : Nat) ^ 64 = 18446744073709551616 := (by decide)
    rw [e]; omega
theorem sp6_lok {ns : List Int} (h : ns.length ≤ 16) (hb : ∀ x ∈ ns, -1000000 ≤ x ∧ x ≤ 1000000) : Lok ns := by
  refine ⟨h, fun x hx => ?_⟩
  have := hb x hx
  have e : (2 : Nat) ^ 64 = 18446744073709551616 := (by decide)
  rw [e]; omega
theorem trm_lok {ns : List Int} (h : Lok ns) : Lok (trm ns) := ⟨Nat.le_trans (trm_len ns) h.1, fun x hx => h.2 x (trm_mem hx)⟩
theorem padd_comm (xs ys : List Int) : padd xs ys = padd ys xs := by
  unfold padd
  rw [Nat.max_comm]
  exact vec_congr fun i _ => Int.add_comm _ _
theorem padd_nil (xs : List Int) : padd xs [] = xs := by
  symm
  refine vec_ext (by simp) fun i hi => ?_
  have hi : i < xs.length := by simpa using hi
  have e : xs[i]? = some xs[i] := List.getElem?_eq_getElem hi
  rw [e, getD_at e]
  simp
theorem nil_padd (xs : List Int) : padd [] xs = xs := by rw [padd_comm, padd_nil]
theorem cf_one {xs : List Int} : ∀ k i, cf xs [1] k i = if i < k then xs.getD i 0 else 0
  | 0, i => by show (0 : Int) = _; rw [if_neg (by omega)]
  | k + 1, i => by
    show cf xs [1] k i + (if k ≤ i then xs.getD k 0 * [1].getD (i - k) 0 else 0) = _
    rw [cf_one k i]
    by_cases h1 : i < k
    · rw [if_pos h1, if_neg (by omega), if_pos (by omega), Int.add_zero]
    · rw [if_neg h1, if_pos (by omega), Int.zero_add]
      by_cases h2 : i = k
      · subst h2
        rw [Nat.sub_self, if_pos (by omega)]
        show xs.getD i 0 * 1 = _
        rw [Int.mul_one]
      · rw [if_neg (by omega), getD_out (l := [1]) (k := i - k) (by show 1 ≤ i - k; omega), Int.mul_zero]
theorem pmul_one (xs : List Int) : pmul xs [1] = xs := by
  symm
  refine vec_ext (by simp) fun i hi => ?_
  have hi : i < xs.length := by simpa using hi
  have e : xs[i]? = some xs[i] := List.getElem?_eq_getElem hi
  rw [cf_one, if_pos hi, getD_at e, e]
end V2


namespace V2
open PySem L2
open PySem.Spec PyProof.Rows
/-! ## lists of new things -/
def Built (Hs H : Hp) (its : List Itm) : Prop := Evl.Ex Hs H ∧ (∀ i ∈ its, ItAt H i ∧ Hs i.2.1 = none) ∧ (its.map (·.2.1)).Nodup
theorem Built.none_ {Hs H : Hp} (e : Evl.Ex Hs H) : Built Hs H [] := ⟨e, (by intro i hi; cases hi), List.nodup_nil⟩
theorem Built.ext {Hs H H' : Hp} {its : List Itm} (h : Built Hs H its) (e : Evl.Ex H H') : Built Hs H' its := ⟨h.1.trans e, fun i hi => ⟨(h.2.1 i hi).1.ex e, (h.2.1 i hi).2⟩, h.2.2⟩
theorem Built.ne {Hs H : Hp} {its : List Itm} (h : Built Hs H its) {q : Addr} (hq : H q = none) : ∀ i ∈ its, i.2.1 ≠ q := fun i hi => ne_of_none (h.2.1 i hi).1 hq
theorem Built.snoc {Hs H H2 : Hp} {its : List Itm} {i : Itm} (h : Built Hs H its) (hp : H i.2.1 = none) (e : Evl.Ex H H2) (h2 : ItAt H2 i) : Built Hs H2 (its ++ [i]) := by
  refine ⟨h.1.trans e, fun j hj => ?_, ?_⟩
  · rcases List.mem_append.mp hj with hj | hj
    · exact ⟨(h.2.1 j hj).1.ex e, (h.2.1 j hj).2⟩
    · obtain rfl := List.mem_singleton.mp hj
      exact ⟨h2, Evl.fresh_back h.1 hp⟩
  · (rw [List.map_append, List.nodup_append])
    refine ⟨h.2.2, by simp, ?_⟩
    intro x hx y hy e2
    obtain ⟨j, hj, rfl⟩ := List.mem_map.mp hx
    obtain rfl : y = i.2.1 := by simpa using hy
    exact h.ne hp j hj e2
structure Tr (Hs H : Hp) (q : Addr) (its : List Itm) : Prop where
  b : Built Hs H its
  at_ : H q = some (.lst (refs its))
  nq : Hs q = none
  ne : ∀ i ∈ its, i.2.1 ≠ q
theorem Tr.ext {Hs H H' : Hp} {q : Addr} {its : List Itm} (h : Tr Hs H q its) (e : Evl.Ex H H') : Tr Hs H' q its := ⟨h.b.ext e, e _ _ h.at_, h.nq, h.ne⟩
theorem Tr.tree {Hs H : Hp} {q : Addr} {its : List Itm} (h : Tr Hs H q its) : TreeAt H q its := ⟨h.at_, fun i hi => (h.b.2.1 i hi).1⟩
theorem Tr.dst {Hs H : Hp} {q : Addr} {its : List Itm} (h : Tr Hs H q its) : Dst q its := dst_of h.b.2.2 h.ne
theorem Tr.fresh {Hs H : Hp} {q : Addr} {its : List Itm} (h : Tr Hs H q its) : ∀ b ∈ (CL q its).map (·.1), Hs b = none := by
  intro b hb
  obtain ⟨x, hx, rfl⟩ := List.mem_map.mp hb
  rcases cl_mem hx with e | ⟨i, hi, _, e⟩
  · rw [e]; exact h.nq
  · rw [← e]; exact (h.b.2.1 i hi).2
theorem Tr.some_ {Hs H : Hp} {q : Addr} {its : List Itm} (h : Tr Hs H q its) : ∀ b ∈ (CL q its).map (·.1), ∃ o, H b = some o := by
  intro b hb
  obtain ⟨x, hx, rfl⟩ := List.mem_map.mp hb
  rcases cl_mem hx with e | ⟨i, hi, _, e⟩
  · rw [e]; exact ⟨_, h.at_⟩
  · rw [← e]; exact ⟨_, (h.b.2.1 i hi).1⟩
theorem Tr.back {Hs H Hd H' : Hp} {q : Addr} {its : List Itm} (h : Tr Hs H q its) (e : Evl.Ex H Hd) (o : Off ((CL q its).map (·.1)) Hd H') : Evl.Ex Hs H' := by
  intro b u hb
  refine o b u (fun hm => ?_) (e b u (h.b.1 b u hb))
  rw [h.fresh b hm] at hb
  cases hb
/-- what is due, in one place or not -/
theorem right_go {Hs Hf Hd : Hp} {q d : Addr} {its jts : List Itm} {Q : VK} {E : XK} (h : Tr Hs Hf q its) (e : Evl.Ex Hf Hd) (U : TreeAt Hd d jts) (hd : Hf d = none) (hj : ∀ j ∈ jts, Hf j.2.1 = none ∨ ∃ o, Hs j.2.1 = some o)
    (hsh : its.map sh = jts.map sh) (hl : its.length ≤ 5) (ok : ∀ i ∈ its, ItOk i) (k : ∀ H', Evl.Ex Hs H' → Q (.bl true) H') : spR [.ref q, .ref d] Hd Q E := by
  refine ⟨q, d, its, jts, rfl, h.tree.ex e, h.dst, U, hsh, fun hm => ?_, fun j hjm hm => ?_, by omega, fun i hi => ?_, shw_tree ok (by omega), shw_mark ok hl, fun H' o => k H' (h.back e o)⟩
  · obtain ⟨o, ho⟩ := h.some_ d hm
    rw [hd] at ho; cases ho
  · rcases hj j hjm with z | ⟨o, z⟩
    · obtain ⟨o, ho⟩ := h.some_ _ hm
      rw [z] at ho; cases ho
    · rw [h.fresh _ hm] at z; cases z
  · rcases ok i hi with ⟨_, a, _⟩ | ⟨_, a, _⟩
    · omega
    · omega
def tA : List TE → TA
  | [] => tNil
  | t :: r => tCons t (tA r)
def EvI (te : TE) (σ : L2.St) (H : Hp) (b : Bool × List Int) : Prop := ∀ H1, Evl.Ex H H1 → ∀ Q : VK, (∀ p H2, H1 p = none → Evl.Ex H1 H2 → ItAt H2 (b.1, p, b.2) → Q (.ref p) H2) → te σ H1 Q
theorem args_read {σ : L2.St} {H0 : Hp} : ∀ (L : List (TE × Bool × List Int)) (H : Hp) (dn : List Itm) (Q : List V → Hp → Prop), (∀ x ∈ L, EvI x.1 σ H0 x.2) → Built H0 H dn →
    (∀ its H', Built H0 H' (dn ++ its) → Evl.Ex H H' → its.map sh = L.map (·.2) → Q (refs its) H') → tA (L.map (·.1)) σ H Q
  | [], H, dn, Q, _, hb, k => k [] H (by rw [List.append_nil]; exact hb) (Evl.Ex.refl _) rfl
  | (te, b) :: L, H, dn, Q, h, hb, k => by
    refine h (te, b) List.mem_cons_self H hb.1 _ fun p H2 hp e2 h2 => ?_
    refine args_read L H2 (dn ++ [(b.1, p, b.2)]) _ (fun x hx => h x (List.mem_cons_of_mem _ hx)) (hb.snoc (i := (b.1, p, b.2)) hp e2 h2) fun its H' hb' e' hs => ?_
    refine k ((b.1, p, b.2) :: its) H' (by rw [List.append_assoc] at hb'; exact hb') (e2.trans e') ?_
    rw [List.map_cons, List.map_cons, hs]
    rfl
theorem lst_read {σ : L2.St} {Hs H : Hp} {Q : VK} (L : List (TE × Bool × List Int)) (hL : L.length ≤ 10) (e : Evl.Ex Hs H) (h : ∀ x ∈ L, EvI x.1 σ Hs x.2) (k : ∀ q its H', H q = none → Tr Hs H' q its → Evl.Ex H H' → its.map sh = L.map (·.2) → Q (.ref q) H') : tLst (tA (L.map (·.1))) σ H Q := by
  refine args_read L H [] _ h (Built.none_ e) fun its H' hb e' hs => ⟨?_, fun q hq => ?_⟩
  · have : its.length = L.length := by
      have := congrArg List.length hs
      rwa [List.length_map, List.length_map] at this
    rw [refs_len, this]
    exact Nat.le_trans hL (by decide)
  · have e2 : Evl.Ex H' (upd H' q (.lst (refs its))) := Evl.Ex.new hq
    have hb : Built Hs H' its := hb
    exact k q its _ (Evl.fresh_back e' hq) ⟨hb.ext e2, upd_same, Evl.fresh_back hb.1 hq, hb.ne hq⟩ (e'.trans e2) hs
theorem cat_read {σ : L2.St} {Hs H : Hp} {Q : VK} {j : Nat} {q : Addr} {its : List Itm} (L : List (TE × Bool × List Int)) (hL : L.length ≤ 10) (hi : its.length ≤ 10) (hj : σ[j]? = some (some (.ref q))) (T : Tr Hs H q its) (h : ∀ x ∈ L, EvI x.1 σ Hs x.2)
    (k : ∀ r jts H', H r = none → Tr Hs H' r (its ++ jts) → Evl.Ex H H' → jts.map sh = L.map (·.2) → Q (.ref r) H') : tOp rCat (tVar j) (tLst (tA (L.map (·.1)))) σ H Q := by
  refine ⟨_, hj, ?_⟩
  refine args_read L H its _ h T.b fun jts H' hb e' hs => ⟨?_, fun z hz => ?_⟩
  · have : jts.length = L.length := by
      have := congrArg List.length hs
      rwa [List.length_map, List.length_map] at this
    rw [refs_len, this]
    exact Nat.le_trans hL (by decide)
  · have e2 : Evl.Ex H' (upd H' z (.lst (refs jts))) := Evl.Ex.new hz
    refine ⟨q, z, _, _, rfl, rfl, e2 _ _ (e' _ _ T.at_), upd_same, ?_, fun r hr => ?_⟩
    · have : jts.length = L.length := by
        have := congrArg List.length hs
        rwa [List.length_map, List.length_map] at this
      rw [refs_len, refs_len, this]
      exact Nat.le_trans (show its.length + L.length ≤ 20 by omega) (by decide)
    · have e3 : Evl.Ex H' (upd (upd H' z (.lst (refs jts))) r (.lst (refs its ++ refs jts))) := e2.trans (Evl.Ex.new hr)
      have hr0 : H' r = none := Evl.fresh_back e2 hr
      refine k r jts _ (Evl.fresh_back e' hr0) ⟨hb.ext e3, ?_, Evl.fresh_back hb.1 hr0, hb.ne hr0⟩ (e'.trans e3) hs
      rw [upd_same]
      unfold refs
      rw [List.map_append]
/-! ## the calls -/
def tCallK (n : Nat) (gV : List V → List V) (sp : Sp) (t : TA) : TE := fun σ H Q => t σ H fun zs H1 => zs.length = n ∧ sp (gV zs) H1 Q E0
def swp : List V → List V
  | [a, b] => [b, a]
  | z => z
section
variable {K : PySem.W.Frag} {σ : L2.St} {H : Hp} {i j : Nat} {a b : Addr} {xs ys : List Int} {p q : Int} {m : List Int → List Int → List Int}
theorem ei_trim (hi : σ[i]? = some (some (.ref a))) (ha : Li H a xs) (hl : xs.length ≤ 1000) : EvI (tCall (spTrim K) [] E0 (tCons (tVar i) tNil)) σ H (true, trm xs) := fun H1 e Q k =>
  ⟨_, hi, a, xs, rfl, SqL.of (e _ _ ha), hl, fun p H2 hp e2 h2 => k p H2 hp e2 h2⟩
theorem ei_trimK (hi : σ[i]? = some (some (.ref a))) (ha : Li H a xs) (hl : xs.length ≤ 1000) : EvI (tCallK 1 id (spTrim K) (tCons (tVar i) tNil)) σ H (true, trm xs) := fun H1 e Q k =>
  ⟨_, hi, rfl, a, xs, rfl, SqL.of (e _ _ ha), hl, fun p H2 hp e2 h2 => k p H2 hp e2 h2⟩
theorem ei_two (hi : σ[i]? = some (some (.ref a))) (hj : σ[j]? = some (some (.ref b))) (ha : Li H a xs) (hb : Li H b ys) (hx : Pn xs) (hy : Pn ys) : EvI (tCall (spTwo m) [] E0 (tCons (tVar i) (tCons (tVar j) tNil))) σ H (true, m xs ys) := fun H1 e Q k =>
  ⟨_, hi, _, hj, a, b, xs, ys, rfl, e _ _ ha, e _ _ hb, hx, hy, fun p H2 hp e2 h2 => k p H2 hp e2 h2⟩
theorem ei_twoK (hi : σ[i]? = some (some (.ref a))) (hj : σ[j]? = some (some (.ref b))) (ha : Li H a xs) (hb : Li H b ys) (hx : Pn xs) (hy : Pn ys) : EvI (tCallK 2 id (spTwo m) (tCons (tVar i) (tCons (tVar j) tNil))) σ H (true, m xs ys) := fun H1 e Q k =>
  ⟨_, hi, _, hj, rfl, a, b, xs, ys, rfl, e _ _ ha, e _ _ hb, hx, hy, fun p H2 hp e2 h2 => k p H2 hp e2 h2⟩
theorem ei_twoS (hi : σ[i]? = some (some (.ref a))) (hj : σ[j]? = some (some (.ref b))) (ha : Li H a xs) (hb : Li H b ys) (hx : Pn xs) (hy : Pn ys) : EvI (tCallK 2 swp (spTwo m) (tCons (tVar i) (tCons (tVar j) tNil))) σ H (true, m ys xs) := fun H1 e Q k =>
  ⟨_, hi, _, hj, rfl, b, a, ys, xs, rfl, e _ _ hb, e _ _ ha, hy, hx, fun p H2 hp e2 h2 => k p H2 hp e2 h2⟩
def vl (p q : Int) (xs : List Int) : List Int := [(fr (hA p q xs) (q ^ xs.length)).1, (fr (hA p q xs) (q ^ xs.length)).2]
theorem ei_val (hi : σ[i]? = some (some (.ref a))) (hj : σ[j]? = some (some (.ref b))) (ha : Li H a xs) (hb : Fr H b p q) (hx : Pn xs) (hq : Qn p q) : EvI (tCall spVal [] E0 (tCons (tVar i) (tCons (tVar j) tNil))) σ H (false, vl p q xs) := fun H1 e Q k =>
  ⟨_, hi, _, hj, a, b, xs, p, q, rfl, e _ _ ha, e _ _ hb, hx, hq, fun p H2 hp e2 h2 => k p H2 hp e2 h2⟩
theorem ei_valK (hi : σ[i]? = some (some (.ref a))) (hj : σ[j]? = some (some (.ref b))) (ha : Li H a xs) (hb : Fr H b p q) (hx : Pn xs) (hq : Qn p q) : EvI (tCallK 2 id spVal (tCons (tVar i) (tCons (tVar j) tNil))) σ H (false, vl p q xs) := fun H1 e Q k =>
  ⟨_, hi, _, hj, rfl, a, b, xs, p, q, rfl, e _ _ ha, e _ _ hb, hx, hq, fun p H2 hp e2 h2 => k p H2 hp e2 h2⟩
theorem pol_nil : Pol [] := fun x h => by cases h
theorem pn_nil : Pn [] := ⟨pol_nil, by decide, fun x h => by cases h⟩
theorem ei_twoN (hi : σ[i]? = some (some (.ref a))) (ha : Li H a xs) (hx : Pn xs) : EvI (tCall (spTwo m) [] E0 (tCons (tVar i) (tCons (tLst tNil) tNil))) σ H (true, m xs []) := fun H1 e Q k =>
  ⟨_, hi, Nat.zero_le _, fun z hz => ⟨a, z, xs, [], rfl, Evl.Ex.new hz _ _ (e _ _ ha), upd_same, hx, pn_nil, fun p H2 hp e2 h2 => k p H2 (Evl.fresh_back (Evl.Ex.new hz) hp) ((Evl.Ex.new hz).trans e2) h2⟩⟩
theorem ei_Ntwo (hi : σ[i]? = some (some (.ref a))) (ha : Li H a xs) (hx : Pn xs) : EvI (tCall (spTwo m) [] E0 (tCons (tLst tNil) (tCons (tVar i) tNil))) σ H (true, m [] xs) := fun H1 e Q k =>
  ⟨Nat.zero_le _, fun z hz => ⟨_, hi, z, a, [], xs, rfl, upd_same, Evl.Ex.new hz _ _ (e _ _ ha), pn_nil, hx, fun p H2 hp e2 h2 => k p H2 (Evl.fresh_back (Evl.Ex.new hz) hp) ((Evl.Ex.new hz).trans e2) h2⟩⟩
theorem ei_valN (hj : σ[j]? = some (some (.ref b))) (hb : Fr H b p q) (hq : Qn p q) : EvI (tCall spVal [] E0 (tCons (tLst tNil) (tCons (tVar j) tNil))) σ H (false, vl p q []) := fun H1 e Q k =>
  ⟨Nat.zero_le _, fun z hz => ⟨_, hj, z, b, [], p, q, rfl, upd_same, Evl.Ex.new hz _ _ (e _ _ hb), pn_nil, hq, fun p H2 hp e2 h2 => k p H2 (Evl.fresh_back (Evl.Ex.new hz) hp) ((Evl.Ex.new hz).trans e2) h2⟩⟩
theorem pn_one : Pn [1] := ⟨fun x h => by cases h; decide, by decide, fun x h => by obtain rfl := List.mem_singleton.mp h; decide⟩
theorem ei_two1 (hi : σ[i]? = some (some (.ref a))) (ha : Li H a xs) (hx : Pn xs) : EvI (tCall (spTwo m) [] E0 (tCons (tVar i) (tCons (tLst (tCons (tC (.int 1)) tNil)) tNil))) σ H (true, m xs [1]) := fun H1 e Q k =>
  ⟨_, hi, (by show 1 ≤ sizeLine; decide), fun z hz => ⟨a, z, xs, [1], rfl, Evl.Ex.new hz _ _ (e _ _ ha), upd_same, hx, pn_one, fun p H2 hp e2 h2 => k p H2 (Evl.fresh_back (Evl.Ex.new hz) hp) ((Evl.Ex.new hz).trans e2) h2⟩⟩
theorem vl_nil : vl p q [] = [0, 1] := by
  unfold vl
  rw [List.length_nil, Int.pow_zero, show fr (hA p q []) 1 = (0, 1) from (fr_same (by decide) (by decide) : fr 0 1 = (0, 1))]
theorem vl_ok (hx : Pn xs) (hq : Qn p q) : (vl p q xs).length ≤ 2 ∧ ∀ x ∈ vl p q xs, x.natAbs < 2 ^ 1000 := by
  obtain ⟨px, hx2, hx3⟩ := hx
  obtain ⟨q0, qc, pb, qb⟩ := hq
  refine ⟨Nat.le_refl _, fun x h => ?_⟩
  have qi := qpos q0 xs.length
  rcases (List.mem_cons.mp h) with rfl | h
  · exact Nat.lt_of_le_of_lt (fr_abs1 qi) (big (hA_lt pb qb fun x hx => n64 (hx3 x hx)) (by omega))
  · rcases (List.mem_cons.mp h) with rfl | h
    · exact Nat.lt_of_le_of_lt (fr_abs2 qi) (big (npow_lt qb xs.length) (by omega))
    · cases h
end
end V2


namespace V2
open PySem L2
open PySem.Spec PyProof.Rows
theorem cut_pre (xs : List V) (k : Nat) : cutV xs none (some (k : Int)) = xs.take k := by
  unfold cutV
  rw [HT.sIx_nat, HT.sIx_none, List.drop_zero, Nat.sub_zero]
  rcases Nat.le_total k xs.length with h | h
  · rw [Nat.min_eq_left h]
  · rw [Nat.min_eq_right h, List.take_of_length_le h, List.take_length]
theorem cut_suf (xs : List V) (k : Nat) : cutV xs (some (k : Int)) none = xs.drop k := by
  unfold cutV
  rw [HT.sIx_nat, HT.sIx_none]
  rcases Nat.le_total k xs.length with h | h
  · rw [Nat.min_eq_left h]
    (exact List.take_of_length_le (by rw [List.length_drop]; omega))
  · rw [Nat.min_eq_right h, List.drop_length, List.drop_of_length_le h]
    exact List.take_nil
def neg (ns : List Int) : List Int := ns.map fun x => 0 - x
theorem sp6_neg {ns : List Int} (h : Sp6 ns) : Sp6 (neg ns) := by
  refine ⟨fun x hx => ?_, by unfold neg; rw [List.length_map]; exact h.2.1, fun x hx => ?_⟩
  · unfold neg at hx
    rw [List.length_map, List.getElem?_map] at hx
    cases e : ns[ns.length - 1]? with
    | none => rw [e] at hx; cases hx
    | some y =>
      rw [e] at hx
      have := h.1 y e
      have hx : 0 - y = x := Option.some.inj hx
      omega
  · obtain ⟨y, hy, rfl⟩ := List.mem_map.mp hx
    have := h.2.2 y hy
    omega
theorem sp6_mix {ns : List Int} (h : Sp6 ns) (k : Nat) (hk : k ≤ 2) : Sp6 (trm (ns.take k ++ neg (ns.drop 2))) := by
  refine ⟨pol_trm _, Nat.le_trans (trm_len _) ?_, fun x hx => ?_⟩
  · have := h.2.1
    unfold neg
    rw [List.length_append, List.length_map, List.length_take, List.length_drop]
    omega
  · rcases List.mem_append.mp (trm_mem hx) with hx | hx
    · exact h.2.2 x (List.mem_of_mem_take hx)
    · obtain ⟨y, hy, rfl⟩ := List.mem_map.mp hx
      have := h.2.2 y (List.mem_of_mem_drop hy)
      omega
theorem neg_snoc {ns : List Int} {i : Nat} {n : Int} (h : ns[i]? = some n) : iV (neg (ns.take (i + 1))) = iV (neg (ns.take i)) ++ [.int (0 - n)] := by
  rw [List.take_add_one, h]
  unfold neg iV
  simp
theorem iV_pre (ns : List Int) (k : Nat) : cutV (iV ns) none (some (k : Int)) = iV (ns.take k) := by
  rw [cut_pre]; unfold iV; rw [List.map_take]
theorem iV_suf (ns : List Int) (k : Nat) : cutV (iV ns) (some (k : Int)) none = iV (ns.drop k) := by
  rw [cut_suf]; unfold iV; rw [List.map_drop]
theorem all2 {α : Type} {P : α → Prop} {a b : α} (h1 : P a) (h2 : P b) : ∀ x ∈ [a, b], P x := by
  intro x hx
  rcases (List.mem_cons.mp hx) with rfl | hx
  · exact h1
  · obtain rfl := List.mem_singleton.mp hx
    exact h2
theorem all3 {α : Type} {P : α → Prop} {a b c : α} (h1 : P a) (h2 : P b) (h3 : P c) : ∀ x ∈ [a, b, c], P x := by
  intro x hx
  rcases (List.mem_cons.mp hx) with rfl | hx
  · exact h1
  · exact all2 h2 h3 x hx
theorem all5 {α : Type} {P : α → Prop} {a b c d e : α} (h1 : P a) (h2 : P b) (h3 : P c) (h4 : P d) (h5 : P e) : ∀ x ∈ [a, b, c, d, e], P x := by
  intro x hx
  rcases (List.mem_cons.mp hx) with rfl | hx
  · exact h1
  rcases (List.mem_cons.mp hx) with rfl | hx
  · exact h2
  · exact all3 h3 h4 h5 x hx
theorem sh_ok {its : List Itm} {S : List (Bool × List Int)} (h : its.map sh = S) (hS : ∀ s ∈ S, (s.1 = true ∧ Lok s.2) ∨ (s.1 = false ∧ s.2.length ≤ 2 ∧ ∀ x ∈ s.2, x.natAbs < 2 ^ 1000)) : ∀ i ∈ its, ItOk i := by
  intro i hi
  have : sh i ∈ S := by rw [← h]; exact List.mem_map_of_mem hi
  exact hS _ this
theorem sh_len {its : List Itm} {S : List (Bool × List Int)} (h : its.map sh = S) : its.length = S.length := by rw [← h, List.length_map]
theorem len6 (ns : List Int) (k : Nat) (hk : k ≤ 6) : (ns.take k).length ≤ 6 := by rw [List.length_take]; omega
theorem sp6_ext {ns : List Int} {y : Int} (h : Sp6 ns) (h0 : 0 ≤ y) (h1 : y < 5) : Sp6 (ns.take 6 ++ [y - 2, 1]) := by
  have h6 := len6 ns 6 (by decide)
  refine ⟨fun x hx => ?_, by rw [List.length_append]; show _ + 2 ≤ 8; omega, fun x hx => ?_⟩
  · rw [List.length_append, List.getElem?_append_right (by show _ ≤ _ + 2 - 1; omega)] at hx
    have e : (ns.take 6).length + [y - 2, 1].length - 1 - (ns.take 6).length = 1 := by show _ + 2 - 1 - _ = 1; omega
    rw [e] at hx
    cases hx
    decide
  · rcases (List.mem_append.mp hx) with hx | hx
    · exact h.2.2 x (List.mem_of_mem_take hx)
    · exact all2 (P := fun x => -1000000 ≤ x ∧ x ≤ 1000000) ⟨by omega, by omega⟩ ⟨by decide, by decide⟩ x hx
theorem lok_some {ns : List Int} (h : Sp6 ns) {y : Nat} (hy : y ≤ 3) : Lok (ns.take 5 ++ List.replicate y 0) := by
  have h6 := len6 ns 5 (by decide)
  refine sp6_lok (by rw [List.length_append, List.length_replicate]; omega) fun x hx => ?_
  rcases (List.mem_append.mp hx) with hx | hx
  · exact h.2.2 x (List.mem_of_mem_take hx)
  · obtain ⟨_, rfl⟩ := List.mem_replicate.mp hx
    exact ⟨by decide, by decide⟩
theorem Sp6.lok {ns : List Int} (h : Sp6 ns) : Lok ns := sp6_lok (Nat.le_trans h.2.1 (by decide)) h.2.2
structure Md (H0 H : Hp) (p l ra : Addr) (ls : List Int) (u d : Int) (m : Nat) : Prop where
  but : But p H0 H
  sk : Sk H p m
  li : Li H l ls
  lp : l ≠ p
  fr : Fr H ra u d
  rp : ra ≠ p
theorem Md.ex {H0 H H' : Hp} {p l ra : Addr} {ls : List Int} {u d : Int} {m : Nat} (h : Md H0 H p l ra ls u d m) (e : Evl.Ex H H') : Md H0 H' p l ra ls u d m := ⟨h.but.trans (But.of_ex e), h.sk.ex e, e _ _ h.li, h.lp, e _ _ h.fr, h.rp⟩
theorem Md.go {H0 H H' : Hp} {p l ra : Addr} {ls : List Int} {u d : Int} {m k : Nat} (h : Md H0 H p l ra ls u d m) (b : But p H H') (s : Sk H' p k) : Md H0 H' p l ra ls u d k := ⟨h.but.trans b, s, b _ _ h.lp h.li, h.lp, b _ _ h.rp h.fr, h.rp⟩
theorem Md.le {H0 H : Hp} {p l ra : Addr} {ls : List Int} {u d : Int} {m k : Nat} (h : Md H0 H p l ra ls u d m) (q : m ≤ k) : Md H0 H p l ra ls u d k := ⟨h.but, h.sk.le q, h.li, h.lp, h.fr, h.rp⟩
structure Rt (H : Hp) (p r : Addr) (rs : List Int) : Prop where
  ne : r ≠ p
  li : Li H r rs
theorem Rt.ex {H H' : Hp} {p r : Addr} {rs : List Int} (h : Rt H p r rs) (e : Evl.Ex H H') : Rt H' p r rs := ⟨h.ne, e _ _ h.li⟩
theorem Rt.go {H H' : Hp} {p r : Addr} {rs : List Int} (h : Rt H p r rs) (b : But p H H') : Rt H' p r rs := ⟨h.ne, b _ _ h.ne h.li⟩
def spChecked : Sp := fun vs H Q _ => ∃ (p : Addr) (m : Nat), vs = [.ref p] ∧ Sk H p m ∧ m ≤ 50000 ∧ ∀ H', But p H H' → Sk H' p (m + 100) → Q (.bl true) H'
structure T5 (mg : Str → Option Value) : Prop where
  rng : mg "range" = none
  rep : mg "repr" = none
/-- one more piece of a comprehension that turns the sign -/
theorem neg_turn {H0 H' : Hp} {D : Addr} {ns : List Int} {i : Nat} {n : Int} (hn : ns[i]? = some n) (h8 : ns.length ≤ 8) (hD : H0 D = none) (e : Evl.Ex H0 H') (h : H' D = some (.lst (iV (neg (ns.take i))))) :
    ∃ acc, H' D = some (.lst acc) ∧ acc.length < sizeLine ∧ (Evl.Ex H0 (upd H' D (.lst (acc ++ [.int (0 - n)]))) ∧ (upd H' D (.lst (acc ++ [.int (0 - n)]))) D = some (.lst (iV (neg (ns.take (i + 1)))))) := by
  refine ⟨_, h, ?_, Evl.Ex.mut e hD, ?_⟩
  · have : (iV (neg (ns.take i))).length ≤ 8 := by
      rw [iV_len]; unfold neg; rw [List.length_map, List.length_take]; omega
    exact Nat.lt_of_le_of_lt this (by decide)
  · rw [upd_same, neg_snoc hn]
section
variable {base : Heap} {mg : Str → Option Value} {K : PySem.W.Frag} {w : World} {P : Program}
theorem show_go {H : Hp} {q l r s : Addr} {ls rs ss : List Int} (hq : H q = none) (hl : Li H l ls) (hr : Li H r rs) (hs : Li H s ss) (ol : Lok ls) (or_ : Lok rs) (os : Lok ss) :
    Dp K (upd H q (.lst [.ref l, .ref r, .ref s])) (.ref q) (treeD [(true, l, ls), (true, r, rs), (true, s, ss)]) ∧ Shw (treeD [(true, l, ls), (true, r, rs), (true, s, ss)]) := by
  have e : Evl.Ex H (upd H q (.lst [.ref l, .ref r, .ref s])) := Evl.Ex.new hq
  have hT : TreeAt (upd H q (.lst [.ref l, .ref r, .ref s])) q [(true, l, ls), (true, r, rs), (true, s, ss)] := ⟨upd_same, all3 (e _ _ hl) (e _ _ hr) (e _ _ hs)⟩
  exact ⟨dp_tree hT, shw_tree (its := [(true, l, ls), (true, r, rs), (true, s, ss)]) (all3 (.inl ⟨rfl, ol⟩) (.inl ⟨rfl, or_⟩) (.inl ⟨rfl, os⟩)) (by simp)⟩
end
end V2


namespace V2
/-! ## what is left of a polynomial by another one: mathematics -/
def cont : List Int → Nat
  | [] => 0
  | x :: r => Nat.gcd x.natAbs (cont r)
def prim (ns : List Int) : List Int := ns.map fun x => x / (cont ns : Int)
theorem cont_dvd : ∀ {ns : List Int} {x : Int}, x ∈ ns → (cont ns : Int) ∣ x
  | y :: r, x, h => by
    rcases (List.mem_cons.mp h) with e | h
    · subst e
      exact Int.ofNat_dvd_left.mpr (Nat.gcd_dvd_left _ _)
    · exact Int.dvd_trans (Int.natCast_dvd_natCast.mpr (Nat.gcd_dvd_right _ _)) (cont_dvd h)
theorem cont_scale (a : Nat) : ∀ ns : List Int, cont (ns.map fun x => (a : Int) * x) = a * cont ns
  | [] => rfl
  | x :: r => by
    show Nat.gcd ((a : Int) * x).natAbs (cont (r.map fun x => (a : Int) * x)) = a * Nat.gcd x.natAbs (cont r)
    rw [cont_scale a r, Int.natAbs_mul, Int.natAbs_natCast, Nat.gcd_mul_left]
/-- the greatest common divisor, found from the left -/
theorem cont_fold : ∀ (ns : List Int) (g : Nat), ns.foldl (fun g x => Nat.gcd g x.natAbs) g = Nat.gcd g (cont ns)
  | [], g => by show g = Nat.gcd g 0; rw [Nat.gcd_zero_right]
  | x :: r, g => by
    show r.foldl (fun g x => Nat.gcd g x.natAbs) (Nat.gcd g x.natAbs) = Nat.gcd g (Nat.gcd x.natAbs (cont r))
    rw [cont_fold r, Nat.gcd_assoc]
theorem cont_zero : ∀ {ns : List Int}, cont ns = 0 → ∀ x ∈ ns, x = 0 := by
  intro ns h x hx
  have := cont_dvd hx
  rw [h] at this
  exact Int.zero_dvd.mp this
theorem prim_eq {xs ys : List Int} {a b : Nat} (ha : 0 < a) (hb : 0 < b) (h : (xs.map fun x => (a : Int) * x) = ys.map fun x => (b : Int) * x) : prim xs = prim ys := by
  have hc : a * cont xs = b * cont ys := by rw [← cont_scale, ← cont_scale, h]
  have hl : xs.length = ys.length := by
    have := (congrArg List.length h)
    rwa [List.length_map, List.length_map] at this
  refine List.ext_getElem (by unfold prim; rw [List.length_map, List.length_map, hl]) fun i h1 h2 => ?_
  unfold prim at h1 h2 ⊢
  rw [List.length_map] at h1 h2
  rw [List.getElem_map, List.getElem_map]
  have e : (a : Int) * xs[i] = (b : Int) * ys[i] := by
    have e1 : (xs.map fun x => (a : Int) * x)[i]'(by rw [List.length_map]; exact h1) = (ys.map fun x => (b : Int) * x)[i]'(by rw [List.length_map]; exact h2) := by
      simp only [h]
    rwa [List.getElem_map, List.getElem_map] at e1
  obtain ⟨p, hp⟩ := cont_dvd (List.getElem_mem h1)
  obtain ⟨q, hq⟩ := cont_dvd (List.getElem_mem h2)
  rcases Nat.eq_zero_or_pos (cont xs) with z | z
  · have z2 : cont ys = 0 := by
      rw [z, Nat.mul_zero] at hc
      rcases Nat.mul_eq_zero.mp hc.symm with c | c
      · omega
      · exact c
    rw [cont_zero z _ (List.getElem_mem h1), cont_zero z2 _ (List.getElem_mem h2), Int.zero_ediv, Int.zero_ediv]
  · have z2 : 0 < cont ys := by
      rcases Nat.eq_zero_or_pos (cont ys) with c | c
      · rw [c, Nat.mul_zero] at hc
        have := Nat.mul_pos ha z
        omega
      · exact c
    rw [hp, hq, Int.mul_ediv_cancel_left _ (by omega), Int.mul_ediv_cancel_left _ (by omega)]
    rw [hp, hq, ← Int.mul_assoc, ← Int.mul_assoc] at e
    have hcz : (a : Int) * (cont xs : Int) = (b : Int) * (cont ys : Int) := by
      rw [← Int.natCast_mul, ← Int.natCast_mul, hc]
    rw [hcz] at e
    exact Int.eq_of_mul_eq_mul_left (Int.ne_of_gt (Int.mul_pos (by omega) (by omega))) e
/-! ### products of functions -/
def cfF (f g : Nat → Int) : Nat → Nat → Int
  | 0, _ => 0
  | k + 1, i => cfF f g k i + (if k ≤ i then f k * g (i - k) else 0)
theorem cf_cfF (xs ys : List Int) : ∀ k i, cf xs ys k i = cfF (fun j => xs.getD j 0) (fun j => ys.getD j 0) k i
  | 0, _ => rfl
  | k + 1, i => by
    show cf xs ys k i + _ = cfF _ _ k i + _
    rw [cf_cfF xs ys k i]
theorem cfF_lin (f g h : Nat → Int) (a b : Int) : ∀ k i, cfF f (fun j => a * g j + b * h j) k i = a * cfF f g k i + b * cfF f h k i
  | 0, _ => by show (0 : Int) = a * 0 + b * 0; rw [Int.mul_zero, Int.mul_zero, Int.add_zero]
  | k + 1, i => by
    show cfF f (fun j => a * g j + b * h j) k i + (if k ≤ i then f k * (a * g (i - k) + b * h (i - k)) else 0) = a * (cfF f g k i + (if k ≤ i then f k * g (i - k) else 0)) + b * (cfF f h k i + (if k ≤ i then f k * h (i - k) else 0))
    rw [cfF_lin f g h a b k i]
    split
    · simp only [Int.mul_add, Int.mul_left_comm (f k)]
      omega
    · simp only [Int.add_zero]
theorem cfF_zero (f g : Nat → Int) : ∀ k i, (∀ j, j < k → j ≤ i → f j * g (i - j) = 0) → cfF f g k i = 0
  | 0, _, _ => rfl
  | k + 1, i, h => by
    show cfF f g k i + (if k ≤ i then f k * g (i - k) else 0) = 0
    rw [cfF_zero f g k i fun j h1 h2 => h j (by omega) h2]
    split
    · rename_i c
      rw [h k (by omega) c]
      rfl
    · rfl
/-- one number alone, at place n -/
def dlt (n : Nat) : Nat → Int := fun i => if i = n then 1 else 0
theorem cfF_dlt (f : Nat → Int) (n : Nat) : ∀ k i, cfF f (dlt n) k i = if n ≤ i ∧ i - n < k then f (i - n) else 0
  | 0, i => by show (0 : Int) = _; rw [if_neg (by omega)]
  | k + 1, i => by
    show cfF f (dlt n) k i + (if k ≤ i then f k * dlt n (i - k) else 0) = _
    rw [cfF_dlt f n k i]
    unfold dlt
    by_cases h1 : n ≤ i ∧ i - n < k
    · rw [if_pos h1, if_pos (c := n ≤ i ∧ i - n < k + 1) (by omega)]
      by_cases h3 : k ≤ i
      · rw [if_pos h3, if_neg (by omega), Int.mul_zero, Int.add_zero]
      · rw [if_neg h3, Int.add_zero]
    · rw [if_neg h1, Int.zero_add]
      by_cases h2 : n ≤ i ∧ i - n = k
      · rw [if_pos (c := k ≤ i) (by omega), if_pos (c := i - k = n) (by omega), if_pos (c := n ≤ i ∧ i - n < k + 1) (by omega), Int.mul_one, h2.2]
      · rw [if_neg (c := n ≤ i ∧ i - n < k + 1) (by omega)]
        by_cases h3 : k ≤ i
        · rw [if_pos h3, if_neg (by omega), Int.mul_zero]
        · rw [if_neg h3]
/-- the top of a product -/
theorem cfF_top (f g : Nat → Int) (m n : Nat) (h : ∀ i, n < i → g i = 0) : cfF f g (m + 1) (n + m) = f m * g n := by
  show cfF f g m (n + m) + (if m ≤ n + m then f m * g (n + m - m) else 0) = _
  rw [cfF_zero f g m (n + m) fun j h1 h2 => by rw [h _ (by omega), Int.mul_zero], if_pos (by omega), Nat.add_sub_cancel, Int.zero_add]
theorem cfF_null {f g : Nat → Int} {m : Nat} (hf : f m ≠ 0) (hz : ∀ i, m ≤ i → cfF f g (m + 1) i = 0) : ∀ n, (∀ i, n ≤ i → g i = 0) → ∀ i, g i = 0
  | 0, h, i => h i (Nat.zero_le _)
  | n + 1, h, i => by
    refine cfF_null hf hz n (fun j hj => ?_) i
    rcases Nat.lt_or_ge n j with c | c
    · exact h j c
    · have e : j = n := by omega
      subst e
      have h1 := cfF_top f g m j fun i hi => h i hi
      rw [hz (j + m) (by omega)] at h1
      rcases Int.mul_eq_zero.mp h1.symm with z | z
      · exact absurd z hf
      · exact z
/-- L is what is left of P by B, up to a factor above 0 -/
def Rm (P B L : List Int) : Prop := Pol L ∧ L.length < B.length ∧ ∃ (g : Int) (q : Nat → Int) (N : Nat), 0 < g ∧ (∀ i, N ≤ i → q i = 0) ∧ ∀ i, g * P.getD i 0 = cfF (fun j => B.getD j 0) q B.length i + L.getD i 0
theorem getD_pol {L : List Int} (h : Pol L) {n : Nat} (hn : L.length = n + 1) : L.getD n 0 ≠ 0 := by
  have e : L[n]? = some L[n] := List.getElem?_eq_getElem (by omega)
  rw [getD_at e]
  refine h _ ?_
  have e2 : L.length - 1 = n := by omega
  rw [e2]
  exact e
theorem pol_len {L M : List Int} (hL : Pol L) (hM : Pol M) {a b : Int} (ha : 0 < a) (hb : 0 < b) (h : ∀ i, a * L.getD i 0 = b * M.getD i 0) : L.length ≤ M.length := by
  rcases Nat.lt_or_ge M.length L.length with c | c
  · exfalso
    obtain ⟨n, hn⟩ : ∃ n, L.length = n + 1 := ⟨L.length - 1, by omega⟩
    have h1 := h n
    rw [getD_out (l := M) (by omega), Int.mul_zero] at h1
    rcases Int.mul_eq_zero.mp h1 with z | z
    · omega
    · exact getD_pol hL hn z
  · exact c
theorem Rm.uniq {P B L M : List Int} (hB : Pol B) (h : Rm P B L) (k : Rm P B M) : prim L = prim M := by
  obtain ⟨l1, l2, g, q, N, g0, qz, qe⟩ := h
  obtain ⟨m1, m2, c, r, R, c0, rz, re⟩ := k
  obtain ⟨m, hm⟩ : ∃ m, B.length = m + 1 := ⟨B.length - 1, by omega⟩
  rw [hm] at qe re l2 m2
  have hw : ∀ i, cfF (fun j => B.getD j 0) (fun j => c * q j + (-g) * r j) (m + 1) i = g * M.getD i 0 - c * L.getD i 0 := by
    intro i
    rw [cfF_lin]
    have h1 := qe i
    have h2 := re i
    have h3 : c * (g * P.getD i 0) = g * (c * P.getD i 0) := Int.mul_left_comm _ _ _
    rw [h1, h2, Int.mul_add, Int.mul_add] at h3
    rw [Int.neg_mul]
    omega
  have hz : ∀ i, c * q i + (-g) * r i = 0 := by
    refine cfF_null (f := fun j => B.getD j 0) (g := fun j => c * q j + (-g) * r j) (m := m) (getD_pol hB hm) (fun i hi => ?_) (max N R) (fun i hi => ?_)
    · rw [hw i, getD_out (l := M) (by omega), getD_out (l := L) (by omega), Int.mul_zero, Int.mul_zero]
      rfl
    · show c * q i + (-g) * r i = 0
      rw [qz i (by omega), rz i (by omega), Int.mul_zero, Int.mul_zero]
      rfl
  have he : ∀ i, g * M.getD i 0 = c * L.getD i 0 := by
    intro i
    have := hw i
    rw [cfF_zero _ _ _ _ fun j _ _ => by rw [hz]; exact Int.mul_zero _] at this
    omega
  have hlen : L.length = M.length := Nat.le_antisymm (pol_len l1 m1 c0 g0 fun i => (he i).symm) (pol_len m1 l1 g0 c0 he)
  refine prim_eq (a := c.toNat) (b := g.toNat) (by omega) (by omega) ?_
  refine List.ext_getElem (by rw [List.length_map, List.length_map, hlen]) fun i h1 h2 => ?_
  rw [List.length_map] at h1 h2
  rw [List.getElem_map, List.getElem_map]
  have t := he i
  rw [getD_at (List.getElem?_eq_getElem h1), getD_at (List.getElem?_eq_getElem h2)] at t
  have ec : ((c.toNat : Nat) : Int) = c := Int.toNat_of_nonneg (by omega)
  have eg : ((g.toNat : Nat) : Int) = g := Int.toNat_of_nonneg (by omega)
  exact Eq.trans (congrArg (fun z => z * L[i]) ec) (Eq.trans t.symm (congrArg (fun z => z * M[i]) eg.symm))
theorem trm_getD (ns : List Int) (i : Nat) : (trm ns).getD i 0 = ns.getD i 0 := by
  unfold trm
  by_cases h : i < ns.length - tz ns
  · rw [List.getD_eq_getElem?_getD, List.getD_eq_getElem?_getD, List.getElem?_take, if_pos h]
  · rw [getD_out (by rw [List.length_take]; omega)]
    by_cases h2 : i < ns.length
    · have := tz_in ns (ns.length - 1 - i) (by omega)
      rw [show ns.length - 1 - (ns.length - 1 - i) = i by omega] at this
      rw [getD_at this]
    · rw [getD_out (by omega)]
end V2


namespace V2
open PySem L2
open PySem.Spec PyProof.Rows
/-! ## the program: what divides all, the rest -/
def spCont (K : PySem.W.Frag) : Sp := fun vs H Q _ => ∃ (a : Addr) (ns : List Int), vs = [.ref a] ∧ Li H a ns ∧ Evl.RetV (.int (cont ns : Int)) H Q
def spPrim : Sp := fun vs H Q _ => ∃ (a : Addr) (ns : List Int), vs = [.ref a] ∧ Li H a ns ∧ ns.length ≤ 100 ∧ (∀ x ∈ ns, x.natAbs < 2 ^ 9000) ∧ Pol ns ∧ Evl.RetL (iV (prim ns)) H Q
theorem cont_pos {ns : List Int} (h : Pol ns) (h0 : ns ≠ []) : 0 < cont ns := by
  rcases Nat.eq_zero_or_pos (cont ns) with z | z
  · exfalso
    have l0 : 0 < ns.length := List.length_pos_iff.mpr h0
    obtain ⟨n, hn⟩ : ∃ n, ns.length = n + 1 := ⟨ns.length - 1, by omega⟩
    have hg := getD_pol h hn
    have e : ns[n]? = some ns[n] := List.getElem?_eq_getElem (by omega)
    rw [getD_at e] at hg
    exact hg (cont_zero z _ (List.getElem_mem (by omega)))
  · exact z
theorem cont_lt {ns : List Int} {B : Nat} (h : Pol ns) (hb : ∀ x ∈ ns, x.natAbs < 2 ^ B) : cont ns < 2 ^ B := by
  by_cases h0 : ns = []
  · subst h0
    exact Nat.pow_pos (by decide)
  · have l0 : 0 < ns.length := List.length_pos_iff.mpr h0
    obtain ⟨n, hn⟩ : ∃ n, ns.length = n + 1 := ⟨ns.length - 1, by omega⟩
    have hg := getD_pol h hn
    have e : ns[n]? = some ns[n] := List.getElem?_eq_getElem (by omega)
    rw [getD_at e] at hg
    have hm : ns[n] ∈ ns := List.getElem_mem (by omega)
    have := Int.natAbs_dvd_natAbs.mpr (cont_dvd hm)
    rw [Int.natAbs_natCast] at this
    exact Nat.lt_of_le_of_lt (Nat.le_of_dvd (by omega) this) (hb _ hm)
theorem prim_at {ns : List Int} {i : Nat} {n : Int} (h : ns[i]? = some n) : (prim ns)[i]? = some (n / (cont ns : Int)) := by
  unfold prim
  rw [List.getElem?_map, h]
  rfl
theorem prim_len (ns : List Int) : (prim ns).length = ns.length := by unfold prim; rw [List.length_map]
theorem take_next {ns : List Int} {i : Nat} {n : Int} (h : ns[i]? = some n) : iV (ns.take (i + 1)) = iV (ns.take i) ++ [.int n] := by
  rw [List.take_add_one, h]
  unfold iV
  rw [List.map_append]
  rfl
section
variable {base : Heap} {mg : Str → Option Value} {K : PySem.W.Frag} {w : World} {P : Program}
theorem ok_content {f : Addr} {fd : FuncData} (F : Fun K "content" "content" s_content f fd) (mG : mg "gcd" = some (.builtin "math.gcd")) : FnOk P w K mg base CX0 1 f fd p_content (spCont K) := by
  refine F.ok sc_content (fun vs H Q E h => ?_) (fun cdv A outer s H vs Q E hr h => ?_)
  · obtain ⟨a, ns, rfl, _⟩ := h
    rfl
  · obtain ⟨a, ns, rfl, hL, k⟩ := h
    have nd := sc_content.nd
    refine ⟨_, pss_cons (ps_set (i := 1) nd rfl (Or.inl rfl) pe_int)
      (pss_cons (ps_for PassesOwn.never rfl (pi_list (pv 0)) (pg_name (i := 2) nd rfl (Or.inl rfl))
        (pss_one (ps_set (i := 1) nd rfl (Or.inl rfl) (pe_callBfun cr_gcd (by rfl) mG (pa_cons (pv 1) (pa_cons (pv 2) pa_nil))))))
      (pss_one (ps_ret (pv 1))) ), ?_⟩
    refine ⟨_, rfl, a, rfl, ⟨_, SqL.of hL⟩, for_list (xs := iV ns) (fun i σ H' => H' = H ∧ ∃ v, σ = [some (.ref a), some (.int (((ns.take i).foldl (fun g x => Nat.gcd g x.natAbs) 0 : Nat) : Int)), v]) ⟨rfl, none, rfl⟩ (fun i σ H' _ q => by rw [q.1]; exact SqL.of hL) ?_ ?_⟩
    · rintro i x σ H' hi ⟨rfl, v, rfl⟩
      obtain ⟨n, hn, rfl⟩ := iV_get hi
      refine ⟨_, rfl, _, rfl, _, _, rfl, rfl, some (.int n), ?_⟩
      rw [List.take_add_one, hn, List.foldl_append]
      rfl
    · rintro σ H' ⟨rfl, v, rfl⟩
      rw [iV_len, List.take_length, cont_fold, Nat.gcd_zero_left]
      exact ⟨_, rfl, k _ (Evl.Ex.refl _)⟩
theorem ok_primitive {f : Addr} {fd : FuncData} (F : Fun K "primitive" "primitive" s_primitive f fd) (cC : Cal P w K mg base 1 "content" p_content (spCont K)) : FnOk P w K mg base CX0 2 f fd p_primitive spPrim := by
  refine F.ok sc_primitive (fun vs H Q E h => ?_) (fun cdv A outer s H vs Q E hr h => ?_)
  · obtain ⟨a, ns, rfl, _⟩ := h
    rfl
  · obtain ⟨a, ns, rfl, hL, hl, hb, hp, k⟩ := h
    have nd := sc_primitive.nd
    refine ⟨_, pss_cons (ps_set (i := 1) nd rfl (Or.inr rfl) (pe_c cC hr (pa_cons (pv 0) pa_nil)))
      (pss_one (ps_ret (pe_lc (own := [("number", 2)]) (g := gName 2) (tt := tYes) (te := tOp (rI CDivW fun i j => .int (i / j)) (tVar 2) (tVar 1)) rfl nd (pi_list (pv 0)) (blkOk_by (N := n_primitive) (sc := defScope s_primitive) (by decide +kernel)) (fun _ _ _ _ _ => pg_name (i := 2) nd rfl (Or.inl rfl)) (fun _ _ _ _ _ => pts_nil)
          (fun _ _ _ _ _ => pe_op op_fdivW (pv 2) (pv 1))))), ?_⟩
    refine ⟨_, rfl, a, ns, rfl, hL, fun H1 e1 => ?_⟩
    have hL1 : Li H1 a ns := e1 _ _ hL
    refine ⟨_, rfl, a, rfl, ⟨_, SqL.of hL1⟩, fun D hD => lc_list (xs := iV ns) (fun i H' => Evl.Ex H1 H' ∧ H' D = some (.lst (iV ((prim ns).take i)))) ⟨Evl.Ex.new hD, upd_same⟩ (fun i H' _ q => SqL.of (q.1 _ _ hL1)) ?_ ?_⟩
    · rintro i x H' hi ⟨e2, h2⟩
      obtain ⟨n, hn, rfl⟩ := iV_get hi
      have h0 : ns ≠ [] := fun z => by rw [z] at hn; cases hn
      have cp := cont_pos hp h0
      refine ⟨rfl, ?_⟩
      show tOp (rI CDivW fun i j => .int (i / j)) (tVar 2) (tVar 1) _ _ _
      refine ⟨_, rfl, _, rfl, _, _, rfl, rfl, wide_div (b := 9000) (by omega) (by rw [Int.natAbs_natCast]; exact cont_lt hp hb) (by decide) (by decide), _, h2, ?_, Evl.Ex.mut e2 hD, ?_⟩
      · rw [iV_len, List.length_take]
        exact Nat.lt_of_le_of_lt (show _ ≤ 100 by rw [prim_len]; omega) (by decide)
      · rw [upd_same, take_next (prim_at hn)]
    · rintro H' ⟨e2, h2⟩
      rw [iV_len, ← prim_len, List.take_length] at h2
      exact k D H' (Evl.fresh_back e1 hD) (e1.trans e2) h2
end
end V2


namespace V2
open PySem L2
open PySem.Spec PyProof.Rows
def Rs (P B L : List Int) : Prop := ∃ (g : Int) (q : Nat → Int) (N : Nat), 0 < g ∧ (∀ i, N ≤ i → q i = 0) ∧ ∀ i, g * P.getD i 0 = cfF (fun j => B.getD j 0) q B.length i + L.getD i 0
theorem Rs.self (P B : List Int) : Rs P B P := ⟨1, fun _ => 0, 0, by decide, fun _ _ => rfl, fun i => by
  rw [cfF_zero _ _ _ _ fun _ _ _ => Int.mul_zero _, Int.one_mul, Int.zero_add]⟩
def tkn (B : List Int) (off : Nat) (t : Int) : List Int := List.replicate off 0 ++ B.map fun x => t * x
theorem tkn_getD (B : List Int) (off : Nat) (t : Int) (k : Nat) : (tkn B off t).getD k 0 = if off ≤ k then t * B.getD (k - off) 0 else 0 := by
  unfold tkn
  rw [(List.getD_eq_getElem?_getD)]
  by_cases h : off ≤ k
  · rw [if_pos h, List.getElem?_append_right (by rw [List.length_replicate]; exact h), List.length_replicate, List.getElem?_map, List.getD_eq_getElem?_getD]
    cases B[k - off]? with
    | none => show (0 : Int) = t * 0; rw [Int.mul_zero]
    | some x => rfl
  · rw [if_neg h, List.getElem?_append_left (by rw [List.length_replicate]; omega), List.getElem?_replicate, if_pos (by omega)]
    rfl
theorem tkn_len (B : List Int) (off : Nat) (t : Int) : (tkn B off t).length = off + B.length := by
  unfold tkn; rw [List.length_append, List.length_replicate, List.length_map]
/-- one step of the program -/
def stepL (B L : List Int) (g t : Int) : List Int := vec L.length fun k => g * L.getD k 0 - (tkn B (L.length - B.length) t).getD k 0
theorem vec_getD (N : Nat) (f : Nat → Int) (i : Nat) : (vec N f).getD i 0 = if i < N then f i else 0 := by
  by_cases h : i < N
  · rw [if_pos h, getD_at (vec_get h)]
  · rw [if_neg h, getD_out (by rw [vec_len]; omega)]
theorem trm_short {ns : List Int} {n : Nat} (hn : ns.length = n + 1) (h : ns.getD n 0 = 0) : (trm ns).length < ns.length := by
  rcases Nat.eq_zero_or_pos (tz ns) with z | z
  · exfalso
    obtain ⟨x, h1, h2⟩ := tz_at ns (by omega)
    rw [z, hn] at h1
    have h1 : ns[n]? = some x := h1
    rw [getD_at h1] at h
    exact h2 h
  · unfold trm
    rw [List.length_take]
    omega
theorem rs_step {P B L : List Int} (h0 : B ≠ []) (h : Rs P B L) (hl : B.length ≤ L.length) {g t : Int} (hg : 0 < g) (ht : g * L.getD (L.length - 1) 0 = t * B.getD (B.length - 1) 0) : Rs P B (trm (stepL B L g t)) ∧ (trm (stepL B L g t)).length < L.length := by
  have lb : 0 < B.length := List.length_pos_iff.mpr h0
  constructor
  · obtain ⟨c, q, N, c0, qz, qe⟩ := h
    refine ⟨g * c, fun j => g * q j + t * dlt (L.length - B.length) j, max N (L.length - B.length + 1), Int.mul_pos hg c0, fun i hi => ?_, fun i => ?_⟩
    · show g * q i + t * dlt (L.length - B.length) i = 0
      unfold dlt
      rw [qz i (by omega), if_neg (by omega), Int.mul_zero, Int.mul_zero]
      rfl
    · rw [Int.mul_assoc, qe i, cfF_lin, cfF_dlt, trm_getD, Int.mul_add]
      unfold stepL
      rw [vec_getD, tkn_getD]
      have hb : (if L.length - B.length ≤ i ∧ i - (L.length - B.length) < B.length then B.getD (i - (L.length - B.length)) 0 else 0) = if L.length - B.length ≤ i then B.getD (i - (L.length - B.length)) 0 else 0 := by
        by_cases h1 : L.length - B.length ≤ i
        · rw [if_pos h1]
          by_cases h2 : i - (L.length - B.length) < B.length
          · rw [if_pos ⟨h1, h2⟩]
          · rw [if_neg (by omega), getD_out (by omega)]
        · rw [if_neg h1, if_neg (by omega)]
      rw [hb]
      by_cases h3 : i < L.length
      · rw [if_pos h3]
        by_cases h1 : L.length - B.length ≤ i
        · rw [if_pos h1, if_pos h1]; omega
        · rw [if_neg h1, if_neg h1, Int.mul_zero]; omega
      · rw [if_neg h3, getD_out (l := L) (by omega), if_pos (by omega), getD_out (l := B) (by omega), Int.mul_zero, Int.mul_zero]
        omega
  · have := trm_short (ns := stepL B L g t) (n := L.length - 1) (by unfold stepL; rw [vec_len]; omega) (by
      unfold stepL
      rw [vec_getD, if_pos (by omega), tkn_getD, if_pos (by omega), ht, show L.length - 1 - (L.length - B.length) = B.length - 1 by omega]
      omega)
    unfold stepL at this ⊢
    rw [vec_len] at this
    exact this
/-- grow and take -/
theorem grow_take {t d : Int} (hd : d ≠ 0) : ∃ f : Int, ((Nat.gcd t.natAbs d.natAbs : Nat) : Int) = f ∧ 0 < f ∧ f.natAbs ≤ d.natAbs ∧ 0 < (if d < 0 then -d else d) / f ∧ ((if d < 0 then -d else d) / f).natAbs ≤ d.natAbs ∧ (t / f).natAbs ≤ t.natAbs ∧
    (if d < 0 then -d else d) / f * t = (if d < 0 then -(t / f) else t / f) * d := by
  refine ⟨_, rfl, ?_⟩
  have g0 : 0 < Nat.gcd t.natAbs d.natAbs := Nat.gcd_pos_of_pos_right _ (by omega)
  obtain ⟨p, hp⟩ : ((Nat.gcd t.natAbs d.natAbs : Nat) : Int) ∣ t := Int.ofNat_dvd_left.mpr (Nat.gcd_dvd_left _ _)
  obtain ⟨r, hr⟩ : ((Nat.gcd t.natAbs d.natAbs : Nat) : Int) ∣ d := Int.ofNat_dvd_left.mpr (Nat.gcd_dvd_right _ _)
  have gl : Nat.gcd t.natAbs d.natAbs ≤ d.natAbs := Nat.gcd_le_right _ (by omega)
  generalize Nat.gcd t.natAbs d.natAbs = f at *
  have f0 : (0 : Int) < (f : Int) := by omega
  have e1 : t / (f : Int) = p := by rw [hp, Int.mul_ediv_cancel_left _ (by omega)]
  have e2 : (if d < 0 then -d else d) / (f : Int) = if d < 0 then -r else r := by
    split
    · rw [hr, ← Int.mul_neg, Int.mul_ediv_cancel_left _ (by omega)]
    · rw [hr, Int.mul_ediv_cancel_left _ (by omega)]
  have ab : ∀ x : Int, x.natAbs ≤ ((f : Int) * x).natAbs := fun x => by
    rw [Int.natAbs_mul, Int.natAbs_natCast]
    exact Nat.le_mul_of_pos_left _ g0
  have r1 : d < 0 → r < 0 := fun c => by
    rcases Int.lt_or_le r 0 with z | z
    · exact z
    · have := Int.mul_nonneg (Int.le_of_lt f0) z
      omega
  have r2 : ¬ d < 0 → 0 < r := fun c => by
    rcases Int.lt_or_le 0 r with z | z
    · exact z
    · have := Int.mul_nonpos_of_nonneg_of_nonpos (Int.le_of_lt f0) z
      omega
  rw [e1, e2]
  refine ⟨f0, by omega, ?_, ?_, ?_, ?_⟩
  · split
    · have := r1 ‹_›; omega
    · exact r2 ‹_›
  · have := ab r
    rw [← hr] at this
    split <;> omega
  · have := ab p
    rw [← hp] at this
    exact this
  · split
    · conv => lhs; rw [hp]
      conv => rhs; rw [hr]
      rw [Int.neg_mul, Int.neg_mul, Int.mul_left_comm, Int.mul_left_comm p, Int.mul_comm r p]
    · conv => lhs; rw [hp]
      conv => rhs; rw [hr]
      rw [Int.mul_left_comm, Int.mul_left_comm p, Int.mul_comm r p]
end V2


namespace V2
open PySem L2
open PySem.Spec PyProof.Rows
/-- the rest: whatever is left, divided by what divides all -/
def spRem : Sp := fun vs H Q _ => ∃ (a b : Addr) (xs ys : List Int), vs = [.ref a, .ref b] ∧ Li H a xs ∧ Li H b ys ∧ Sp6 xs ∧ Sp6 ys ∧ ys ≠ [] ∧ ∀ L, Rm xs ys L → (∀ x ∈ L, x.natAbs < 2 ^ 190) → Evl.RetL (iV (prim L)) H Q
structure T7 (mg : Str → Option Value) : Prop where
  len : mg "len" = none
  abs : mg "abs" = none
  enu : mg "enumerate" = none
  gcd : mg "gcd" = some (.builtin "math.gcd")
theorem tkn_next {ys : List Int} {t n : Int} {i : Nat} (h : ys[i]? = some n) : iV ((ys.map fun x => t * x).take (i + 1)) = iV ((ys.map fun x => t * x).take i) ++ [.int (t * n)] :=
  take_next (by rw [List.getElem?_map, h]; rfl)
theorem getD_mem {L : List Int} {B : Nat} (hb : ∀ x ∈ L, x.natAbs < 2 ^ B) (i : Nat) : (L.getD i 0).natAbs < 2 ^ B := by
  rw [(List.getD_eq_getElem?_getD)]
  cases e : L[i]? with
  | none => exact Nat.pow_pos (by decide)
  | some x => exact hb x (List.mem_of_getElem? e)
theorem vec_take {N : Nat} {f : Nat → Int} {i : Nat} (h : i < N) : iV ((vec N f).take (i + 1)) = iV ((vec N f).take i) ++ [.int (f i)] := take_next (vec_get h)
theorem tkn_bd {ys : List Int} {t : Int} {B : Nat} (ht : t.natAbs < 2 ^ B) (hy : ∀ x ∈ ys, x.natAbs < 2 ^ 20) (off k : Nat) : ((tkn ys off t).getD k 0).natAbs < 2 ^ (B + 20) := by
  rw [tkn_getD]
  split
  · exact wide_lt ht (getD_mem hy _)
  · exact Nat.pow_pos (by decide)
theorem step_bd {ys L : List Int} {g t : Int} {B : Nat} (hL : ∀ x ∈ L, x.natAbs < 2 ^ B) (hg : g.natAbs < 2 ^ 20) (ht : t.natAbs < 2 ^ B) (hy : ∀ x ∈ ys, x.natAbs < 2 ^ 20) : ∀ x ∈ trm (stepL ys L g t), x.natAbs < 2 ^ (B + 21) := by
  intro x hx
  obtain ⟨i, _, rfl⟩ := vec_mem (trm_mem hx)
  have h1 := tkn_bd ht hy (L.length - ys.length) i
  have h2 := wide_lt hg (getD_mem hL i)
  have e : (2 : Nat) ^ (B + 21) = 2 ^ (B + 20) + 2 ^ (B + 20) := by
    rw [show B + 21 = B + 20 + 1 from rfl, Nat.pow_succ]; omega
  rw [Nat.add_comm 20 B] at h2
  rw [e]
  omega
theorem Sp6.b20 {ns : List Int} (h : Sp6 ns) : ∀ x ∈ ns, x.natAbs < 2 ^ 20 := fun x hx => by
  have := h.2.2 x hx
  have e : (2 : Nat) ^ 20 = 1048576 := (by decide)
  rw [e]; omega
/-- ahead of each turn of the loop -/
def Wh (H : Hp) (a b : Addr) (ld : Int) (xs ys : List Int) (m : Nat) (σ : L2.St) (H' : Hp) : Prop := ∃ (l : Addr) (L : List Int) (v4 v5 v6 v7 v8 : Option V), σ = [some (.ref a), some (.ref b), some (.ref l), some (.int ld), v4, v5, v6, v7, v8, none, none] ∧
  Evl.Ex H H' ∧ Li H' l L ∧ Pol L ∧ L.length = m ∧ m ≤ 8 ∧ (∀ x ∈ L, x.natAbs < 2 ^ (21 * (9 - m))) ∧ Rs xs ys L
theorem more {ns : List Int} {A B : Nat} (h : ∀ x ∈ ns, x.natAbs < 2 ^ A) (hl : A ≤ B) : ∀ x ∈ ns, x.natAbs < 2 ^ B := fun x hx => big (h x hx) hl
section
variable {base : Heap} {mg : Str → Option Value} {K : PySem.W.Frag} {w : World} {P : Program}
theorem ok_remainder {f : Addr} {fd : FuncData} (F : Fun K "remainder" "remainder" s_remainder f fd) (T : T7 mg) (cC : Cal P w K mg base 1 "cut" p_cut (spTrim K)) (cP : Cal P w K mg base 2 "primitive" p_primitive spPrim) : FnOk P w K mg base CX0 3 f fd p_remainder spRem := by
  refine F.ok sc_remainder (fun vs H Q E h => ?_) (fun cdv A outer s H vs Q E hr h => ?_)
  · obtain ⟨a, b, xs, ys, rfl, _⟩ := h
    rfl
  · obtain ⟨a, b, xs, ys, rfl, ha, hb, hx, hy, y0, k⟩ := h
    have nd := sc_remainder.nd
    have r1 : Room 1 _ := hr.mono (by decide)
    refine ⟨_, pss_cons (ps_set (i := 2) nd rfl (Or.inl rfl) (pv 0))
      (pss_cons (ps_set (i := 3) nd rfl (Or.inl rfl) (pe_ix ix_list (pv 1) (pe_un un_neg pe_int) (fun _ _ => rfl)))
      (pss_cons (ps_while PassesOwn.never (pt_cmpR op_ge (pe_callB call_len_seq (by rfl) T.len PySem.boot_len (pa_cons (pv 2) pa_nil)) (pe_callB call_len_seq (by rfl) T.len PySem.boot_len (pa_cons (pv 1) pa_nil)) (nomark _))
        (pss_cons (ps_set (i := 4) nd rfl (Or.inl rfl) (pe_callBfun cr_gcd (by rfl) T.gcd (pa_cons (pe_ix ix_list (pv 2) (pe_un un_neg pe_int) (fun _ _ => rfl)) (pa_cons (pv 3) pa_nil))))
        (pss_cons (ps_asg (pe_tup (pa_cons (pe_op op_fdivW (pe_callB call_abs (by rfl) T.abs (by decide +kernel) (pa_cons (pv 3) pa_nil)) (pv 4)) (pa_cons (pe_op op_fdivW (pe_ix ix_list (pv 2) (pe_un un_neg pe_int) (fun _ _ => rfl)) (pv 4)) pa_nil)))
            (pg_tup rfl (pgs_cons (pg_name (i := 5) nd rfl (Or.inr rfl)) (pgs_cons (pg_name (i := 6) nd rfl (Or.inr rfl)) pgs_nil))))
        (Evl.pss_cut (ps_if (pt_cmpR op_lt (pv 3) pe_int (nomark _)) (pss_one (ps_set (i := 6) nd rfl (Or.inr rfl) (pe_un un_neg (pv 6)))) pss_nil)
        (pss_cons (ps_set (i := 7) nd rfl (Or.inl rfl) (pe_op op_sub (pe_callB call_len_seq (by rfl) T.len PySem.boot_len (pa_cons (pv 2) pa_nil)) (pe_callB call_len_seq (by rfl) T.len PySem.boot_len (pa_cons (pv 1) pa_nil))))
        (pss_cons (ps_set (i := 8) nd rfl (Or.inr rfl) (pe_op op_cat (pe_op op_rep (pe_lst (pa_cons pe_int pa_nil)) (pv 7))
            (pe_lc (own := [("number", 9)]) (g := gName 9) (tt := tYes) (te := tOp (rI CMulW fun i j => .int (i * j)) (tVar 6) (tVar 9)) rfl nd (pi_list (pv 1)) (blkOk_by (N := n_remainder) (sc := defScope s_remainder) (by decide +kernel)) (fun _ _ _ _ _ => pg_name (i := 9) nd rfl (Or.inl rfl)) (fun _ _ _ _ _ => pts_nil)
              (fun _ _ _ _ _ => pe_op op_mulW (pv 6) (pv 9)))))
        (pss_one (ps_set (i := 2) nd rfl (Or.inl rfl) (pe_c cC r1 (pa_cons
            (pe_lc (own := [("k", 10), ("number", 9)]) (g := gTup K 2 (gCons (gName 10) (gCons (gName 9) gNil))) (tt := tYes) (te := tOp (rI0 fun i j => .int (i - j)) (tOp (rI CMulW fun i j => .int (i * j)) (tVar 5) (tVar 9)) (tOp (rIxL K) (tVar 8) (tVar 10))) rfl nd (pi_enum (by rfl) T.enu (pa_cons (pv 2) pa_nil)) (blkOk_by (N := n_remainder) (sc := defScope s_remainder) (by decide +kernel)) (fun _ _ _ _ _ => pg_tup rfl (pgs_cons (pg_name (i := 10) nd rfl (Or.inl rfl)) (pgs_cons (pg_name (i := 9) nd rfl (Or.inl rfl)) pgs_nil))) (fun _ _ _ _ _ => pts_nil)
              (fun _ _ _ _ _ => pe_op op_sub (pe_op op_mulW (pv 5) (pv 9)) (pe_ix ix_list (pv 8) (pv 10) (fun _ _ => rfl)))) pa_nil)))))))))) 
      (pss_one (ps_ret (pe_c cP (hr.mono (by decide)) (pa_cons (pv 2) pa_nil)))))), ?_⟩
    have one : 1 ≤ sizeLine := by show 1 ≤ sizeLine; decide
    have two : 2 ≤ sizeLine := by show 2 ≤ sizeLine; decide
    obtain ⟨ld, hld, hld2⟩ := atI_end y0
    have ld0 := hy.1 ld hld
    have lb : 0 < ys.length := List.length_pos_iff.mpr y0
    have y20 := hy.b20
    have ldb : ld.natAbs < 2 ^ 20 := y20 ld (List.mem_of_getElem? hld)
    refine ⟨_, rfl, _, rfl, _, rfl, b, _, _, _, rfl, rfl, hb.sq, hld2, ?_⟩
    refine ⟨Wh H a b ld xs ys, ⟨xs.length, a, xs, none, none, none, none, none, rfl, Evl.Ex.refl _, ha, hx.1, rfl, hx.2.1, more hx.b20 (by have := hx.2.1; omega), Rs.self _ _⟩, ?_⟩
    rintro m σ H1 ⟨l, L, v4, v5, v6, v7, v8, rfl, e1, hL, hp, hm, hm8, hbd, hR⟩
    subst hm
    refine ⟨_, rfl, l, _, rfl, .inl hL.sq, _, rfl, b, _, rfl, .inl (SqL.of (e1 _ _ hb)), _, _, rfl, rfl, _, rfl, ?_⟩
    by_cases c : ys.length ≤ L.length
    · refine if_t (decide_eq_true (by rw [iV_len, iV_len]; omega)) ?_
      have L0 : L ≠ [] := fun z => by
        rw [z, List.length_nil] at c
        omega
      obtain ⟨tp, htp, htp2⟩ := atI_end L0
      obtain ⟨f, hf, f0, fb, g0, gb, tb, ge⟩ := grow_take (t := tp) (d := ld) ld0
      subst hf
      refine ⟨fun σ H' => ∃ m', m' < L.length ∧ Wh H a b ld xs ys m' σ H', fun σ H' z => z, ?_⟩
      refine ⟨_, rfl, _, rfl, l, _, _, _, rfl, rfl, hL.sq, htp2, _, rfl, tp, ld, rfl, ?_⟩
      generalize hfe : ((Nat.gcd tp.natAbs ld.natAbs : Nat) : Int) = f at *
      refine ⟨_, rfl, ld, rfl, _, rfl, _, _, rfl, rfl, wide_div (b := 20) f0 (by omega) (by decide) (by decide), ?_⟩
      refine ⟨_, rfl, _, rfl, l, _, _, _, rfl, rfl, hL.sq, htp2, _, rfl, _, _, rfl, rfl, wide_div (b := 20) f0 (by omega) (by decide) (by decide), two, fun t ht => ?_⟩
      refine ⟨t, _, rfl, SqT.of upd_same, rfl, _, _, rfl, _, _, rfl, rfl, ?_⟩
      have et := Evl.Ex.new (o := .tup [.int ((if ld < 0 then -ld else ld) / f), .int (tp / f)]) ht
      obtain ⟨g, hg⟩ : ∃ g, (if ld < 0 then -ld else ld) / f = g := ⟨_, rfl⟩
      rw [hg] at g0 gb ge
      generalize htk : (if ld < 0 then -(tp / f) else tp / f) = tk at ge
      refine ⟨fun σ H' => ∃ v7 v8, σ = [some (.ref a), some (.ref b), some (.ref l), some (.int ld), some (.int f), some (.int g), some (.int tk), v7, v8, none, none] ∧ Evl.Ex H1 H', ?_, ?_⟩
      · refine ⟨_, rfl, _, _, rfl, rfl, _, rfl, ?_⟩
        refine ite2 (fun z => ?_) (fun z => ?_)
        · have z1 : ld < 0 := of_decide_eq_true z
          rw [if_pos z1] at htk
          refine ⟨_, rfl, _, rfl, v7, v8, ?_, et⟩
          rw [← htk, ← hg]
          rfl
        · have z1 : ¬ ld < 0 := fun y => z (decide_eq_true y)
          rw [if_neg z1] at htk
          refine ⟨v7, v8, ?_, et⟩
          rw [← htk, ← hg]
          rfl
      have tkb : tk.natAbs < 2 ^ (21 * (9 - L.length)) := by
        have h1 := hbd tp (List.mem_of_getElem? htp)
        have h2 : tk.natAbs = (tp / f).natAbs := by rw [← htk]; split <;> omega
        omega
      clear et ht
      rintro σ H2 ⟨w7, w8, rfl, e2⟩
      have hL2 : Li H2 l L := e2 _ _ hL
      have hb2 : Li H2 b ys := (e1.trans e2) _ _ hb
      refine ⟨_, rfl, l, _, rfl, .inl hL2.sq, _, rfl, b, _, rfl, .inl hb2.sq, _, _, rfl, rfl, ?_⟩
      refine ⟨one, fun p1 hp1 => ⟨_, rfl, p1, _, _, rfl, rfl, upd_same, by rw [iV_len, iV_len]; omega, by rw [iV_len, iV_len]; omega, ?_, fun p2 hp2 => ?_⟩⟩
      · rw [iV_len, iV_len]
        show 1 * _ ≤ sizeLine
        exact Nat.le_trans (show 1 * ((L.length : Int) - (ys.length : Int)).toNat ≤ 100 by omega) (by decide)
      rw [iV_len, iV_len, rep_flat, ← iV_rep, show ((L.length : Int) - (ys.length : Int)).toNat = L.length - ys.length by omega]
      have e3 : Evl.Ex H2 (upd H2 p1 (.lst [.int 0])) := Evl.Ex.new hp1
      have e4 := e3.trans (Evl.Ex.new (o := .lst (iV (List.replicate (L.length - ys.length) 0))) hp2)
      generalize hH3 : upd (upd H2 p1 (.lst [.int 0])) p2 (.lst (iV (List.replicate (L.length - ys.length) 0))) = H3 at *
      have hp23 : H3 p2 = some (.lst (iV (List.replicate (L.length - ys.length) 0))) := by rw [← hH3]; exact upd_same
      refine ⟨_, rfl, b, rfl, ⟨_, SqL.of (e4 _ _ hb2)⟩, fun D hD => lc_list (xs := iV ys) (fun i H' => Evl.Ex H3 H' ∧ H' D = some (.lst (iV ((ys.map fun x => tk * x).take i)))) ⟨Evl.Ex.new hD, upd_same⟩ (fun i H' _ q => SqL.of (q.1 _ _ (e4 _ _ hb2))) ?_ ?_⟩
      · rintro i x H' hi ⟨e5, h5⟩
        obtain ⟨n, hn, rfl⟩ := iV_get hi
        refine ⟨rfl, ?_⟩
        show tOp (rI CMulW fun i j => .int (i * j)) (tVar 6) (tVar 9) _ _ _
        refine ⟨_, rfl, _, rfl, _, _, rfl, rfl, wide_mul tkb (y20 n (List.mem_of_getElem? hn)) (by omega) (by decide) (by omega), _, h5, ?_, Evl.Ex.mut e5 hD, ?_⟩
        · rw [iV_len, List.length_take, List.length_map]
          exact Nat.lt_of_le_of_lt (show min i ys.length ≤ 8 by omega) (by decide)
        · rw [upd_same, tkn_next hn]
      rintro H4 ⟨e5, h5⟩
      rw [iV_len, List.take_of_length_le (by rw [List.length_map]; exact Nat.le_refl _)] at h5
      refine ⟨p2, D, _, _, rfl, rfl, e5 _ _ hp23, h5, ?_, fun p3 hp3 => ?_⟩
      · rw [iV_len, iV_len, List.length_replicate, List.length_map]
        exact Nat.le_trans (show L.length - ys.length + ys.length ≤ 100 by omega) (by decide)
      rw [iV_app]
      have htkn : List.replicate (L.length - ys.length) 0 ++ ys.map (fun x => tk * x) = tkn ys (L.length - ys.length) tk := rfl
      rw [htkn]
      have e6 : Evl.Ex H4 (upd H4 p3 (.lst (iV (tkn ys (L.length - ys.length) tk)))) := Evl.Ex.new hp3
      have hp34 : Li (upd H4 p3 (.lst (iV (tkn ys (L.length - ys.length) tk)))) p3 (tkn ys (L.length - ys.length) tk) := upd_same
      generalize upd H4 p3 (.lst (iV (tkn ys (L.length - ys.length) tk))) = H5 at e6 hp34
      have e25 : Evl.Ex H2 H5 := (e4.trans e5).trans e6
      have hL5 : Li H5 l L := e25 _ _ hL2
      have gb20 : g.natAbs < 2 ^ 20 := by omega
      have hc := rs_step y0 hR c g0 (t := tk) (by rw [getD_at htp, getD_at hld]; exact ge)
      have hbd2 := step_bd (ys := ys) hbd gb20 tkb y20
      refine ⟨_, rfl, l, _, rfl, hL5.sq, fun D2 hD2 => lc_it walk_enum (fun i H' => Evl.Ex H5 H' ∧ H' D2 = some (.lst (iV ((stepL ys L g tk).take i)))) ⟨Evl.Ex.new hD2, upd_same⟩ (fun i H' _ q => SqL.of (q.1 _ _ hL5)) ?_ ?_⟩
      · rintro i x H' H6 hi ⟨e7, h7⟩ ⟨t3, z, y, rfl, ht3, rfl, hz, hyy⟩
        obtain rfl := (Option.some.inj hz).symm
        obtain ⟨n, hn, rfl⟩ := iV_get hyy
        rw [iV_len] at hi
        have e8 := e7.trans (Evl.Ex.new (o := .tup [.int (i : Nat), .int n]) ht3)
        refine ⟨t3, _, rfl, SqT.of upd_same, rfl, _, _, rfl, _, _, rfl, rfl, rfl, ?_⟩
        show tOp (rI0 fun i j => .int (i - j)) (tOp (rI CMulW fun i j => .int (i * j)) (tVar 5) (tVar 9)) (tOp (rIxL K) (tVar 8) (tVar 10)) _ _ _
        have tl : i < (tkn ys (L.length - ys.length) tk).length := by rw [tkn_len]; omega
        refine ⟨_, rfl, _, rfl, _, _, rfl, rfl, wide_mul gb20 (hbd n (List.mem_of_getElem? hn)) (by decide) (by omega) (by omega), _, rfl, _, rfl, p3, _, _, _, rfl, rfl, SqL.of (e8 _ _ hp34), atI_nat (iV_at (List.getElem?_eq_getElem tl)), _, _, rfl, rfl, ?_⟩
        have h8 : (upd H' t3 (.tup [.int (i : Nat), .int n])) D2 = some (.lst (iV ((stepL ys L g tk).take i))) := by
          rw [upd_ne (ne_of_none h7 ht3)]
          exact h7
        refine ⟨_, h8, ?_, Evl.Ex.mut e8 hD2, ?_⟩
        · rw [iV_len, List.length_take]
          exact Nat.lt_of_le_of_lt (show min i (stepL ys L g tk).length ≤ 8 by omega) (by decide)
        · rw [upd_same]
          unfold stepL
          rw [vec_take hi, getD_at hn, getD_at (List.getElem?_eq_getElem tl)]
      · rintro H' ⟨e7, h7⟩
        rw [iV_len, show (stepL ys L g tk).take L.length = stepL ys L g tk from List.take_of_length_le (by unfold stepL; rw [vec_len]; exact Nat.le_refl _)] at h7
        refine ⟨D2, _, rfl, SqL.of h7, by unfold stepL; rw [vec_len]; omega, fun q H7 hq e9 h9 => ?_⟩
        have el : (trm (stepL ys L g tk)).length ≤ 8 := by omega
        exact ⟨_, hc.2, q, trm (stepL ys L g tk), _, _, _, _, _, rfl, (((e1.trans e2).trans e25).trans e7).trans e9, h9, pol_trm _, rfl, el, more hbd2 (by omega), hc.1⟩
    · refine if_f (decide_eq_false (by rw [iV_len, iV_len]; omega)) ?_
      refine ⟨_, rfl, l, L, rfl, hL, by omega, more hbd (by omega), hp, fun q H2 hq e2 h2 => ?_⟩
      exact k L ⟨hp, by omega, hR⟩ (more hbd (by omega)) q H2 (Evl.fresh_back e1 hq) (e1.trans e2) h2
end
end V2


namespace V2
open PySem L2
open PySem.Spec PyProof.Rows
def spNz : Sp := fun vs H Q _ => ∃ (a : Addr) (ns : List Int), vs = [.ref a] ∧ Li H a ns ∧ ns ≠ [] ∧ Evl.RetV .non H Q
def spRatio1 : Sp := fun vs H Q _ => ∃ y : Int, vs = [.int 1, .int y] ∧ y ≠ 0 ∧ y.natAbs < 2 ^ 29 ∧ RetU [.int (if y < 0 then -1 else 1), .int (if y < 0 then -y else y)] H Q
theorem cont_less {B : Nat} : ∀ ns : List Int, (∀ x ∈ ns, x.natAbs < 2 ^ B) → cont ns < 2 ^ B
  | [], _ => Nat.pow_pos (by decide)
  | x :: r, h => by
    show Nat.gcd x.natAbs (cont r) < 2 ^ B
    have h1 := h x List.mem_cons_self
    rcases Nat.eq_zero_or_pos x.natAbs with z | z
    · rw [z, Nat.gcd_zero_left]
      exact cont_less r fun y hy => h y (List.mem_cons_of_mem _ hy)
    · exact Nat.lt_of_le_of_lt (Nat.gcd_le_left _ z) h1
theorem two_li {H : Hp} {a b l : Addr} {xs ys : List Int} (ha : Li H a xs) (hb : Li H b ys) (hx : Pn xs) (hy : Pn ys) (e : Evl.Ex H (upd H l (.lst [.ref a, .ref b]))) : ∀ c ∈ [a, b], ∃ ns, Li (upd H l (.lst [.ref a, .ref b])) c ns ∧ Pn ns := by
  intro c hc
  rcases (List.mem_cons.mp hc) with rfl | hc
  · exact ⟨xs, e _ _ ha, hx⟩
  · obtain rfl := List.mem_singleton.mp hc
    exact ⟨ys, e _ _ hb, hy⟩
section
variable {base : Heap} {mg : Str → Option Value} {K : PySem.W.Frag} {w : World} {P : Program}
theorem ok_check_not_zero {f : Addr} {fd : FuncData} (F : Fun K "check_not_zero" "check_not_zero" s_check_not_zero f fd) : FnOk P w K mg base CX0 1 f fd p_check_not_zero spNz := by
  refine F.ok sc_check_not_zero (fun vs H Q E h => ?_) (fun cdv A outer s H vs Q E hr h => ?_)
  · obtain ⟨a, ns, rfl, _⟩ := h
    rfl
  · obtain ⟨a, ns, rfl, hL, h0, k⟩ := h
    refine ⟨_, pss_one (ps_if (pt_not (pt_truth (pv 0) (by intro _; rfl))) (pss_one ps_never) pss_nil), ?_⟩
    refine ⟨_, rfl, _, tru_list hL, ?_⟩
    refine if_f (by cases ns with | nil => exact absurd rfl h0 | cons _ _ => rfl) ?_
    exact k _ (Evl.Ex.refl _)
theorem ok_rest {f : Addr} {fd : FuncData} (F : Fun K "rest" "rest" s_rest f fd) (cC : Cal P w K mg base 3 "check_polynomials" p_check_polynomials spChk) (cN : Cal P w K mg base 1 "check_not_zero" p_check_not_zero spNz) (cR : Cal P w K mg base 3 "remainder" p_remainder spRem) : FnOk P w K mg base CX0 4 f fd p_rest spRem := by
  refine F.ok sc_rest (fun vs H Q E h => ?_) (fun cdv A outer s H vs Q E hr h => ?_)
  · obtain ⟨a, b, xs, ys, rfl, _⟩ := h
    rfl
  · obtain ⟨a, b, xs, ys, rfl, ha, hb, hx, hy, y0, k⟩ := h
    refine ⟨_, pss_cons (ps_expr (pe_c cC hr (pa_cons (pe_lst (pa_cons (pv 0) (pa_cons (pv 1) pa_nil))) pa_nil))) (pss_cons (ps_expr (pe_c cN (hr.mono (by decide)) (pa_cons (pv 1) pa_nil))) (pss_one (ps_ret (pe_c cR hr (pa_cons (pv 0) (pa_cons (pv 1) pa_nil)))))), ?_⟩
    refine ⟨_, rfl, _, rfl, (by show 2 ≤ sizeLine; decide), fun l hl => ?_⟩
    have e1 := Evl.Ex.new (o := .lst [.ref a, .ref b]) hl
    refine ⟨l, [a, b], rfl, upd_same, by simp, two_li ha hb hx.pn hy.pn e1, fun H2 e2 => ?_⟩
    have e12 := e1.trans e2
    refine ⟨_, rfl, b, ys, rfl, e12 _ _ hb, y0, fun H3 e3 => ?_⟩
    have e13 := e12.trans e3
    exact ⟨_, rfl, _, rfl, a, b, xs, ys, rfl, e13 _ _ ha, e13 _ _ hb, hx, hy, y0, fun L hL bL p H4 hp e4 h4 => k L hL bL p H4 (Evl.fresh_back e13 hp) (e13.trans e4) h4⟩
theorem ok_ratio1 {f : Addr} {fd : FuncData} (F : Fun K "_law_pv_ratio" "_law_pv_ratio" s_l_ratio f fd) (T : T0 mg) (cS : Cal P w K mg base 1 "_law_pv_shared" p_l_shared spShared) : FnOk P w K mg base CX0 2 f fd p_l_ratio spRatio1 := by
  refine F.ok sc_l_ratio (fun vs H Q E h => ?_) (fun cdv A outer s H vs Q E hr h => ?_)
  · obtain ⟨y, rfl, _⟩ := h
    rfl
  · obtain ⟨y, rfl, y0, yb, k⟩ := h
    have nd := sc_l_ratio.nd
    refine ⟨_, pss_cons (ps_set (i := 2) nd rfl (Or.inl rfl) (pe_op op_mul (pe_c cS hr (pa_cons (pv 0) (pa_cons (pv 1) pa_nil))) (pe_op op_sub pe_int (pe_op op_mul pe_int (pe_callTy call_int1 (by rfl) T.int (by decide +kernel) (pa_cons (pe_cmpR op_lt (pv 1) pe_int (nomark _)) pa_nil))))))
      (pss_one (ps_ret (pe_tup (pa_cons (pe_op op_fdivN (pv 0) (pv 2)) (pa_cons (pe_op op_fdivN (pv 1) (pv 2)) pa_nil))))), ?_⟩
    refine ⟨_, rfl, _, rfl, 1, y, rfl, by decide, big yb (by decide), fun H2 e2 => ?_⟩
    have gc : (Int.gcd 1 y : Int) = 1 := by rw [Int.one_gcd]; rfl
    rw [gc]
    by_cases c : y < 0
    · have c1 : decide (y < 0) = true := decide_eq_true c
      refine ⟨_, rfl, _, _, rfl, rfl, .inr ⟨_, rfl, 2, _, rfl, rfl, .inl ⟨by decide, by decide⟩, 1, _, rfl, rfl, _, _, rfl, rfl, .inl ⟨by decide, by decide⟩, ?_⟩⟩
      rw [c1]
      refine ⟨_, rfl, _, rfl, _, _, rfl, rfl, ⟨by decide, by decide⟩, _, rfl, _, rfl, _, _, rfl, rfl, ⟨by decide, by decide⟩, (by show 2 ≤ sizeLine; decide), fun p hp => ?_⟩
      refine k p _ (Evl.fresh_back e2 hp) (e2.trans (Evl.Ex.new hp)) ?_
      rw [upd_same, if_pos c, if_pos c]
      have : Int.fdiv y (1 * (1 - 2 * (if true = true then (1 : Int) else 0))) = -y := by
        show Int.fdiv y (-1) = -y
        rw [Int.fdiv_neg (by omega), if_pos (Int.one_dvd y)]
        simp
      show some (HO.tup [V.int (Int.fdiv 1 (1 * (1 - 2 * (if true = true then (1 : Int) else 0)))), V.int (Int.fdiv y (1 * (1 - 2 * (if true = true then (1 : Int) else 0))))]) = _
      rw [this]
      rfl
    · have c1 : decide (y < 0) = false := decide_eq_false c
      refine ⟨_, rfl, _, _, rfl, rfl, .inr ⟨_, rfl, 2, _, rfl, rfl, .inl ⟨by decide, by decide⟩, 1, _, rfl, rfl, _, _, rfl, rfl, .inl ⟨by decide, by decide⟩, ?_⟩⟩
      rw [c1]
      refine ⟨_, rfl, _, rfl, _, _, rfl, rfl, ⟨by decide, by decide⟩, _, rfl, _, rfl, _, _, rfl, rfl, ⟨by decide, by decide⟩, (by show 2 ≤ sizeLine; decide), fun p hp => ?_⟩
      refine k p _ (Evl.fresh_back e2 hp) (e2.trans (Evl.Ex.new hp)) ?_
      rw [upd_same, if_neg c, if_neg c]
      have : Int.fdiv y (1 * (1 - 2 * (if false = true then (1 : Int) else 0))) = y := by
        show Int.fdiv y 1 = y
        rw [Int.fdiv_one]
      show some (HO.tup [V.int (Int.fdiv 1 (1 * (1 - 2 * (if false = true then (1 : Int) else 0)))), V.int (Int.fdiv y (1 * (1 - 2 * (if false = true then (1 : Int) else 0))))]) = _
      rw [this]
      rfl
theorem ok_thin {f : Addr} {fd : FuncData} (F : Fun K "_law_pv_thin" "_law_pv_thin" s_l_thin f fd) (cS : Cal P w K mg base 1 "_law_pv_shared" p_l_shared spShared) : FnOk P w K mg base CX0 2 f fd p_l_thin spPrim := by
  refine F.ok sc_l_thin (fun vs H Q E h => ?_) (fun cdv A outer s H vs Q E hr h => ?_)
  · obtain ⟨a, ns, rfl, _⟩ := h
    rfl
  · obtain ⟨a, ns, rfl, hL, hl, hb, hp, k⟩ := h
    have nd := sc_l_thin.nd
    refine ⟨_, pss_cons (ps_set (i := 1) nd rfl (Or.inr rfl) pe_int)
      (pss_cons (ps_for PassesOwn.never rfl (pi_list (pv 0)) (pg_name (i := 2) nd rfl (Or.inl rfl))
        (pss_one (ps_set (i := 1) nd rfl (Or.inr rfl) (pe_c cS hr (pa_cons (pv 1) (pa_cons (pv 2) pa_nil))))))
      (pss_one (ps_ret (pe_lc (own := [("piece", 2)]) (g := gName 2) (tt := tYes) (te := tOp (rI CDivW fun i j => .int (i / j)) (tVar 2) (tVar 1)) rfl nd (pi_list (pv 0)) (blkOk_by (N := n_l_thin) (sc := defScope s_l_thin) (by decide +kernel)) (fun _ _ _ _ _ => pg_name (i := 2) nd rfl (Or.inl rfl)) (fun _ _ _ _ _ => pts_nil)
          (fun _ _ _ _ _ => pe_op op_fdivW (pv 2) (pv 1)))))), ?_⟩
    have cl := cont_lt hp hb
    refine ⟨_, rfl, a, rfl, ⟨_, SqL.of hL⟩, for_list (xs := iV ns) (fun i σ H' => Evl.Ex H H' ∧ ∃ v, σ = [some (.ref a), some (.int (((ns.take i).foldl (fun g x => Nat.gcd g x.natAbs) 0 : Nat) : Int)), v]) ⟨Evl.Ex.refl _, none, rfl⟩ (fun i σ H' _ q => SqL.of (q.1 _ _ hL)) ?_ ?_⟩
    · rintro i x σ H' hi ⟨e1, v, rfl⟩
      obtain ⟨n, hn, rfl⟩ := iV_get hi
      have hfb : ((ns.take i).foldl (fun g x => Nat.gcd g x.natAbs) 0) < 2 ^ 9000 := by
        rw [cont_fold, Nat.gcd_zero_left]
        exact cont_less _ fun x hx => hb x (List.mem_of_mem_take hx)
      refine ⟨_, rfl, _, rfl, _, _, rfl, by rw [Int.natAbs_natCast]; exact hfb, hb n (List.mem_of_getElem? hn), fun H2 e2 => ⟨e1.trans e2, some (.int n), ?_⟩⟩
      rw [List.take_add_one, hn, List.foldl_append]
      rfl
    · rintro σ H1 ⟨e1, v, rfl⟩
      rw [iV_len, List.take_length, cont_fold, Nat.gcd_zero_left]
      have hL1 : Li H1 a ns := e1 _ _ hL
      refine ⟨_, rfl, a, rfl, ⟨_, SqL.of hL1⟩, fun D hD => lc_list (xs := iV ns) (fun i H' => Evl.Ex H1 H' ∧ H' D = some (.lst (iV ((prim ns).take i)))) ⟨Evl.Ex.new hD, upd_same⟩ (fun i H' _ q => SqL.of (q.1 _ _ hL1)) ?_ ?_⟩
      · rintro i x H' hi ⟨e2, h2⟩
        obtain ⟨n, hn, rfl⟩ := iV_get hi
        have h0 : ns ≠ [] := fun z => by rw [z] at hn; cases hn
        have cp := cont_pos hp h0
        refine ⟨rfl, ?_⟩
        show tOp (rI CDivW fun i j => .int (i / j)) (tVar 2) (tVar 1) _ _ _
        refine ⟨_, rfl, _, rfl, _, _, rfl, rfl, wide_div (b := 9000) (by omega) (by rw [Int.natAbs_natCast]; exact cl) (by decide) (by decide), _, h2, ?_, Evl.Ex.mut e2 hD, ?_⟩
        · rw [iV_len, List.length_take]
          exact Nat.lt_of_le_of_lt (show _ ≤ 100 by rw [prim_len]; omega) (by decide)
        · rw [upd_same, take_next (prim_at hn)]
      · rintro H' ⟨e2, h2⟩
        rw [iV_len, ← prim_len, List.take_length] at h2
        exact k D H' (Evl.fresh_back e1 hD) (e1.trans e2) h2
end
end V2


namespace V2
open PySem L2
open PySem.Spec PyProof.Rows
/-! ## lists of fractions with one denominator -/
theorem fr_mm {x g c e : Int} (hg : 0 < g) (he : 0 < e) : fr ((fr x g).1 * c) ((fr x g).2 * e) = fr (x * c) (g * e) := by
  have h := fr_val (a := x) hg
  refine fr_eq (Int.mul_pos (fr_pos hg) he) (Int.mul_pos hg he) ?_
  generalize (fr x g).1 = n at *
  generalize (fr x g).2 = d at *
  calc n * c * (g * e) = (n * g) * (c * e) := by simp only [Int.mul_assoc, Int.mul_comm, Int.mul_left_comm]
    _ = (x * d) * (c * e) := by rw [h]
    _ = x * c * (d * e) := by simp only [Int.mul_assoc, Int.mul_comm, Int.mul_left_comm]
theorem fr_zero {d : Int} (h : 0 < d) : fr 0 d = (0, 1) := by
  have e : fr 0 d = fr 0 1 := fr_eq h (by decide) (by rw [Int.zero_mul, Int.zero_mul])
  rw [e]
  exact fr_same (by decide) (by decide)
theorem fr_one (x : Int) : fr x 1 = (x, 1) := fr_same (by decide) (by simp)
theorem fr_aa {x t g e : Int} (hg : 0 < g) (he : 0 < e) : fr ((fr x g).1 * (fr t (g * e)).2 + (fr t (g * e)).1 * (fr x g).2) ((fr x g).2 * (fr t (g * e)).2) = fr (x * e + t) (g * e) := by
  have hge := Int.mul_pos hg he
  have h1 := fr_val (a := x) hg
  have h2 := fr_val (a := t) hge
  refine fr_eq (Int.mul_pos (fr_pos hg) (fr_pos hge)) hge ?_
  generalize (fr x g).1 = n at *
  generalize (fr x g).2 = d at *
  generalize (fr t (g * e)).1 = m at *
  generalize (fr t (g * e)).2 = c at *
  calc (n * c + m * d) * (g * e) = (n * g) * (c * e) + (m * (g * e)) * d := by
        rw [Int.add_mul]; simp only [Int.mul_assoc, Int.mul_comm, Int.mul_left_comm]
    _ = (x * d) * (c * e) + (t * c) * d := by rw [h1, h2]
    _ = (x * e + t) * (d * c) := by rw [Int.add_mul]; simp only [Int.mul_assoc, Int.mul_comm, Int.mul_left_comm]
theorem prim_prop {L M : List Int} {c g : Int} (l1 : Pol L) (m1 : Pol M) (c0 : 0 < c) (g0 : 0 < g) (he : ∀ i, g * M.getD i 0 = c * L.getD i 0) : prim L = prim M := by
  have hlen : L.length = M.length := Nat.le_antisymm (pol_len l1 m1 c0 g0 fun i => (he i).symm) (pol_len m1 l1 g0 c0 he)
  refine prim_eq (a := c.toNat) (b := g.toNat) (by omega) (by omega) ?_
  refine List.ext_getElem (by rw [List.length_map, List.length_map, hlen]) fun i h1 h2 => ?_
  rw [List.length_map] at h1 h2
  rw [List.getElem_map, List.getElem_map]
  have t := he i
  rw [getD_at (List.getElem?_eq_getElem h1), getD_at (List.getElem?_eq_getElem h2)] at t
  have ec : ((c.toNat : Nat) : Int) = c := Int.toNat_of_nonneg (by omega)
  have eg : ((g.toNat : Nat) : Int) = g := Int.toNat_of_nonneg (by omega)
  exact Eq.trans (congrArg (fun z => z * L[i]) ec) (Eq.trans t.symm (congrArg (fun z => z * M[i]) eg.symm))
theorem Rs.congr {P B L M : List Int} (h : Rs P B L) (e : ∀ i, M.getD i 0 = L.getD i 0) : Rs P B M := by
  obtain ⟨g, q, N, h1, h2, h3⟩ := h
  exact ⟨g, q, N, h1, h2, fun i => by rw [e]; exact h3 i⟩
def Fv (H : Hp) (f : Addr) (v : List Int) (g : Int) : Prop := ∃ as : List Addr, H f = some (.lst (as.map V.ref)) ∧ as.length = v.length ∧ ∀ (j : Nat) (a : Addr) (x : Int), as[j]? = some a → v[j]? = some x → Fr H a (fr x g).1 (fr x g).2
theorem Fv.ex {H H' : Hp} {f : Addr} {v : List Int} {g : Int} (h : Fv H f v g) (e : Evl.Ex H H') : Fv H' f v g := by
  obtain ⟨as, h1, h2, h3⟩ := h
  exact ⟨as, e _ _ h1, h2, fun j a x hj hx => e _ _ (h3 j a x hj hx)⟩
def Bd (H1 : Hp) (D : Addr) (v : List Int) (g : Int) (i : Nat) (H' : Hp) : Prop := Evl.Ex H1 H' ∧ ∃ as : List Addr, H' D = some (.lst (as.map V.ref)) ∧ as.length = i ∧ ∀ (j : Nat) (a : Addr) (x : Int), as[j]? = some a → v[j]? = some x → Fr H' a (fr x g).1 (fr x g).2
theorem Bd.zero {H1 : Hp} {D : Addr} {v : List Int} {g : Int} (hD : H1 D = none) : Bd H1 D v g 0 (upd H1 D (.lst [])) := ⟨Evl.Ex.new hD, [], upd_same, rfl, fun j a x h => by cases h⟩
theorem Bd.turn {H1 H' H2 : Hp} {D p : Addr} {v : List Int} {g x : Int} {i : Nat} (h : Bd H1 D v g i H') (hD : H1 D = none) (hi : i < 100) (hx : v[i]? = some x) (e : Evl.Ex H' H2) (hp : Fr H2 p (fr x g).1 (fr x g).2) :
    ∃ acc, H2 D = some (.lst acc) ∧ acc.length < sizeLine ∧ Bd H1 D v g (i + 1) (upd H2 D (.lst (acc ++ [.ref p]))) := by
  obtain ⟨e1, as, h1, h2, h3⟩ := h
  have hd2 := e _ _ h1
  have keep : ∀ a m n, Fr H2 a m n → Fr (upd H2 D (.lst (as.map V.ref ++ [.ref p]))) a m n := fun a m n ha => by
    have na : a ≠ D := by
      intro z
      have ha : H2 a = _ := ha
      rw [z, hd2] at ha
      cases ha
    show _ = _
    rw [upd_ne na]
    exact ha
  refine ⟨_, hd2, ?_, Evl.Ex.mut (e1.trans e) hD, as ++ [p], by rw [upd_same, List.map_append]; rfl, by rw [List.length_append, h2]; rfl, fun j a y hj hy => ?_⟩
  · rw [List.length_map, h2]
    exact Nat.lt_of_lt_of_le hi (by decide)
  · by_cases c : j < as.length
    · rw [List.getElem?_append_left c] at hj
      exact keep _ _ _ (e _ _ (h3 j a y hj hy))
    · have hj2 : j < as.length + 1 := by
        have := (List.getElem?_eq_some_iff.mp hj).1
        rwa [List.length_append] at this
      have ej : j = i := by omega
      subst ej
      rw [List.getElem?_append_right (by omega), h2, Nat.sub_self] at hj
      cases hj
      rw [hx] at hy
      cases hy
      exact keep _ _ _ hp
theorem Bd.fv {H1 H' : Hp} {D : Addr} {v : List Int} {g : Int} (h : Bd H1 D v g v.length H') : Fv H' D v g := ⟨h.2.choose, h.2.choose_spec⟩
theorem Fv.at_ {H : Hp} {f : Addr} {v : List Int} {g x : Int} {i : Nat} (h : Fv H f v g) (hx : v[i]? = some x) : ∃ (as : List Addr) (a : Addr), H f = some (.lst (as.map V.ref)) ∧ as.length = v.length ∧ (as.map V.ref)[i]? = some (.ref a) ∧ Fr H a (fr x g).1 (fr x g).2 := by
  obtain ⟨as, h1, h2, h3⟩ := h
  have hi : i < as.length := by rw [h2]; exact (List.getElem?_eq_some_iff.mp hx).1
  have e : as[i]? = some as[i] := List.getElem?_eq_getElem hi
  exact ⟨as, as[i], h1, h2, by rw [List.getElem?_map, e]; rfl, h3 i _ x e hx⟩
theorem ref_end {as : List Addr} {a : Addr} (h : (as.map V.ref)[as.length - 1]? = some (.ref a)) (h0 : 0 < as.length) : atI (as.map V.ref) (-1) = some (.ref a) := by
  have e := List.dropLast_concat_getLast (List.ne_nil_of_length_pos h0)
  have e2 : as.map V.ref = as.dropLast.map V.ref ++ [.ref (as.getLast (List.ne_nil_of_length_pos h0))] := by
    conv => lhs; rw [← e]
    rw [List.map_append]
    rfl
  have e3 : as[as.length - 1]? = some (as.getLast (List.ne_nil_of_length_pos h0)) := by
    rw [← List.getLast?_eq_getElem?, List.getLast?_eq_some_getLast (List.ne_nil_of_length_pos h0)]
  rw [List.getElem?_map, e3] at h
  have h : V.ref (as.getLast (List.ne_nil_of_length_pos h0)) = V.ref a := Option.some.inj h
  rw [e2, atI_last, h]
/-- the law's step -/
def stepF (B v : List Int) (e t : Int) : List Int := vec (v.length - 1) fun k => v.getD k 0 * e + (if v.length - B.length ≤ k then t * (0 - B.getD (k - (v.length - B.length)) 0) else 0)
theorem stepF_rs {P B v : List Int} (h0 : B ≠ []) (h : Rs P B v) (hl : B.length ≤ v.length) {e t : Int} (he : 0 < e) (ht : e * v.getD (v.length - 1) 0 = t * B.getD (B.length - 1) 0) : Rs P B (stepF B v e t) := by
  have lb : 0 < B.length := List.length_pos_iff.mpr h0
  refine (rs_step h0 h hl he ht).1.congr fun i => ?_
  rw [trm_getD]
  unfold stepF stepL
  rw [vec_getD, vec_getD, tkn_getD]
  by_cases h1 : i < v.length - 1
  · rw [if_pos h1, if_pos (c := i < v.length) (by omega), Int.mul_comm e]
    by_cases h2 : v.length - B.length ≤ i
    · rw [if_pos h2, if_pos h2, Int.zero_sub, Int.mul_neg]; omega
    · rw [if_neg h2, if_neg h2]; omega
  · rw [if_neg h1]
    by_cases h2 : i < v.length
    · have e1 : i = v.length - 1 := by omega
      subst e1
      rw [if_pos h2, if_pos (by omega), ht, show v.length - 1 - (v.length - B.length) = B.length - 1 by omega]
      omega
    · rw [if_neg h2]
/-- the least common multiple, turn by turn -/
theorem lcm_step {l d G : Nat} (hl : l ∣ G) (hd : d ∣ G) (hG : 0 < G) : ((l : Int) * (d : Int)) / ((Int.gcd (l : Int) (d : Int) : Nat) : Int) = ((Nat.lcm l d : Nat) : Int) ∧ Nat.lcm l d ∣ G ∧ l ∣ Nat.lcm l d ∧ d ∣ Nat.lcm l d ∧ 0 < Nat.lcm l d := by
  have h1 : Nat.lcm l d ∣ G := Nat.lcm_dvd hl hd
  refine ⟨?_, h1, Nat.dvd_lcm_left _ _, Nat.dvd_lcm_right _ _, Nat.pos_of_dvd_of_pos h1 hG⟩
  show ((l : Int) * (d : Int)) / ((Nat.gcd l d : Nat) : Int) = _
  rw [← Int.natCast_mul, ← Int.natCast_ediv]
  rfl
/-- all over the least common multiple -/
def overL (v : List Int) (g l : Int) : List Int := v.map fun x => (fr x g).1 * l / (fr x g).2
theorem over_at {x g l : Int} (hg : 0 < g) (hl : (fr x g).2 ∣ l) : g * ((fr x g).1 * l / (fr x g).2) = l * x := by
  obtain ⟨k, hk⟩ := hl
  have h := fr_val (a := x) hg
  have p := fr_pos (u := x) hg
  generalize (fr x g).1 = n at *
  generalize (fr x g).2 = d at *
  subst hk
  rw [show n * (d * k) = d * (n * k) by simp only [Int.mul_assoc, Int.mul_comm, Int.mul_left_comm], Int.mul_ediv_cancel_left _ (by omega)]
  calc g * (n * k) = (n * g) * k := by simp only [Int.mul_assoc, Int.mul_comm, Int.mul_left_comm]
    _ = (x * d) * k := by rw [h]
    _ = d * k * x := by simp only [Int.mul_assoc, Int.mul_comm, Int.mul_left_comm]
theorem over_getD {v : List Int} {g l : Int} (hg : 0 < g) (hl : ∀ x ∈ v, (fr x g).2 ∣ l) (i : Nat) : g * (overL v g l).getD i 0 = l * v.getD i 0 := by
  unfold overL
  rw [List.getD_eq_getElem?_getD, List.getElem?_map, List.getD_eq_getElem?_getD]
  cases e : v[i]? with
  | none => show g * 0 = l * 0; rw [Int.mul_zero, Int.mul_zero]
  | some x => exact over_at hg (hl x (List.mem_of_getElem? e))
theorem Fv.app {H : Hp} {t0 p : Addr} {u : List Int} {G : Int} {as : List Addr} {off : Nat} (hG : 0 < G) (h0 : Fr H t0 0 1) (hl : as.length = u.length) (h3 : ∀ (j : Nat) (a : Addr) (x : Int), as[j]? = some a → u[j]? = some x → Fr H a (fr x G).1 (fr x G).2)
    (hp : H p = some (.lst (List.replicate off (V.ref t0) ++ as.map V.ref))) : Fv H p (List.replicate off 0 ++ u) G := by
  refine ⟨List.replicate off t0 ++ as, by rw [hp, List.map_append, List.map_replicate], by rw [List.length_append, List.length_append, List.length_replicate, List.length_replicate, hl], fun j a x hj hx => ?_⟩
  by_cases c : j < off
  · rw [List.getElem?_append_left (by rw [List.length_replicate]; exact c), List.getElem?_replicate, if_pos c] at hj hx
    cases hj
    cases hx
    rw [fr_zero hG]
    exact h0
  · rw [List.getElem?_append_right (by rw [List.length_replicate]; omega), List.length_replicate] at hj hx
    exact h3 _ a x hj hx
theorem tkv_getD (B : List Int) (off : Nat) (t : Int) (k : Nat) (hk : k < off + B.length) : (List.replicate off 0 ++ B.map fun y => t * (0 - y))[k]? = some (if off ≤ k then t * (0 - B.getD (k - off) 0) else 0) := by
  by_cases h : off ≤ k
  · rw [if_pos h, List.getElem?_append_right (by rw [List.length_replicate]; exact h), List.length_replicate, List.getElem?_map, List.getElem?_eq_getElem (show k - off < B.length by omega), getD_at (List.getElem?_eq_getElem (show k - off < B.length by omega))]
    rfl
  · rw [if_neg h, List.getElem?_append_left (by rw [List.length_replicate]; omega), List.getElem?_replicate, if_pos (by omega)]
theorem stepF_bd {B v : List Int} {e t : Int} {N : Nat} (hv : ∀ x ∈ v, x.natAbs < 2 ^ N) (he : e.natAbs < 2 ^ 20) (ht : t.natAbs < 2 ^ N) (hB : ∀ x ∈ B, x.natAbs < 2 ^ 20) : ∀ x ∈ stepF B v e t, x.natAbs < 2 ^ (N + 21) := by
  intro x hx
  obtain ⟨i, _, rfl⟩ := vec_mem hx
  have h2 := wide_lt (getD_mem hv i) he
  have h1 : (if v.length - B.length ≤ i then t * (0 - B.getD (i - (v.length - B.length)) 0) else 0).natAbs < 2 ^ (N + 20) := by
    split
    · refine wide_lt ht ?_
      have := getD_mem hB (i - (v.length - B.length))
      omega
    · exact Nat.pow_pos (by decide)
  have e' : (2 : Nat) ^ (N + 21) = 2 ^ (N + 20) + 2 ^ (N + 20) := by
    rw [show N + 21 = N + 20 + 1 from rfl, Nat.pow_succ]; omega
  rw [e']
  omega
theorem fr_b1 {x g : Int} {N M : Nat} (hg : 0 < g) (h : x.natAbs < 2 ^ N) (hM : N ≤ M) : (fr x g).1.natAbs < 2 ^ M := Nat.lt_of_le_of_lt (fr_abs1 hg) (big h hM)
theorem fr_b2 {x g : Int} {N M : Nat} (hg : 0 < g) (h : g.natAbs < 2 ^ N) (hM : N ≤ M) : (fr x g).2.natAbs < 2 ^ M := Nat.lt_of_le_of_lt (fr_abs2 hg) (big h hM)
end V2


namespace V2
open PySem L2
open PySem.Spec PyProof.Rows
structure C3 (P : Program) (w : World) (K : PySem.W.Frag) (mg : Str → Option Value) (base : Heap) : Prop where
  len : mg "len" = none
  rng : mg "range" = none
  shared : Cal P w K mg base 1 "_law_pv_shared" p_l_shared spShared
  ratio1 : Cal P w K mg base 2 "_law_pv_ratio" p_l_ratio spRatio1
  add : Cal P w K mg base 3 "_law_pv_add" p_l_add spAdd
  mul : Cal P w K mg base 3 "_law_pv_mul" p_l_mul spMul
  trim : Cal P w K mg base 1 "_law_pv_trim" p_l_trim (spTrim K)
  thin : Cal P w K mg base 2 "_law_pv_thin" p_l_thin spPrim
/-- where the law's own rest stands -/
def St (H : Hp) (xs ys : List Int) (f : Addr) (v : List Int) (g : Int) (H' : Hp) : Prop := Evl.Ex H H' ∧ Fv H' f v g ∧ 0 < g ∧ g.natAbs < 2 ^ (21 * (9 - v.length)) ∧ (∀ x ∈ v, x.natAbs < 2 ^ (21 * (9 - v.length))) ∧ v.length ≤ 8 ∧ Rs xs ys v
section
variable {base : Heap} {mg : Str → Option Value} {K : PySem.W.Frag} {w : World} {P : Program}
theorem ok_left {f : Addr} {fd : FuncData} (F : Fun K "_law_pv_left" "_law_pv_left" s_l_left f fd) (c : C3 P w K mg base) : FnOk P w K mg base CX0 4 f fd p_l_left spRem := by
  refine F.ok sc_l_left (fun vs H Q E h => ?_) (fun cdv A outer s H vs Q E hr h => ?_)
  · obtain ⟨a, b, xs, ys, rfl, _⟩ := h
    rfl
  · obtain ⟨a, b, xs, ys, rfl, ha, hb, hx, hy, y0, k⟩ := h
    have nd := sc_l_left.nd
    have r1 : Room 1 _ := (hr.mono (by decide))
    have r2 : Room 2 _ := (hr.mono (by decide))
    refine ⟨_, pss_cons (ps_set (i := 3) nd rfl (Or.inr rfl) (pe_lc (own := [("piece", 2)]) (g := gName 2) (tt := tYes) (te := tTup (tCons (tVar 2) (tCons (tC (.int 1)) tNil))) rfl nd (pi_list (pv 0)) (blkOk_by (N := n_l_left) (sc := defScope s_l_left) (by decide +kernel)) (fun _ _ _ _ _ => pg_name (i := 2) nd rfl (Or.inl rfl)) (fun _ _ _ _ _ => pts_nil)
          (fun _ _ _ _ _ => pe_tup (pa_cons (pv 2) (pa_cons pe_int pa_nil)))))
      (Evl.pss_cut (ps_for PassesOwn.never rfl (pi_range1 (by rfl) c.rng (pa_cons (pe_callB call_len_seq (by rfl) c.len PySem.boot_len (pa_cons (pv 0) pa_nil)) pa_nil)) (pg_name (i := 4) nd rfl (Or.inl rfl))
        (pss_one (ps_if (pt_cmpR op_ge (pe_callB call_len_seq (by rfl) c.len PySem.boot_len (pa_cons (pv 3) pa_nil)) (pe_callB call_len_seq (by rfl) c.len PySem.boot_len (pa_cons (pv 1) pa_nil)) (nomark _))
          (pss_cons (ps_set (i := 5) nd rfl (Or.inr rfl) (pe_c c.mul hr (pa_cons (pe_ix ix_list (pv 3) (pe_un un_neg pe_int) (fun _ _ => rfl)) (pa_cons (pe_c c.ratio1 r2 (pa_cons pe_int (pa_cons (pe_ix ix_list (pv 1) (pe_un un_neg pe_int) (fun _ _ => rfl)) pa_nil))) pa_nil))))
          (pss_cons (ps_set (i := 6) nd rfl (Or.inr rfl) (pe_op op_rep (pe_lst (pa_cons (pe_tup (pa_cons pe_int (pa_cons pe_int pa_nil))) pa_nil)) (pe_op op_sub (pe_callB call_len_seq (by rfl) c.len PySem.boot_len (pa_cons (pv 3) pa_nil)) (pe_callB call_len_seq (by rfl) c.len PySem.boot_len (pa_cons (pv 1) pa_nil)))))
          (pss_cons (ps_set (i := 6) nd rfl (Or.inr rfl) (pe_op op_cat (pv 6) (pe_lc (own := [("piece", 2)]) (g := gName 2) (tt := tYes) (te := tCall spMul [] E0 (tCons (tVar 5) (tCons (tTup (tCons (tOp (rI0 fun i j => .int (i - j)) (tC (.int 0)) (tVar 2)) (tCons (tC (.int 1)) tNil))) tNil))) rfl nd (pi_list (pv 1)) (blkOk_by (N := n_l_left) (sc := defScope s_l_left) (by decide +kernel)) (fun _ _ _ _ _ => pg_name (i := 2) nd rfl (Or.inl rfl)) (fun _ _ _ _ _ => pts_nil)
            (fun _ _ _ _ _ => pe_c c.mul hr (pa_cons (pv 5) (pa_cons (pe_tup (pa_cons (pe_op op_sub pe_int (pv 2)) (pa_cons pe_int pa_nil))) pa_nil))))))
          (pss_one (ps_set (i := 3) nd rfl (Or.inr rfl) (pe_lc (own := [("k", 8)]) (g := gName 8) (tt := tYes) (te := tCall spAdd [] E0 (tCons (tOp (rIxL K) (tVar 3) (tVar 8)) (tCons (tOp (rIxL K) (tVar 6) (tVar 8)) tNil))) rfl nd (pi_range1 (by rfl) c.rng (pa_cons (pe_op op_sub (pe_callB call_len_seq (by rfl) c.len PySem.boot_len (pa_cons (pv 3) pa_nil)) pe_int) pa_nil)) (blkOk_by (N := n_l_left) (sc := defScope s_l_left) (by decide +kernel)) (fun _ _ _ _ _ => pg_name (i := 8) nd rfl (Or.inl rfl)) (fun _ _ _ _ _ => pts_nil)
            (fun _ _ _ _ _ => pe_c c.add hr (pa_cons (pe_ix ix_list (pv 3) (pv 8) (fun _ _ => rfl)) (pa_cons (pe_ix ix_list (pv 6) (pv 8) (fun _ _ => rfl)) pa_nil)))))))))
          pss_nil)))
      (pss_cons (ps_set (i := 7) nd rfl (Or.inr rfl) pe_int)
      (pss_cons (ps_for PassesOwn.never rfl (pi_list (pv 3)) (pg_name (i := 2) nd rfl (Or.inl rfl))
        (pss_one (ps_set (i := 7) nd rfl (Or.inr rfl) (pe_op op_fdivW (pe_op op_mulW (pv 7) (pe_ix ix_tup (pv 2) pe_int (fun _ _ => rfl))) (pe_c c.shared r1 (pa_cons (pv 7) (pa_cons (pe_ix ix_tup (pv 2) pe_int (fun _ _ => rfl)) pa_nil)))))))
      (pss_one (ps_ret (pe_c c.thin r2 (pa_cons (pe_c c.trim r1 (pa_cons (pe_lc (own := [("piece", 2)]) (g := gName 2) (tt := tYes) (te := tOp (rI CDivW fun i j => .int (i / j)) (tOp (rI CMulW fun i j => .int (i * j)) (tOp (rIxT K) (tVar 2) (tC (.int 0))) (tVar 7)) (tOp (rIxT K) (tVar 2) (tC (.int 1)))) rfl nd (pi_list (pv 3)) (blkOk_by (N := n_l_left) (sc := defScope s_l_left) (by decide +kernel)) (fun _ _ _ _ _ => pg_name (i := 2) nd rfl (Or.inl rfl)) (fun _ _ _ _ _ => pts_nil)
            (fun _ _ _ _ _ => pe_op op_fdivW (pe_op op_mulW (pe_ix ix_tup (pv 2) pe_int (fun _ _ => rfl)) (pv 7)) (pe_ix ix_tup (pv 2) pe_int (fun _ _ => rfl)))) pa_nil)) pa_nil))))))), ?_⟩
    have one : 1 ≤ sizeLine := by show 1 ≤ sizeLine; decide
    have two : 2 ≤ sizeLine := by show 2 ≤ sizeLine; decide
    obtain ⟨ld, hld, hld2⟩ := atI_end y0
    have ld0 := hy.1 ld hld
    have lb : 0 < ys.length := List.length_pos_iff.mpr y0
    have y20 := hy.b20
    have ldb : ld.natAbs < 2 ^ 20 := y20 ld (List.mem_of_getElem? hld)
    refine ⟨_, rfl, a, rfl, ⟨_, ha.sq⟩, fun D hD => lc_list (xs := iV xs) (Bd H D xs 1) (Bd.zero hD) (fun i H' _ q => SqL.of (q.1 _ _ ha)) ?_ ?_⟩
    · rintro i x H' hi B
      obtain ⟨n, hn, rfl⟩ := iV_get hi
      have hl : i < xs.length := (List.getElem?_eq_some_iff.mp hn).1
      refine ⟨rfl, ?_⟩
      refine if_t (c := true) (B := Bd H D xs 1 (i + 1) H') rfl ?_
      refine ⟨_, rfl, two, fun p hp => ?_⟩
      exact B.turn hD (by have := hx.2.1; omega) hn (Evl.Ex.new hp) (by rw [fr_one]; exact upd_same)
    rintro H1 B1
    rw [iV_len] at B1
    have S1 : St H xs ys D xs 1 H1 := ⟨B1.1, B1.fv, by decide, big (n := 1) (by decide) (by have := hx.2.1; omega), more hx.b20 (by have := hx.2.1; omega), hx.2.1, Rs.self _ _⟩
    refine ⟨fun σ H' => ∃ f v g v4 v5 v6, σ = [some (.ref a), some (.ref b), none, some (.ref f), v4, v5, v6, none, none] ∧ St H xs ys f v g H' ∧ v.length < ys.length, ?_, ?_⟩
    · refine ⟨_, rfl, a, _, rfl, .inl (SqL.of (B1.1 _ _ ha)), _, rfl, by rw [iV_len]; omega, by rw [iV_len]; have := hx.2.1; omega, ?_⟩
      rw [Int.toNat_natCast, iV_len]
      refine for_range (n := xs.length) (fun i σ H' => ∃ f v g v4 v5 v6, σ = [some (.ref a), some (.ref b), none, some (.ref f), v4, v5, v6, none, none] ∧ St H xs ys f v g H' ∧ (v.length + i ≤ xs.length ∨ v.length < ys.length)) ⟨D, xs, 1, none, none, none, rfl, S1, .inl (Nat.le_refl _)⟩ ?_ ?_
      · rintro i σ H2 hi ⟨f, v, g, v4, v5, v6, rfl, ⟨e1, hF, g0, gb, vb, v8, hR⟩, hm⟩
        obtain ⟨as, q1, q2, q3⟩ := id hF
        have hb2 : Li H2 b ys := e1 _ _ hb
        refine ⟨_, rfl, f, _, rfl, .inl (SqL.of q1), _, rfl, b, _, rfl, .inl hb2.sq, _, _, rfl, rfl, _, rfl, ?_⟩
        by_cases cc : ys.length ≤ v.length
        · refine if_t (decide_eq_true (by rw [iV_len, List.length_map, q2]; omega)) ?_
          have v0 : 0 < v.length := by omega
          obtain ⟨x, hxl⟩ : ∃ x, v[v.length - 1]? = some x := ⟨v[v.length - 1], List.getElem?_eq_getElem (by omega)⟩
          obtain ⟨ax, hax⟩ : ∃ ax, as[v.length - 1]? = some ax := ⟨as[v.length - 1]'(by omega), List.getElem?_eq_getElem (by omega)⟩
          have hFx := q3 _ _ _ hax hxl
          have ib : atI (as.map V.ref) (-1) = some (.ref ax) := ref_end (by rw [q2, List.getElem?_map, hax]; rfl) (by omega)
          have xb := vb x (List.mem_of_getElem? hxl)
          have N4 : 21 * (9 - v.length) ≤ 168 := by omega
          obtain ⟨sg, hsg⟩ : ∃ sg : Int, (if ld < 0 then -1 else 1) = sg := ⟨_, rfl⟩
          obtain ⟨ab, hab⟩ : ∃ ab : Int, (if ld < 0 then -ld else ld) = ab := ⟨_, rfl⟩
          have ab0 : 0 < ab := by rw [← hab]; split <;> omega
          have abb : ab.natAbs < 2 ^ 20 := by
            have : ab.natAbs = ld.natAbs := by rw [← hab]; split <;> omega
            omega
          have sgb : sg.natAbs ≤ 1 := by rw [← hsg]; split <;> decide
          have hsl : sg * ld = ab := by rw [← hsg, ← hab]; split <;> omega
          have gab0 : 0 < g * ab := Int.mul_pos g0 ab0
          have xsb : (x * sg).natAbs < 2 ^ (21 * (9 - v.length)) := by
            rw [Int.natAbs_mul]
            exact Nat.lt_of_le_of_lt (Nat.mul_le_mul_left _ sgb) (by rw [Nat.mul_one]; exact xb)
          have gabb : (g * ab).natAbs < 2 ^ (21 * (9 - v.length) + 20) := wide_lt gb abb
          refine ⟨_, rfl, _, rfl, f, _, _, _, rfl, rfl, SqL.of q1, ib, _, rfl, _, rfl, b, _, _, _, rfl, rfl, hb2.sq, hld2, ld, rfl, ld0, big ldb (by decide), fun p H3 hp e3 h3 => ?_⟩
          rw [hsg, hab] at h3
          refine ⟨ax, p, _, _, _, _, rfl, e3 _ _ hFx, h3, fr_b1 g0 xb (by omega), fr_b2 g0 gb (by omega), Nat.lt_of_le_of_lt sgb (Nat.one_lt_two_pow (by decide)), big abb (by decide), fr_pos g0, ab0, fun q H4 hq e4 h4 => ?_⟩
          rw [fr_mm g0 ab0] at h4
          have e14 := (e1.trans e3).trans e4
          have q14 := (e3.trans e4) _ _ q1
          have hb4 := (e3.trans e4) _ _ hb2
          have hF4 := hF.ex (e3.trans e4)
          refine ⟨two, fun t0 ht0 => ⟨one, fun p1 hp1 => ⟨_, rfl, f, _, rfl, .inl (SqL.of (Evl.Ex.new hp1 _ _ (Evl.Ex.new ht0 _ _ q14))), _, rfl, b, _, rfl, .inl (SqL.of (Evl.Ex.new hp1 _ _ (Evl.Ex.new ht0 _ _ hb4))), _, _, rfl, rfl, p1, _, _, rfl, rfl, upd_same, by rw [List.length_map, iV_len]; omega, by rw [List.length_map, iV_len]; omega, ?_, fun p2 hp2 => ?_⟩⟩⟩
          · rw [List.length_map, iV_len]
            show 1 * _ ≤ sizeLine
            exact Nat.le_trans (show 1 * ((as.length : Int) - (ys.length : Int)).toNat ≤ 100 by omega) (by decide)
          rw [List.length_map, iV_len, rep_flat, q2, show ((v.length : Int) - (ys.length : Int)).toNat = v.length - ys.length by omega]
          have e5 : Evl.Ex H4 (upd H4 t0 (.tup [.int 0, .int 1])) := Evl.Ex.new ht0
          have e6 := e5.trans (Evl.Ex.new (o := .lst [.ref t0]) hp1)
          have e7 := e6.trans (Evl.Ex.new (o := .lst (List.replicate (v.length - ys.length) (.ref t0))) hp2)
          have ht5 : Fr (upd (upd (upd H4 t0 (.tup [.int 0, .int 1])) p1 (.lst [.ref t0])) p2 (.lst (List.replicate (v.length - ys.length) (.ref t0)))) t0 0 1 := Evl.Ex.new hp2 _ _ (Evl.Ex.new hp1 _ _ upd_same)
          have hp25 : (upd (upd (upd H4 t0 (.tup [.int 0, .int 1])) p1 (.lst [.ref t0])) p2 (.lst (List.replicate (v.length - ys.length) (.ref t0)))) p2 = some (.lst (List.replicate (v.length - ys.length) (.ref t0))) := upd_same
          generalize upd (upd (upd H4 t0 (.tup [.int 0, .int 1])) p1 (.lst [.ref t0])) p2 (.lst (List.replicate (v.length - ys.length) (.ref t0))) = H5 at e7 ht5 hp25
          clear e5 e6
          refine ⟨_, rfl, _, rfl, b, rfl, ⟨_, SqL.of (e7 _ _ hb4)⟩, fun D2 hD2 => lc_list (xs := iV ys) (Bd H5 D2 (ys.map fun y => x * sg * (0 - y)) (g * ab)) (Bd.zero hD2) (fun i H' _ z => SqL.of (z.1 _ _ (e7 _ _ hb4))) ?_ ?_⟩
          · rintro j z H' hj BB
            obtain ⟨n, hn, rfl⟩ := iV_get hj
            have hl : j < ys.length := (List.getElem?_eq_some_iff.mp hn).1
            have nb := y20 n (List.mem_of_getElem? hn)
            refine ⟨rfl, ?_⟩
            show tCall spMul [] E0 (tCons (tVar 5) (tCons (tTup (tCons (tOp (rI0 fun i j => .int (i - j)) (tC (.int 0)) (tVar 2)) (tCons (tC (.int 1)) tNil))) tNil)) _ _ _
            refine ⟨_, rfl, _, rfl, _, _, rfl, rfl, two, fun t1 ht1 => ?_⟩
            have en := Evl.Ex.new (o := .tup [.int (0 - n), .int 1]) ht1
            refine ⟨q, t1, _, _, _, _, rfl, (((e7.trans BB.1).trans en) _ _ h4), upd_same, fr_b1 gab0 xsb (by omega), fr_b2 gab0 gabb (by omega), big (n := 20) (by omega) (by decide), by decide, fr_pos gab0, by decide, fun y H7 hy7 e8 h8 => ?_⟩
            rw [fr_mm gab0 (by decide), Int.mul_one] at h8
            exact BB.turn hD2 (by have := hy.2.1; omega) (by rw [List.getElem?_map, hn]; rfl) (en.trans e8) h8
          rintro H6 BB
          rw [iV_len] at BB
          obtain ⟨e8, as2, m1, m2, m3⟩ := BB
          refine ⟨p2, D2, _, _, rfl, rfl, e8 _ _ hp25, m1, ?_, fun p3 hp3 => ?_⟩
          · rw [List.length_replicate, List.length_map, m2]
            exact Nat.le_trans (show v.length - ys.length + ys.length ≤ 100 by omega) (by decide)
          have e9 : Evl.Ex H6 (upd H6 p3 (.lst (List.replicate (v.length - ys.length) (V.ref t0) ++ as2.map V.ref))) := Evl.Ex.new hp3
          have hT := Fv.app (H := upd H6 p3 (.lst (List.replicate (v.length - ys.length) (V.ref t0) ++ as2.map V.ref))) (t0 := t0) (p := p3) (u := ys.map fun y => x * sg * (0 - y)) (off := v.length - ys.length) gab0 ((e8.trans e9) _ _ ht5) (by rw [m2, List.length_map]) (fun j a' x' hj hx' => e9 _ _ (m3 j a' x' hj hx')) upd_same
          generalize upd H6 p3 (.lst (List.replicate (v.length - ys.length) (V.ref t0) ++ as2.map V.ref)) = H7 at e9 hT
          have e47 := (e7.trans e8).trans e9
          obtain ⟨bs, w1, w2, w3⟩ := id hT
          have q17 := e47 _ _ q14
          refine ⟨_, rfl, f, _, rfl, .inl (SqL.of q17), _, _, rfl, rfl, _, rfl, by rw [List.length_map]; omega, by rw [List.length_map]; omega, fun D3 hD3 => ?_⟩
          have eN : (((as.map V.ref).length : Int) - 1).toNat = v.length - 1 := by rw [List.length_map]; omega
          have sl : (stepF ys v ab (x * sg)).length = v.length - 1 := vec_len _ _
          rw [eN]
          refine lc_range (n := v.length - 1) (Bd H7 D3 (stepF ys v ab (x * sg)) (g * ab)) (Bd.zero hD3) ?_ ?_
          · intro j H' hj BB
            have vj : v[j]? = some v[j] := List.getElem?_eq_getElem (by omega)
            have aj : as[j]? = some (as[j]'(by omega)) := List.getElem?_eq_getElem (by omega)
            have tj := tkv_getD ys (v.length - ys.length) (x * sg) j (by omega)
            have lT : j < bs.length := by
              rw [w2, List.length_append, List.length_replicate, List.length_map]; omega
            have bj : bs[j]? = some bs[j] := List.getElem?_eq_getElem lT
            have F1 := (e47.trans BB.1) _ _ ((e3.trans e4) _ _ (q3 _ _ _ aj vj))
            have F2 := BB.1 _ _ (w3 _ _ _ bj tj)
            have e0 : (0 : Int) + (j : Int) = (j : Int) := (Int.zero_add _)
            have xv := vb _ (List.mem_of_getElem? vj)
            have tb : (if v.length - ys.length ≤ j then x * sg * (0 - ys.getD (j - (v.length - ys.length)) 0) else 0).natAbs < 2 ^ (21 * (9 - v.length) + 20) := by
              split
              · refine wide_lt xsb ?_
                have := getD_mem y20 (j - (v.length - ys.length))
                omega
              · exact Nat.pow_pos (by decide)
            refine ⟨rfl, ?_⟩
            show tCall spAdd [] E0 (tCons (tOp (rIxL K) (tVar 3) (tVar 8)) (tCons (tOp (rIxL K) (tVar 6) (tVar 8)) tNil)) _ _ _
            refine ⟨_, rfl, _, rfl, f, _, _, .ref (as[j]'(by omega)), rfl, rfl, SqL.of (BB.1 _ _ q17), ?_, _, rfl, _, rfl, p3, _, _, .ref bs[j], rfl, rfl, SqL.of (BB.1 _ _ w1), ?_, ?_⟩
            · show atI _ ((0 : Int) + (j : Int)) = _
              rw [e0]
              exact atI_nat (by rw [List.getElem?_map, aj]; rfl)
            · show atI _ ((0 : Int) + (j : Int)) = _
              rw [e0]
              exact atI_nat (by rw [List.getElem?_map, bj]; rfl)
            refine ⟨as[j]'(by omega), bs[j], _, _, _, _, rfl, F1, F2, fr_b1 g0 xv (by omega), fr_b2 g0 gb (by omega), fr_b1 gab0 tb (by omega), fr_b2 gab0 gabb (by omega), fr_pos g0, fr_pos gab0, fun y H9 hy9 e10 h10 => ?_⟩
            rw [fr_aa g0 ab0] at h10
            refine BB.turn hD3 (by omega) ?_ e10 h10
            unfold stepF
            rw [vec_get hj, getD_at vj]
          · rintro H' BB
            rw [← sl] at BB
            have st := stepF_rs y0 hR cc ab0 (t := x * sg) (by rw [getD_at hxl, getD_at hld, ← hsl, Int.mul_comm (sg * ld), Int.mul_assoc])
            have bd := stepF_bd (B := ys) vb abb xsb y20
            refine ⟨D3, stepF ys v ab (x * sg), g * ab, _, _, _, rfl, ⟨(e14.trans e47).trans BB.1, BB.fv, gab0, ?_, ?_, by omega, st⟩, ?_⟩
            · rw [sl]
              exact big gabb (by omega)
            · rw [sl]
              exact more bd (by omega)
            · rw [sl]
              omega
        · refine if_f (decide_eq_false (by rw [iV_len, List.length_map, q2]; omega)) ?_
          exact ⟨f, v, g, _, v5, v6, rfl, ⟨e1, hF, g0, gb, vb, v8, hR⟩, .inr (by omega)⟩
      · rintro σ H2 ⟨f, v, g, v4, v5, v6, rfl, hS, hm⟩
        exact ⟨f, v, g, v4, v5, v6, rfl, hS, by omega⟩
    rintro σ H2 ⟨f, v, g, v4, v5, v6, rfl, ⟨e1, hF, g0, gb, vb, v8, hR⟩, hlt⟩
    obtain ⟨as, q1, q2, q3⟩ := id hF
    obtain ⟨G, hG⟩ : ∃ G : Nat, g = (G : Int) := ⟨g.toNat, by omega⟩
    have G0 : 0 < G := by omega
    have Gb : G < 2 ^ 200 := by
      have : g.natAbs < 2 ^ 200 := big gb (by omega)
      omega
    have dG : ∀ x, ∃ d : Nat, (fr x g).2 = (d : Int) ∧ d ∣ G ∧ 0 < d ∧ d < 2 ^ 200 := fun x => by
      have p := fr_pos (u := x) g0
      obtain ⟨d, hd⟩ : ∃ d : Nat, (fr x g).2 = (d : Int) := ⟨(fr x g).2.toNat, by omega⟩
      refine ⟨d, hd, ?_, by omega, ?_⟩
      · have h2 := (fr_mul (u := x) g0).2
        have h3 : (fr x g).2 ∣ g := ⟨_, h2⟩
        rw [hd] at h3
        have h4 : (d : Int) ∣ (G : Int) := by
          rw [← hG]
          exact h3
        exact Int.natCast_dvd_natCast.mp h4
      · have := fr_b2 (x := x) (M := 200) g0 gb (by omega)
        omega
    refine ⟨_, rfl, f, rfl, ⟨_, SqL.of q1⟩, for_list (xs := as.map V.ref) (fun i σ H' => ∃ (l : Nat) (v2 : Option V), σ = [some (.ref a), some (.ref b), v2, some (.ref f), v4, v5, v6, some (.int (l : Int)), none] ∧ Evl.Ex H2 H' ∧ l ∣ G ∧ 0 < l ∧ ∀ j x, j < i → v[j]? = some x → (fr x g).2 ∣ (l : Int))
      ⟨1, none, rfl, Evl.Ex.refl _, Nat.one_dvd _, by decide, fun j x h => absurd h (Nat.not_lt_zero _)⟩ (fun i σ H' _ ⟨_, _, _, z, _⟩ => SqL.of (z _ _ q1)) ?_ ?_⟩
    · rintro i z σ H' hi ⟨l, v2, rfl, e2, lG, l0, hd⟩
      have hi2 : i < as.length := by
        have := ((List.getElem?_eq_some_iff.mp hi).1)
        rwa [List.length_map] at this
      have ai : as[i]? = some as[i] := List.getElem?_eq_getElem hi2
      have vi : v[i]? = some (v[i]'(by omega)) := List.getElem?_eq_getElem (by omega)
      rw [List.getElem?_map, ai] at hi
      obtain rfl : V.ref as[i] = z := Option.some.inj hi
      have hFi := e2 _ _ (q3 _ _ _ ai vi)
      obtain ⟨d, hd1, hd2, hd3, hd4⟩ := dG (v[i]'(by omega))
      obtain ⟨s1, s2, s3, s4, s5⟩ := lcm_step lG hd2 G0
      have lb2 : l < 2 ^ 200 := Nat.lt_of_le_of_lt (Nat.le_of_dvd G0 lG) Gb
      rw [hd1] at hFi
      have gp : 0 < Int.gcd (l : Int) (d : Int) := Nat.gcd_pos_of_pos_left _ l0
      refine ⟨_, rfl, _, rfl, as[i], _, _, _, rfl, rfl, SqT.of hFi, at2_1, _, _, rfl, rfl, wide_mul (a := 200) (b := 200) (by rw [Int.natAbs_natCast]; exact lb2) (by rw [Int.natAbs_natCast]; exact hd4) (by decide) (by decide) (by decide), ?_⟩
      refine ⟨_, rfl, _, rfl, as[i], _, _, _, rfl, rfl, SqT.of hFi, at2_1, (l : Int), (d : Int), rfl, by rw [Int.natAbs_natCast]; exact Nat.lt_of_lt_of_le lb2 (Nat.pow_le_pow_right (by decide) (by decide)), by rw [Int.natAbs_natCast]; exact Nat.lt_of_lt_of_le hd4 (Nat.pow_le_pow_right (by decide) (by decide)), fun H5 e5 => ?_⟩
      refine ⟨_, _, rfl, rfl, wide_div (b := 200) (by omega) (by rw [Int.natAbs_natCast]; exact Nat.lt_of_le_of_lt (Nat.gcd_le_left _ l0) lb2) (by decide) (by decide), ?_⟩
      refine ⟨Nat.lcm l d, some (.ref as[i]), ?_, e2.trans e5, s2, s5, fun j x hj hx => ?_⟩
      · rw [← s1]
        rfl
      · by_cases cj : j < i
        · exact Int.dvd_trans (hd j x cj hx) (Int.natCast_dvd_natCast.mpr s3)
        · have ej : j = i := by omega
          subst ej
          rw [vi] at hx
          cases hx
          rw [hd1]
          exact Int.natCast_dvd_natCast.mpr s4
    · rintro σ H' ⟨l, v2, rfl, e2, lG, l0, hd⟩
      rw [List.length_map, q2] at hd
      have hdv : ∀ x ∈ v, (fr x g).2 ∣ (l : Int) := fun x hxm => by
        obtain ⟨j, hj⟩ := List.getElem?_of_mem hxm
        exact hd j x (List.getElem?_eq_some_iff.mp hj).1 hj
      have lb2 : l < 2 ^ 200 := Nat.lt_of_le_of_lt (Nat.le_of_dvd G0 lG) Gb
      have e12 := e1.trans e2
      refine ⟨_, rfl, f, rfl, ⟨_, SqL.of (e2 _ _ q1)⟩, fun D4 hD4 => lc_list (xs := as.map V.ref) (fun i H3 => Evl.Ex H' H3 ∧ H3 D4 = some (.lst (iV ((overL v g l).take i)))) ⟨Evl.Ex.new hD4, upd_same⟩ (fun i H3 _ z => SqL.of (z.1 _ _ (e2 _ _ q1))) ?_ ?_⟩
      · rintro i z H3 hi ⟨e3, h3⟩
        have hi2 : i < as.length := by
          have := ((List.getElem?_eq_some_iff.mp hi).1)
          rwa [List.length_map] at this
        have ai : as[i]? = some as[i] := List.getElem?_eq_getElem hi2
        have vi : v[i]? = some (v[i]'(by omega)) := List.getElem?_eq_getElem (by omega)
        rw [List.getElem?_map, ai] at hi
        obtain rfl : V.ref as[i] = z := Option.some.inj hi
        have hFi : Fr H3 as[i] _ _ := (e2.trans e3) _ _ (q3 _ _ _ ai vi)
        have xv := vb _ (List.mem_of_getElem? vi)
        refine ⟨rfl, ?_⟩
        show tOp (rI CDivW fun i j => .int (i / j)) (tOp (rI CMulW fun i j => .int (i * j)) (tOp (rIxT K) (tVar 2) (tC (.int 0))) (tVar 7)) (tOp (rIxT K) (tVar 2) (tC (.int 1))) _ _ _
        refine ⟨_, rfl, as[i], _, _, _, rfl, rfl, SqT.of hFi, at2_0, _, rfl, _, _, rfl, rfl, wide_mul (a := 200) (b := 200) (fr_b1 g0 xv (by omega)) (by rw [Int.natAbs_natCast]; exact lb2) (by decide) (by decide) (by decide), ?_⟩
        refine ⟨_, rfl, as[i], _, _, _, rfl, rfl, SqT.of hFi, at2_1, _, _, rfl, rfl, wide_div (b := 200) (fr_pos g0) (fr_b2 g0 gb (by omega)) (by decide) (by decide), _, h3, ?_, Evl.Ex.mut e3 hD4, ?_⟩
        · rw [iV_len, List.length_take]
          unfold overL
          rw [List.length_map]
          exact Nat.lt_of_le_of_lt (show min i v.length ≤ 8 by omega) (by decide)
        · rw [upd_same, take_next (show (overL v g l)[i]? = some _ by unfold overL; rw [List.getElem?_map, vi]; rfl)]
      · rintro H3 ⟨e3, h3⟩
        have ol : (overL v g l).length = v.length := by unfold overL; rw [List.length_map]
        rw [List.length_map, q2, ← ol, List.take_length] at h3
        refine ⟨D4, overL v g l, rfl, SqL.of h3, by omega, fun q H4 hq e4 h4 => ?_⟩
        have e14 := (e12.trans e3).trans e4
        have hov := over_getD (v := v) (l := (l : Int)) g0 hdv
        have ob : ∀ y ∈ overL v g l, y.natAbs < 2 ^ 9000 := fun y hy' => by
          obtain ⟨j, hj⟩ := List.getElem?_of_mem hy'
          have h5 := hov j
          rw [getD_at hj] at h5
          have h6 := congrArg Int.natAbs h5
          rw [Int.natAbs_mul, Int.natAbs_mul, Int.natAbs_natCast] at h6
          have h7 := getD_mem vb j
          have h8 : l ≤ g.natAbs := by
            have := Nat.le_of_dvd G0 lG
            omega
          have h9 : g.natAbs * y.natAbs ≤ g.natAbs * (v.getD j 0).natAbs := by
            rw [h6]
            exact Nat.mul_le_mul_right _ h8
          have h10 := Nat.le_of_mul_le_mul_left h9 (by omega)
          exact Nat.lt_of_le_of_lt h10 (Nat.lt_of_lt_of_le h7 (Nat.pow_le_pow_right (by decide) (by omega)))
        refine ⟨q, trm (overL v g l), rfl, h4, by have := trm_len (overL v g l); omega, fun y hy' => ob y (trm_mem hy'), pol_trm _, fun r H5 hr5 e5 h5 => ?_⟩
        have hpp : prim (trm v) = prim (trm (overL v g l)) := prim_prop (c := (l : Int)) (g := g) (pol_trm _) (pol_trm _) (by omega) g0 fun i => by rw [trm_getD, trm_getD]; exact hov i
        have hRm : Rm xs ys (trm v) := ⟨pol_trm _, by have := trm_len v; omega, hR.congr fun i => trm_getD v i⟩
        rw [← hpp] at h5
        exact k (trm v) hRm (fun x hx => big (vb x (trm_mem hx)) (by omega)) r H5 (Evl.fresh_back e14 hr5) (e14.trans e5) h5
end
end V2


namespace V2
open PySem L2
open PySem.Spec PyProof.Rows
/-! ## one flat list, marked and compared -/
def fl (ns : List Int) : PyData := .list (ns.map .int)
theorem shw_flat {ns : List Int} (h : ∀ x ∈ ns, x.natAbs < 2 ^ 300) (hl : ns.length ≤ 17) : Shw (fl ns) := by
  have hw := w_ints (B := 300) (by decide) ns h
  obtain ⟨h1, h2, h3⟩ := s_ints ns (more h (by decide))
  have h4 := d_ints ns
  refine ⟨by simpa [fl, PyData.showable] using h1, by simpa [fl, PyData.hasDict] using h2, by simp [fl, PyData.depth]; omega, ?_⟩
  have h5 := PyData.shown_le 1001 (by decide) (fl ns) (by simpa [fl, PyData.leavesShort] using h3)
  have h6 : PyData.weight (fl ns) ≤ 17 * 301 := by
    simp only [fl, PyData.weight]
    exact Nat.le_trans hw (Nat.mul_le_mul_right _ hl)
  have h7 : (1001 + 2) * PyData.weight (fl ns) ≤ 1003 * (17 * 301) := Nat.mul_le_mul_left _ h6
  have h8 : 1003 * (17 * 301) + 1001 ≤ sizeLine := by decide
  omega
theorem dp_fl {K : PySem.W.Frag} {H : Hp} {a : Addr} {ns : List Int} (h : Li H a ns) : Dp K H (.ref a) (fl ns) := .lst (SqL.of h) (dpI ns)
def spMf : Sp := fun vs H Q _ => ∃ (a : Addr) (ns : List Int), vs = [.ref a] ∧ Li H a ns ∧ ns.length ≤ 16 ∧ (∀ x ∈ ns, x.natAbs < 2 ^ 300) ∧ ∀ H', But a H H' → Q (.str (fl (ns ++ [0])).shown) H'
def spRf : Sp := fun vs H Q _ => ∃ (a d : Addr) (ns : List Int), vs = [.ref a, .ref d] ∧ Li H a ns ∧ Li H d ns ∧ a ≠ d ∧ ns.length ≤ 16 ∧ (∀ x ∈ ns, x.natAbs < 2 ^ 300) ∧ ∀ H', But a H H' → Q (.bl true) H'
section
variable {base : Heap} {mg : Str → Option Value} {K : PySem.W.Frag} {w : World} {P : Program}
theorem ok_markedF {f : Addr} {fd : FuncData} (F : Fun K "_law_pv_marked" "_law_pv_marked" s_l_marked f fd) (T : T4 mg) (cL : Cal P w K mg base 2 "_law_pv_lists" p_l_lists spL1) : FnG P w K mg base 3 f fd p_l_marked spMf := by
  refine Fun.okG F sc_l_marked (fun vs H Q E h => ?_) (fun cdv A outer s H vs Q E hg hr h => ?_)
  · obtain ⟨a, ns, rfl, _⟩ := h
    rfl
  · obtain ⟨a, ns, rfl, hL, hl, hb, k⟩ := h
    have nd := sc_l_marked.nd
    refine ⟨_, pss_cons (ps_set (i := 1) nd rfl (Or.inl rfl) (pe_c cL hr (pa_cons (pv 0) pa_nil)))
      (pss_cons (ps_for PassesOwn.never rfl (pi_range1 (by rfl) T.rng (pa_cons (pe_callB call_len_seq (by rfl) T.len PySem.boot_len (pa_cons (pv 1) pa_nil)) pa_nil)) (pg_name (i := 2) nd rfl (Or.inl rfl))
        (pss_one (ps_expr (pe_bm PySem.F.plainAttrs_list PySem.F.slot_list_append PySem.F.type_list_append mt_append (pe_ix ix_list (pv 1) (pv 2) (fun _ _ => rfl)) (pa_cons (pv 2) pa_nil)))))
      (pss_one (ps_ret (pe_callB (call_show hg hr.units) (by rfl) T.rep (by decide +kernel) (pa_cons (pv 0) pa_nil))))), ?_⟩
    refine ⟨_, rfl, (true, a, ns), rfl, hL, by show ns.length ≤ 100; omega, fun q H1 hq e1 h1 => ?_⟩
    have h1 : H1 q = some (.lst [.ref a]) := h1
    have hL1 : Li H1 a ns := e1 _ _ hL
    have nq : a ≠ q := ne_of_none hL hq
    refine ⟨_, rfl, q, _, rfl, .inl (SqL.of h1), _, rfl, (by rw [List.length_singleton]; decide), (by rw [List.length_singleton]; decide), ?_⟩
    refine for_range (n := 1) (fun i σ H' => (∃ v, σ = [some (.ref a), some (.ref q), v]) ∧ But a H1 H' ∧ H' q = some (.lst [.ref a]) ∧ Li H' a (if i = 0 then ns else ns ++ [0])) ⟨⟨_, rfl⟩, But.refl _ _, h1, hL1⟩ ?_ ?_
    · rintro i σ H' hi ⟨⟨v, rfl⟩, g1, g2, g3⟩
      have i0 : i = 0 := by omega
      subst i0
      rw [if_pos rfl] at g3
      refine ⟨_, rfl, _, rfl, q, _, _, .ref a, rfl, rfl, SqL.of g2, rfl, .inl ⟨rfl, _, SqL.of g3⟩, _, rfl, a, _, _, rfl, rfl, g3, ?_, ?_⟩
      · rw [iV_len]
        exact Nat.lt_of_le_of_lt hl (by decide)
      · refine ⟨⟨_, rfl⟩, fun b o hb h => by rw [upd_ne hb]; exact g1 b o hb h, by rw [upd_ne nq.symm]; exact g2, ?_⟩
        rw [if_neg (by decide)]
        unfold Li
        rw [upd_same]
        unfold iV
        rw [List.map_append]
        rfl
    · rintro σ H' ⟨⟨v, rfl⟩, g1, g2, g3⟩
      rw [if_neg (by decide)] at g3
      obtain ⟨w1, w2, w3, w4⟩ := shw_flat (ns := ns ++ [0]) (fun x hx => by
        rcases (List.mem_append.mp hx) with hx | hx
        · exact hb x hx
        · obtain rfl := List.mem_singleton.mp hx
          exact Nat.pow_pos (by decide)) (by rw [List.length_append]; show ns.length + 1 ≤ 17; omega)
      exact ⟨_, rfl, a, fl (ns ++ [0]), rfl, dp_fl g3, w1, w2, w3, w4, k H' fun b o hb h => g1 b o hb (e1 b o h)⟩
theorem ok_rightF {f : Addr} {fd : FuncData} (F : Fun K "_law_pv_right" "_law_pv_right" s_l_right f fd) (T : T4 mg) (cC : Cal P w K mg base 2 "_law_pv_copied" p_l_copied spC1) (cM : CalG P w K mg base 3 "_law_pv_marked" p_l_marked spMf) : FnG P w K mg base 4 f fd p_l_right spRf := by
  refine Fun.okG F sc_l_right (fun vs H Q E h => ?_) (fun cdv A outer s H vs Q E hg hr h => ?_)
  · obtain ⟨a, d, ns, rfl, _⟩ := h
    rfl
  · obtain ⟨a, d, ns, rfl, hL, hD, hne, hl, hb, k⟩ := h
    have hm2 : Room 2 _ := (hr.mono (by decide))
    refine ⟨_, pss_cons (ps_if (pt_cmpR op_ne (pe_callB (call_show hg hr.units) (by rfl) T.rep (by decide +kernel) (pa_cons (pv 0) pa_nil)) (pe_callB (call_show hg hr.units) (by rfl) T.rep (by decide +kernel) (pa_cons (pv 1) pa_nil)) (nomark _)) (pss_one (ps_ret pe_bl)) pss_nil)
      (pss_one (ps_ret (pe_cmpR op_eq (pe_cg cM hg hr (pa_cons (pv 0) pa_nil)) (pe_cg cM hg hr (pa_cons (pe_c cC hm2 (pa_cons (pv 1) pa_nil)) pa_nil)) (nomark _)))), ?_⟩
    obtain ⟨t1, t2, t3, t4⟩ := shw_flat hb (by omega)
    refine ⟨_, rfl, a, fl ns, rfl, dp_fl hL, t1, t2, t3, t4, _, rfl, d, fl ns, rfl, dp_fl hD, t1, t2, t3, t4, rfl, _, rfl, ?_⟩
    refine if_f (by simp) ?_
    refine ⟨_, rfl, a, ns, rfl, hL, hl, hb, fun H1 o1 => ?_⟩
    have hD1 : Li H1 d ns := o1 _ _ hne.symm hD
    refine ⟨_, rfl, (true, d, ns), rfl, hD1, by show ns.length ≤ 100; omega, fun p H2 hp e2 hp2 => ?_⟩
    have hp2 : Li H2 p ns := hp2
    refine ⟨p, ns, rfl, hp2, hl, hb, fun H3 o3 => ⟨rfl, ?_⟩⟩
    show Q (.bl (decide (V.str (fl (ns ++ [0])).shown = V.str (fl (ns ++ [0])).shown))) H3
    rw [decide_eq_true rfl]
    refine k H3 fun b o hb' h => ?_
    have h5 := o1 b o hb' h
    exact o3 b o (ne_of_none h5 hp) (e2 b o h5)
def spSmall : Sp := fun vs H Q _ => ∃ (p : Addr) (n m : Nat), vs = [.ref p, .int (n : Int)] ∧ 1 ≤ n ∧ n ≤ 4 ∧ Sk H p m ∧ m ≤ 90000 ∧
  ∀ (q : Addr) (ns : List Int) (H' : Hp), But p H H' → Sk H' p (m + 20) → H q = none → Li H' q ns → Pol ns → ns.length = n → (∀ x ∈ ns, -12 ≤ x ∧ x ≤ 12) → Q (.ref q) H'
theorem pol_set {ns : List Int} {y : Int} (h : y ≠ 0) : Pol (ns.set (ns.length - 1) y) := by
  intro z hz
  rw [List.length_set] at hz
  by_cases c : ns.length - 1 < ns.length
  · rw [List.getElem?_set_self c] at hz
    cases hz
    exact h
  · have : ns.length ≤ ns.length - 1 := by omega
    rw [List.getElem?_eq_none (by rw [List.length_set]; exact this)] at hz
    cases hz
theorem ix_last (ns : List Int) (h : 0 < ns.length) : ixN (iV ns).length (-1) = some (ns.length - 1) := by
  rw [iV_len]
  unfold ixN
  rw [if_neg (by decide), if_pos (by omega)]
  congr 1
  omega
theorem ok_small {f : Addr} {fd : FuncData} (F : Fun K "_law_pv_small" "_law_pv_small" s_l_small f fd) (mR : mg "range" = none) (cC : Cal P w K mg base 1 "_law_pv_coin" p_l_coin spCoin) : FnOk P w K mg base CX0 2 f fd p_l_small spSmall := by
  refine F.ok sc_l_small (fun vs H Q E h => ?_) (fun cdv A outer s H vs Q E hr h => ?_)
  · obtain ⟨p, n, m, rfl, _⟩ := h
    rfl
  · obtain ⟨p, n, m, rfl, n1, n4, hS, hm, k⟩ := h
    have nd := sc_l_small.nd
    refine ⟨_, pss_cons (ps_setLc (i := 2) (own := [("turn", 3)]) (g := gName 3) (tt := tYes) (te := tOp (rI0 fun i j => .int (i - j)) (tCall spCoin [] E0 (tCons (tVar 0) (tCons (tC (.int 25)) tNil))) (tC (.int 12))) rfl nd rfl rfl (sw_true rfl rfl rfl (by decide +kernel))
          (pi_range1 (by rfl) mR (pa_cons (pv 1) pa_nil)) (blkOk_by (N := n_l_small) (sc := defScope s_l_small) (by decide +kernel)) (fun _ _ _ _ _ => pg_name (i := 3) nd rfl (Or.inl rfl)) (fun _ _ _ _ _ => pts_nil)
          (fun _ _ _ _ _ => pe_op op_sub (pe_c cC hr (pa_cons (pv 0) (pa_cons pe_int pa_nil))) pe_int))
      (pss_cons (ps_asg (pe_op op_add pe_int (pe_c cC hr (pa_cons (pv 0) (pa_cons pe_int pa_nil)))) (pg_sub (pv 2) (pe_un un_neg pe_int) set_list))
      (pss_cons (ps_if (pt_cmpR op_eq (pe_c cC hr (pa_cons (pv 0) (pa_cons pe_int pa_nil))) pe_int (nomark _))
        (pss_one (ps_asg (pe_op op_sub pe_int (pe_ix ix_list (pv 2) (pe_un un_neg pe_int) (fun _ _ => rfl))) (pg_sub (pv 2) (pe_un un_neg pe_int) set_list))) pss_nil)
      (pss_one (ps_ret (pv 2))))), ?_⟩
    refine ⟨_, rfl, (n : Int), rfl, by omega, by omega, fun D hD => ?_⟩
    rw [Int.toNat_natCast]
    have nDp := sk_ne hS hD
    refine lc_range (n := n) (fun i H' => But p H H' ∧ Sk H' p (m + i) ∧ ∃ ns : List Int, H' D = some (.lst (iV ns)) ∧ ns.length = i ∧ ∀ x ∈ ns, -12 ≤ x ∧ x ≤ 12)
      ⟨But.of_ex (Evl.Ex.new hD), hS.ex (Evl.Ex.new hD), [], upd_same, rfl, (by intro x hx; cases hx)⟩ ?_ ?_
    · rintro i H' hi ⟨b3, s3, ns, h3, h4, h5⟩
      refine ⟨rfl, ?_⟩
      show tOp (rI0 fun i j => .int (i - j)) (tCall spCoin [] E0 (tCons (tVar 0) (tCons (tC (.int 25)) tNil))) (tC (.int 12)) _ _ _
      refine ⟨_, rfl, p, 25, m + i, rfl, s3, by omega, by decide, by decide, fun y H3 y0 y1 b4 s4 z4 => ?_⟩
      refine ⟨_, _, rfl, rfl, _, b4 D _ nDp h3, ?_, ?_, ?_, ns ++ [y - 12], ?_, ?_, ?_⟩
      · rw [iV_len, h4]; exact Nat.lt_of_lt_of_le (show i < 100 by omega) (by decide)
      · intro b o hb h
        rw [upd_ne (ne_of_none h hD)]
        exact (b3.trans b4) b o hb h
      · obtain ⟨a', b', c', q1, q2⟩ := s4
        exact ⟨a', b', c', by rw [upd_ne nDp.symm]; exact q1, q2.1, q2.2.1, q2.2.2.1, q2.2.2.2.1, by have := q2.2.2.2.2; omega⟩
      · rw [upd_same]; unfold iV; rw [List.map_append]; rfl
      · rw [List.length_append, h4]; rfl
      · intro x hx
        rcases (List.mem_append.mp hx) with hx | hx
        · exact h5 x hx
        · obtain rfl := List.mem_singleton.mp hx
          omega
    · rintro H' ⟨b3, s3, ns, h3, h4, h5⟩
      have ln : 0 < ns.length := by omega
      refine ⟨_, rfl, p, 12, m + n, rfl, s3, by omega, by decide, by decide, fun y H4 y0 y1 b4 s4 z4 => ?_⟩
      refine ⟨1, y, rfl, rfl, _, rfl, _, rfl, D, iV ns, -1, ns.length - 1, rfl, rfl, b4 D _ nDp h3, ix_last ns ln, ?_⟩
      have n2 : Pol (ns.set (ns.length - 1) (1 + y)) := pol_set (by omega)
      have b5 : ∀ x ∈ ns.set (ns.length - 1) (1 + y), -12 ≤ x ∧ x ≤ 12 := fun x hx => by
        rcases List.mem_or_eq_of_mem_set hx with hx | rfl
        · exact h5 x hx
        · omega
      have lz : (ns.set (ns.length - 1) (1 + y)).length = n := by rw [List.length_set, h4]
      have gz : (ns.set (ns.length - 1) (1 + y))[ns.length - 1]? = some (1 + y) := List.getElem?_set_self (by omega)
      rw [iV_set]
      generalize ns.set (ns.length - 1) (1 + y) = zs at n2 b5 lz gz
      have bU : But p H (upd H4 D (.lst (iV zs))) := fun b o hb h => by
        rw [upd_ne (ne_of_none h hD)]
        exact (b3.trans b4) b o hb h
      have sU : Sk (upd H4 D (.lst (iV zs))) p (m + n + 1) := by
        obtain ⟨a', b', c', q1, q2⟩ := s4
        exact ⟨a', b', c', by rw [upd_ne nDp.symm]; exact q1, q2⟩
      have hU : Li (upd H4 D (.lst (iV zs))) D zs := upd_same
      generalize upd H4 D (.lst (iV zs)) = H5 at bU sU hU
      have zl : 0 < zs.length := by omega
      refine ⟨_, rfl, p, 2, m + n + 1, rfl, sU, by omega, by decide, by decide, fun c H6 c0 c1 b6 s6 z6 => ⟨rfl, _, rfl, ite2 (fun q => ?_) (fun q => ?_)⟩⟩
      · have hU6 : Li H6 D zs := b6 _ _ nDp hU
        obtain ⟨e, he, he2⟩ := atI_end (List.ne_nil_of_length_pos zl)
        have e0 := n2 e he
        refine ⟨_, rfl, _, rfl, D, _, _, _, rfl, rfl, SqL.of hU6, he2, _, _, rfl, rfl, _, rfl, _, rfl, D, iV zs, -1, zs.length - 1, rfl, rfl, hU6, ix_last zs zl, ?_⟩
        have eb := b5 e (List.mem_of_getElem? he)
        refine ⟨_, rfl, k D (zs.set (zs.length - 1) (0 - e)) _ ?_ ?_ hD ?_ (pol_set (by omega)) (by rw [List.length_set, lz]) fun x hx => ?_⟩
        · intro b o hb h
          rw [upd_ne (ne_of_none h hD)]
          exact (bU.trans b6) b o hb h
        · obtain ⟨a', b', c', q1, q2⟩ := s6
          exact ⟨a', b', c', by rw [upd_ne nDp.symm]; exact q1, q2.1, q2.2.1, q2.2.2.1, q2.2.2.2.1, by have := q2.2.2.2.2; omega⟩
        · unfold Li
          rw [upd_same, ← iV_set]
        · rcases List.mem_or_eq_of_mem_set hx with hx | rfl
          · exact b5 x hx
          · omega
      · exact ⟨_, rfl, k D zs _ (bU.trans b6) (s6.le (by omega)) hD (b6 _ _ nDp hU) n2 lz b5⟩
end
end V2


namespace V2
open PySem L2
open PySem.Spec PyProof.Rows
theorem prim_bd {L : List Int} {B : Nat} (h : ∀ x ∈ L, x.natAbs < 2 ^ B) : ∀ y ∈ prim L, y.natAbs < 2 ^ B := by
  intro y hy
  unfold prim at hy
  obtain ⟨x, hx, rfl⟩ := List.mem_map.mp hy
  obtain ⟨p, hp⟩ := cont_dvd hx
  rcases Nat.eq_zero_or_pos (cont L) with z | z
  · rw [z]
    show (x / 0).natAbs < 2 ^ B
    rw [Int.ediv_zero]
    exact Nat.pow_pos (by decide)
  · have e : x / (cont L : Int) = p := by
      conv => lhs; rw [hp]
      rw [Int.mul_ediv_cancel_left _ (by omega)]
    rw [e]
    have h1 := h x hx
    rw [hp, Int.natAbs_mul, Int.natAbs_natCast] at h1
    exact Nat.lt_of_le_of_lt (Nat.le_mul_of_pos_left _ z) h1
theorem eqv_ints : ∀ ns : List Int, PyData.eqvAll (ns.map .int) (ns.map .int) = true
  | [] => by simp [PyData.eqvAll]
  | n :: r => by simp [PyData.eqvAll, PyData.eqv, eqv_ints r]
theorem pmul_getD (xs ys : List Int) (i : Nat) : (pmul xs ys).getD i 0 = cfF (fun j => xs.getD j 0) (fun j => ys.getD j 0) xs.length i := by
  unfold pmul
  rw [vec_getD, cf_cfF]
  by_cases h : i < xs.length + ys.length - 1
  · rw [if_pos h]
  · rw [if_neg h]
    symm
    refine cfF_zero _ _ _ _ fun j h1 h2 => ?_
    show xs.getD j 0 * ys.getD (i - j) 0 = 0
    rw [getD_out (l := ys) (by omega), Int.mul_zero]
theorem padd_getD (xs ys : List Int) (i : Nat) : (padd xs ys).getD i 0 = xs.getD i 0 + ys.getD i 0 := by
  unfold padd
  rw [vec_getD]
  by_cases h : i < max xs.length ys.length
  · rw [if_pos h]
  · rw [if_neg h, getD_out (l := xs) (by omega), getD_out (l := ys) (by omega)]
    rfl
theorem cfF_none (f : Nat → Int) (k i : Nat) : cfF f (fun _ => 0) k i = 0 := cfF_zero _ _ _ _ fun _ _ _ => Int.mul_zero _
theorem rm_short {ss rs : List Int} (hp : Pol ss) (hl : ss.length < rs.length) : Rm ss rs ss := ⟨hp, hl, Rs.self _ _⟩
theorem rm_self {rs : List Int} (h0 : rs ≠ []) : Rm rs rs [] := ⟨pol_nil, List.length_pos_iff.mpr h0, 1, dlt 0, 1, by decide, fun i hi => by unfold dlt; rw [if_neg (by omega)], fun i => by
  rw [cfF_dlt, Int.one_mul]
  show rs.getD i 0 = _ + (0 : Int)
  by_cases h : i < rs.length
  · rw [if_pos (by omega), Nat.sub_zero, Int.add_zero]
  · rw [if_neg (by omega), getD_out (by omega)]
    rfl⟩
theorem rm_prod {rs fs : List Int} (h0 : rs ≠ []) : Rm (trm (pmul rs fs)) rs [] := ⟨pol_nil, List.length_pos_iff.mpr h0, 1, fun j => fs.getD j 0, fs.length, by decide, fun i hi => getD_out hi, fun i => by
  rw [trm_getD, pmul_getD, Int.one_mul]
  show _ = _ + (0 : Int)
  rw [Int.add_zero]⟩
theorem rm_whole {rs fs ss : List Int} (hp : Pol ss) (hl : ss.length < rs.length) : Rm (trm (padd (trm (pmul rs fs)) ss)) rs ss := ⟨hp, hl, 1, fun j => fs.getD j 0, fs.length, by decide, fun i hi => getD_out hi, fun i => by
  rw [trm_getD, padd_getD, trm_getD, pmul_getD, Int.one_mul]⟩
theorem prim_nil : prim [] = [] := rfl
theorem prim_none {L : List Int} {P B : List Int} (hB : Pol B) (h : Rm P B L) (k : Rm P B []) : prim L = [] := (h.uniq hB k).trans prim_nil
theorem cf_bd12 {xs ys : List Int} (hx : ∀ x ∈ xs, -12 ≤ x ∧ x ≤ 12) (hy : ∀ x ∈ ys, -12 ≤ x ∧ x ≤ 12) : ∀ k i, (cf xs ys k i).natAbs ≤ k * 144
  | 0, _ => by show (0 : Int).natAbs ≤ _; simp
  | k + 1, i => by
    have ih := cf_bd12 hx hy k i
    have h1 := getD_bd (B := 12) (by decide) hx k
    have h2 := getD_bd (B := 12) (by decide) hy (i - k)
    have h3 : (xs.getD k 0 * ys.getD (i - k) 0).natAbs ≤ 12 * 12 := by
      rw [Int.natAbs_mul]
      exact Nat.mul_le_mul (by omega) (by omega)
    show (cf xs ys k i + (if k ≤ i then xs.getD k 0 * ys.getD (i - k) 0 else 0)).natAbs ≤ _
    rw [Nat.succ_mul]
    split <;> omega
theorem prod_small {rs fs : List Int} (hr : rs.length ≤ 4) (hf : fs.length ≤ 4) (br : ∀ x ∈ rs, -12 ≤ x ∧ x ≤ 12) (bf : ∀ x ∈ fs, -12 ≤ x ∧ x ≤ 12) : (trm (pmul rs fs)).length ≤ 8 ∧ ∀ x ∈ trm (pmul rs fs), -600 ≤ x ∧ x ≤ 600 := by
  constructor
  · have := trm_len (pmul rs fs)
    have e : (pmul rs fs).length = rs.length + fs.length - 1 := vec_len _ _
    omega
  · intro x hx
    obtain ⟨i, _, rfl⟩ := vec_mem (trm_mem hx)
    have := cf_bd12 br bf rs.length i
    omega
theorem whole_small {ps ss : List Int} (hp : ps.length ≤ 8) (hs : ss.length ≤ 8) (bp : ∀ x ∈ ps, -600 ≤ x ∧ x ≤ 600) (bs : ∀ x ∈ ss, -12 ≤ x ∧ x ≤ 12) : Sp6 (trm (padd ps ss)) := by
  refine ⟨pol_trm _, ?_, fun x hx => ?_⟩
  · have := trm_len (padd ps ss)
    have e : (padd ps ss).length = max ps.length ss.length := vec_len _ _
    omega
  · obtain ⟨i, _, rfl⟩ := vec_mem (trm_mem hx)
    have h1 := getD_bd (B := 600) (by decide) bp i
    have h2 := getD_bd (B := 12) (by decide) bs i
    omega
theorem sp6_of {ns : List Int} {B : Int} (hp : Pol ns) (hl : ns.length ≤ 8) (hB : B ≤ 1000000) (h : ∀ x ∈ ns, -B ≤ x ∧ x ≤ B) : Sp6 ns := ⟨hp, hl, fun x hx => by have := h x hx; omega⟩
end V2


namespace V2
open PySem L2
open PySem.Spec PyProof.Rows
structure C4 (P : Program) (w : World) (K : PySem.W.Frag) (mg : Str → Option Value) (base : Heap) : Prop where
  rng : mg "range" = none
  len : mg "len" = none
  rep : mg "repr" = none
  coin : Cal P w K mg base 1 "_law_pv_coin" p_l_coin spCoin
  poly : Cal P w K mg base 2 "_law_pv_poly" p_l_poly spPoly
  small : Cal P w K mg base 2 "_law_pv_small" p_l_small spSmall
  trim : Cal P w K mg base 1 "_law_pv_trim" p_l_trim (spTrim K)
  sum : Cal P w K mg base 2 "_law_pv_sum" p_l_sum (spTwo fun xs ys => trm (padd xs ys))
  prod : Cal P w K mg base 2 "_law_pv_product" p_l_product (spTwo fun xs ys => trm (pmul xs ys))
  thin : Cal P w K mg base 2 "_law_pv_thin" p_l_thin spPrim
  left : Cal P w K mg base 4 "_law_pv_left" p_l_left spRem
  rest : Cal P w K mg base 4 "rest" p_rest spRem
  restS : CalK P w K mg base 4 "rest" p_rest ["other", "one"] swp spRem
  right : CalG P w K mg base 4 "_law_pv_right" p_l_right spRf
structure Mq (H0 H : Hp) (p l r : Addr) (ls rs : List Int) (m : Nat) : Prop where
  but : But p H0 H
  sk : Sk H p m
  l : Rt H p l ls
  r : Rt H p r rs
theorem Mq.ex {H0 H H' : Hp} {p l r : Addr} {ls rs : List Int} {m : Nat} (h : Mq H0 H p l r ls rs m) (e : Evl.Ex H H') : Mq H0 H' p l r ls rs m := ⟨h.but.trans (But.of_ex e), h.sk.ex e, h.l.ex e, h.r.ex e⟩
theorem Mq.le {H0 H : Hp} {p l r : Addr} {ls rs : List Int} {m k : Nat} (h : Mq H0 H p l r ls rs m) (q : m ≤ k) : Mq H0 H p l r ls rs k := ⟨h.but, h.sk.le q, h.l, h.r⟩
theorem at4v {a b c d : V} {r : Int} (h0 : 0 ≤ r) (h1 : r < 4) : atI [a, b, c, d] r = some a ∨ atI [a, b, c, d] r = some b ∨ atI [a, b, c, d] r = some c ∨ atI [a, b, c, d] r = some d := by
  have : r = 0 ∨ r = 1 ∨ r = 2 ∨ r = 3 := by omega
  rcases this with rfl | rfl | rfl | rfl
  · exact .inl rfl
  · exact .inr (.inl rfl)
  · exact .inr (.inr (.inl rfl))
  · exact .inr (.inr (.inr rfl))
theorem ex_but2 {H H1 H2 : Hp} {q : Addr} (hq : H q = none) (e : Evl.Ex H H1) (o : But q H1 H2) : Evl.Ex H H2 := fun b u h => o b u (ne_of_none h hq) (e b u h)
theorem sp6_nil : Sp6 [] := ⟨pol_nil, Nat.zero_le _, fun x h => by cases h⟩
theorem show2 {K : PySem.W.Frag} {H : Hp} {q l r : Addr} {ls rs : List Int} (hq : H q = none) (hl : Li H l ls) (hr : Li H r rs) (ol : Lok ls) (or_ : Lok rs) :
    Dp K (upd H q (.lst [.ref l, .ref r])) (.ref q) (treeD [(true, l, ls), (true, r, rs)]) ∧ Shw (treeD [(true, l, ls), (true, r, rs)]) := by
  have e : Evl.Ex H (upd H q (.lst [.ref l, .ref r])) := Evl.Ex.new hq
  have hT : TreeAt (upd H q (.lst [.ref l, .ref r])) q [(true, l, ls), (true, r, rs)] := ⟨upd_same, all2 (e _ _ hl) (e _ _ hr)⟩
  exact ⟨dp_tree hT, shw_tree (its := [(true, l, ls), (true, r, rs)]) (all2 (.inl ⟨rfl, ol⟩) (.inl ⟨rfl, or_⟩)) (by simp)⟩
section
variable {base : Heap} {mg : Str → Option Value} {K : PySem.W.Frag} {w : World} {P : Program}
theorem ok_checked {f : Addr} {fd : FuncData} (F : Fun K "_law_pv_checked" "_law_pv_checked" s_l_checked f fd) (c : C4 P w K mg base) : FnG P w K mg base 6 f fd p_l_checked spChecked := by
  refine Fun.okG F sc_l_checked (fun vs H Q E h => ?_) (fun cdv A outer s H vs Q E hg hr h => ?_)
  · obtain ⟨p, m, rfl, _⟩ := h
    rfl
  · obtain ⟨p, m, rfl, hS, hm, k⟩ := h
    have nd := sc_l_checked.nd
    have r1 : Room 1 _ := (hr.mono (by decide))
    have r2 : Room 2 _ := (hr.mono (by decide))
    have r4 : Room 4 _ := (hr.mono (by decide))
    refine ⟨_, pss_cons (ps_par (i := 1) (j := 2) rfl nd rfl rfl (by decide) rfl rfl
        (pa_cons (pe_c c.poly r2 (pa_cons (pv 0) (pa_cons pe_int pa_nil))) (pa_cons (pe_c c.poly r2 (pa_cons (pv 0) (pa_cons pe_int pa_nil))) pa_nil)) (by rfl))
      (Evl.pss_cut (ps_if (pt_cmpR (op_eqD hr.units) (pv 2) (pe_lst pa_nil) (nomark _))
        (pss_one (ps_set (i := 2) nd rfl (Or.inl rfl) (pe_ix ix_list (pe_lst (pa_cons (pe_lst (pa_cons pe_int pa_nil)) (pa_cons (pe_lst (pa_cons (pe_un un_neg pe_int) pa_nil)) (pa_cons (pe_lst (pa_cons pe_int (pa_cons pe_int pa_nil))) (pa_cons (pe_lst (pa_cons pe_int (pa_cons pe_int (pa_cons (pe_un un_neg pe_int) pa_nil)))) pa_nil)))))
          (pe_c c.coin r1 (pa_cons (pv 0) (pa_cons pe_int pa_nil))) (fun _ _ => rfl)))) pss_nil)
      (pss_cons (ps_set (i := 3) nd rfl (Or.inl rfl) (pe_callB (call_show hg hr.units) (by rfl) c.rep (by decide +kernel) (pa_cons (pe_lst (pa_cons (pv 1) (pa_cons (pv 2) pa_nil))) pa_nil)))
      (pss_cons (ps_set (i := 4) nd rfl (Or.inl rfl) (pe_c c.left r4 (pa_cons (pv 1) (pa_cons (pv 2) pa_nil))))
      (pss_cons (ps_if (PW.pt (pw_or (pt_not (pt_val (pe_cg c.right hg r4 (pa_cons (pe_c c.rest r4 (pa_cons (pv 1) (pa_cons (pv 2) pa_nil))) (pa_cons (pv 4) pa_nil)))))
          (pw_or1 (pt_not (pt_val (pe_cg c.right hg r4 (pa_cons (pe_ck c.restS r4 (pk_cons (pv 2) (pk_cons (pv 1) pk_nil))) (pa_cons (pv 4) pa_nil)))))))) (pss_one (ps_ret pe_bl)) pss_nil)
      (pss_cons (ps_if (PW.pt (pw_or (pt_cmpR op_ne (pe_callB (call_show hg hr.units) (by rfl) c.rep (by decide +kernel) (pa_cons (pe_lst (pa_cons (pv 1) (pa_cons (pv 2) pa_nil))) pa_nil)) (pv 3) (nomark _))
          (pw_or (pt_cmpR (op_neD hr.units) (pe_c c.rest r4 (pa_cons (pe_lst pa_nil) (pa_cons (pv 2) pa_nil))) (pe_lst pa_nil) (nomark _))
          (pw_or1 (pt_cmpR (op_neD hr.units) (pe_c c.rest r4 (pa_cons (pv 2) (pa_cons (pv 2) pa_nil))) (pe_lst pa_nil) (nomark _)))))) (pss_one (ps_ret pe_bl)) pss_nil)
      (pss_cons (ps_if (PW.pt (pw_or (pt_not (pt_val (pe_cg c.right hg r4 (pa_cons (pe_c c.rest r4 (pa_cons (pv 1) (pa_cons (pv 2) pa_nil))) (pa_cons (pv 4) pa_nil)))))
          (pw_or1 (pt_cmpR op_ne (pe_callB (call_show hg hr.units) (by rfl) c.rep (by decide +kernel) (pa_cons (pe_lst (pa_cons (pv 1) (pa_cons (pv 2) pa_nil))) pa_nil)) (pv 3) (nomark _))))) (pss_one (ps_ret pe_bl)) pss_nil)
      (pss_cons (ps_set (i := 2) nd rfl (Or.inl rfl) (pe_c c.small r2 (pa_cons (pv 0) (pa_cons (pe_op op_add pe_int (pe_c c.coin r1 (pa_cons (pv 0) (pa_cons pe_int pa_nil)))) pa_nil))))
      (pss_cons (ps_set (i := 5) nd rfl (Or.inl rfl) (pe_c c.small r2 (pa_cons (pv 0) (pa_cons (pe_op op_add pe_int (pe_c c.coin r1 (pa_cons (pv 0) (pa_cons pe_int pa_nil)))) pa_nil))))
      (pss_cons (ps_setLc (i := 6) (own := [("turn", 8)]) (g := gName 8) (tt := tYes) (te := tOp (rI0 fun i j => .int (i - j)) (tCall spCoin [] E0 (tCons (tVar 0) (tCons (tC (.int 25)) tNil))) (tC (.int 12))) rfl nd rfl rfl (sw_true rfl rfl rfl (by decide +kernel))
          (pi_range1 (by rfl) c.rng (pa_cons (pe_c c.coin r1 (pa_cons (pv 0) (pa_cons (pe_callB call_len_seq (by rfl) c.len PySem.boot_len (pa_cons (pv 2) pa_nil)) pa_nil))) pa_nil)) (blkOk_by (N := n_l_checked) (sc := defScope s_l_checked) (by decide +kernel)) (fun _ _ _ _ _ => pg_name (i := 8) nd rfl (Or.inl rfl)) (fun _ _ _ _ _ => pts_nil)
          (fun _ _ _ _ _ => pe_op op_sub (pe_c c.coin r1 (pa_cons (pv 0) (pa_cons pe_int pa_nil))) pe_int))
      (pss_cons (ps_set (i := 6) nd rfl (Or.inl rfl) (pe_c c.trim r1 (pa_cons (pv 6) pa_nil)))
      (pss_cons (ps_set (i := 7) nd rfl (Or.inl rfl) (pe_c c.sum r2 (pa_cons (pe_c c.prod r2 (pa_cons (pv 2) (pa_cons (pv 5) pa_nil))) (pa_cons (pv 6) pa_nil))))
      (pss_cons (ps_if (pt_not (pt_val (pe_cg c.right hg r4 (pa_cons (pe_c c.rest r4 (pa_cons (pv 7) (pa_cons (pv 2) pa_nil))) (pa_cons (pe_c c.thin r2 (pa_cons (pv 6) pa_nil)) pa_nil))))) (pss_one (ps_ret pe_bl)) pss_nil)
      (pss_one (ps_ret (pe_and (pe_cmpR (op_eqD hr.units) (pe_c c.rest r4 (pa_cons (pe_c c.prod r2 (pa_cons (pv 2) (pa_cons (pv 5) pa_nil))) (pa_cons (pv 2) pa_nil))) (pe_lst pa_nil) (nomark _))
          (pe_one (pe_cmpR (op_eqD hr.units) (pe_c c.rest r4 (pa_cons (pv 6) (pa_cons (pv 2) pa_nil))) (pe_c c.thin r2 (pa_cons (pv 6) pa_nil)) (nomark _)))))))))))))))))), ?_⟩
    have one : 1 ≤ sizeLine := by show 1 ≤ sizeLine; decide
    have two : 2 ≤ sizeLine := by show 2 ≤ sizeLine; decide
    have three : 3 ≤ sizeLine := by show 3 ≤ sizeLine; decide
    have four : 4 ≤ sizeLine := by show 4 ≤ sizeLine; decide
    refine ⟨_, rfl, p, m, rfl, hS, by omega, fun l ls H1 b1 s1 nl h1 p1 => ?_⟩
    refine ⟨_, rfl, p, m + 20, rfl, s1, by omega, fun r rs H2 b2 s2 nr h2 p2 => ⟨_, _, rfl, ?_⟩⟩
    have lp := sk_ne hS nl
    have rp := sk_ne s1 nr
    have M2 : Mq H H2 p l r ls rs (m + 40) := ⟨b1.trans b2, s2, ⟨lp, b2 _ _ lp h1⟩, ⟨rp, h2⟩⟩
    clear b1 b2 s1 s2 h1 h2 nl nr
    refine ⟨fun σ H' => ∃ r rs, σ = [some (.ref p), some (.ref l), some (.ref r), none, none, none, none, none, none] ∧ Mq H H' p l r ls rs (m + 41) ∧ Sp6 rs ∧ rs ≠ [], ?_, ?_⟩
    · refine ⟨_, rfl, Nat.zero_le _, fun z hz => ?_⟩
      have ez : Evl.Ex H2 (upd H2 z (.lst [])) := Evl.Ex.new hz
      refine ⟨.list (rs.map .int), .list [], .lst (SqL.of (ez _ _ M2.r.li)) (dpI rs), .lst (SqL.of upd_same) .nil, shaped_ints rs, rfl, _, rfl, ?_⟩
      have M3 := M2.ex ez
      by_cases r0 : rs = []
      · refine if_t (by rw [r0]; simp [PyData.eqv, PyData.eqvAll]) ?_
        refine ⟨one, fun z1 hz1 => ⟨_, rfl, one, fun z2 hz2 => ⟨two, fun z3 hz3 => ⟨_, rfl, three, fun z4 hz4 => ⟨four, fun z5 hz5 => ?_⟩⟩⟩⟩⟩
        have e1 := Evl.Ex.new (o := .lst [.int 1]) hz1
        have e2 := Evl.Ex.new (o := .lst [.int (-3)]) hz2
        have e3 := Evl.Ex.new (o := .lst [.int 0, .int 2]) hz3
        have e4 := Evl.Ex.new (o := .lst [.int 5, .int 0, .int (-1)]) hz4
        have e5 := Evl.Ex.new (o := .lst [.ref z1, .ref z2, .ref z3, .ref z4]) hz5
        have M4 := M3.ex ((((e1.trans e2).trans e3).trans e4).trans e5)
        have k1 : Rt _ p z1 [1] := ⟨sk_ne M3.sk hz1, (((e2.trans e3).trans e4).trans e5) _ _ upd_same⟩
        have k2 : Rt _ p z2 [-3] := ⟨sk_ne (M3.ex e1).sk hz2, ((e3.trans e4).trans e5) _ _ upd_same⟩
        have k3 : Rt _ p z3 [0, 2] := ⟨sk_ne (M3.ex (e1.trans e2)).sk hz3, (e4.trans e5) _ _ upd_same⟩
        have k4 : Rt _ p z4 [5, 0, -1] := ⟨sk_ne (M3.ex ((e1.trans e2).trans e3)).sk hz4, e5 _ _ upd_same⟩
        have n5 : z5 ≠ p := sk_ne (M3.ex (((e1.trans e2).trans e3).trans e4)).sk hz5
        refine ⟨_, rfl, p, 4, m + 40, rfl, M4.sk, by omega, by decide, by decide, fun y H7 y0 y1 b7 s7 z7 => ?_⟩
        have sq : SqL K H7 z5 [.ref z1, .ref z2, .ref z3, .ref z4] := SqL.of (b7 _ _ n5 upd_same)
        have bt := M4.but.trans b7
        have lt := M4.l.go b7
        rcases at4v (a := .ref z1) (b := .ref z2) (c := .ref z3) (d := .ref z4) y0 y1 with q | q | q | q
        · exact ⟨z5, _, _, _, rfl, rfl, sq, q, z1, [1], rfl, ⟨bt, s7, lt, k1.go b7⟩, ⟨fun x hx => by cases hx; decide, by decide, by decide⟩, by decide⟩
        · exact ⟨z5, _, _, _, rfl, rfl, sq, q, z2, [-3], rfl, ⟨bt, s7, lt, k2.go b7⟩, ⟨fun x hx => by cases hx; decide, by decide, by decide⟩, by decide⟩
        · exact ⟨z5, _, _, _, rfl, rfl, sq, q, z3, [0, 2], rfl, ⟨bt, s7, lt, k3.go b7⟩, ⟨fun x hx => by cases hx; decide, by decide, by decide⟩, by decide⟩
        · exact ⟨z5, _, _, _, rfl, rfl, sq, q, z4, [5, 0, -1], rfl, ⟨bt, s7, lt, k4.go b7⟩, ⟨fun x hx => by cases hx; decide, by decide, by decide⟩, by decide⟩
      · refine if_f (by cases rs with | nil => exact absurd rfl r0 | cons n r => simp [PyData.eqv, PyData.eqvAll]) ?_
        exact ⟨r, rs, rfl, M3.le (by omega), p2, r0⟩
    clear M2 p2 rp
    rintro σ H3 ⟨r, rs, rfl, M3, p2, r0⟩
    refine ⟨_, rfl, _, rfl, two, fun q hq => ?_⟩
    obtain ⟨g1, g2, g3, g4, g5⟩ := show2 (K := K) hq M3.l.li M3.r.li p1.lok p2.lok
    refine ⟨q, _, rfl, g1, g2, g3, g4, g5, ?_⟩
    clear g1
    have M4 := M3.ex (Evl.Ex.new (o := .lst [.ref l, .ref r]) hq)
    generalize upd H3 q (.lst [.ref l, .ref r]) = H4 at M4
    generalize hkp : (treeD [(true, l, ls), (true, r, rs)]).shown = kp
    refine ⟨_, rfl, _, rfl, l, r, ls, rs, rfl, M4.l.li, M4.r.li, p1, p2, r0, fun L0 hL0 bL0 d H5 hd e5 h5 => ?_⟩
    have M5 := M4.ex e5
    have D5 : Li H5 d (prim L0) := h5
    have dl : (prim L0).length ≤ 16 := by
      rw [prim_len]
      have := hL0.2.1
      have := p2.2.1
      omega
    have db : ∀ y ∈ prim L0, y.natAbs < 2 ^ 300 := more (prim_bd bL0) (by decide)
    clear M3 M4 hq hd h5 e5
    -- the first two comparisons
    refine ⟨_, rfl, _, rfl, l, r, ls, rs, rfl, M5.l.li, M5.r.li, p1, p2, r0, fun L1 hL1 bL1 q1 H6 hq1 e6 h6 => ?_⟩
    rw [hL1.uniq p2.1 hL0] at h6
    refine ⟨_, rfl, q1, d, prim L0, rfl, h6, e6 _ _ D5, (ne_of_none D5 hq1).symm, dl, db, fun H7 o7 => ⟨true, rfl, if_f rfl ?_⟩⟩
    have e57 := ex_but2 hq1 e6 o7
    have M7 := M5.ex e57
    have D7 : Li H7 d (prim L0) := e57 _ _ D5
    clear M5 D5 e57 o7 h6 e6 hq1
    refine ⟨_, rfl, _, rfl, rfl, l, r, ls, rs, rfl, M7.l.li, M7.r.li, p1, p2, r0, fun L2 hL2 bL2 q2 H8 hq2 e8 h8 => ?_⟩
    rw [hL2.uniq p2.1 hL0] at h8
    refine ⟨_, rfl, q2, d, prim L0, rfl, h8, e8 _ _ D7, (ne_of_none D7 hq2).symm, dl, db, fun H9 o9 => ⟨true, rfl, if_f rfl ?_⟩⟩
    have e79 := ex_but2 hq2 e8 o9
    have M9 := M7.ex e79
    have D9 : Li H9 d (prim L0) := e79 _ _ D7
    clear M7 D7 e79 o9 h8 e8 hq2
    have nil0 : ∀ {L : List Int}, prim L = [] → PyData.eqv (.list ((prim L).map .int)) (.list []) = true := fun h => by rw [h]; simp [PyData.eqv, PyData.eqvAll]
    -- kept, 0 and itself
    refine ⟨_, rfl, _, rfl, two, fun z hz => ?_⟩
    obtain ⟨a1, a2, a3, a4, a5⟩ := show2 (K := K) hz M9.l.li M9.r.li p1.lok p2.lok
    refine ⟨z, _, rfl, a1, a2, a3, a4, a5, _, rfl, rfl, _, rfl, if_f (by rw [hkp]; simp) ?_⟩
    clear a1
    have ez := Evl.Ex.new (o := .lst [.ref l, .ref r]) hz
    have M10 := M9.ex ez
    have D10 := ez _ _ D9
    clear M9 D9
    refine ⟨Nat.zero_le _, fun z1 hz1 => ⟨_, rfl, z1, r, [], rs, rfl, upd_same, Evl.Ex.new hz1 _ _ M10.r.li, sp6_nil, p2, r0, fun L3 hL3 bL3 q3 H11 hq3 e11 h11 => ?_⟩⟩
    have e10 := (Evl.Ex.new (o := .lst []) hz1).trans e11
    have M11 := M10.ex e10
    have D11 := e10 _ _ D10
    have n3 : prim L3 = [] := prim_none p2.1 hL3 (rm_short pol_nil (List.length_pos_iff.mpr r0))
    clear M10 D10 e10 e11
    refine ⟨Nat.zero_le _, fun z2 hz2 => ?_⟩
    have e12 := Evl.Ex.new (o := .lst []) hz2
    refine ⟨.list ((prim L3).map .int), .list [], .lst (SqL.of (e12 _ _ h11)) (dpI _), .lst (SqL.of upd_same) .nil, shaped_ints _, rfl, _, rfl, if_f (by rw [nil0 n3]; rfl) ?_⟩
    have M12 := M11.ex e12
    have D12 := e12 _ _ D11
    clear M11 D11 h11 e12
    refine ⟨_, rfl, _, rfl, r, r, rs, rs, rfl, M12.r.li, M12.r.li, p2, p2, r0, fun L4 hL4 bL4 q4 H13 hq4 e13 h13 => ?_⟩
    have n4 : prim L4 = [] := prim_none p2.1 hL4 (rm_self r0)
    have M13 := M12.ex e13
    have D13 := e13 _ _ D12
    clear M12 D12
    refine ⟨Nat.zero_le _, fun z3 hz3 => ?_⟩
    have e14 := Evl.Ex.new (o := .lst []) hz3
    refine ⟨.list ((prim L4).map .int), .list [], .lst (SqL.of (e14 _ _ h13)) (dpI _), .lst (SqL.of upd_same) .nil, shaped_ints _, rfl, _, rfl, if_f (by rw [nil0 n4]; rfl) ?_⟩
    have M14 := M13.ex e14
    have D14 := e14 _ _ D13
    clear M13 D13 h13 e14
    -- once more
    refine ⟨_, rfl, _, rfl, l, r, ls, rs, rfl, M14.l.li, M14.r.li, p1, p2, r0, fun L5 hL5 bL5 q5 H15 hq5 e15 h15 => ?_⟩
    rw [hL5.uniq p2.1 hL0] at h15
    refine ⟨_, rfl, q5, d, prim L0, rfl, h15, e15 _ _ D14, (ne_of_none D14 hq5).symm, dl, db, fun H16 o16 => ⟨true, rfl, if_f rfl ?_⟩⟩
    have M16 := M14.ex (ex_but2 hq5 e15 o16)
    clear M14 D14 h15 e15 o16 hq5
    refine ⟨_, rfl, _, rfl, two, fun z4 hz4 => ?_⟩
    obtain ⟨a1, a2, a3, a4, a5⟩ := show2 (K := K) hz4 M16.l.li M16.r.li p1.lok p2.lok
    refine ⟨z4, _, rfl, a1, a2, a3, a4, a5, _, rfl, rfl, _, rfl, if_f (by rw [hkp]; simp) ?_⟩
    clear a1
    have M17 := M16.ex (Evl.Ex.new (o := .lst [.ref l, .ref r]) hz4)
    generalize upd H16 z4 (.lst [.ref l, .ref r]) = H17 at M17
    obtain ⟨bt17, s17, _, _⟩ := M17
    clear M16 hz4 hkp hL0 bL0 dl db hL1 hL2 hL3 hL4 hL5 bL1 bL2 bL3 bL4 bL5 n3 n4
    clear p2 r0
    -- right, front
    refine ⟨_, rfl, _, rfl, p, 4, m + 41, rfl, s17, by omega, by decide, by decide, fun y H18 y0 y1 b18 s18 z18 => ?_⟩
    obtain ⟨y, rfl⟩ : ∃ n : Nat, y = (n : Int) := ⟨y.toNat, by omega⟩
    refine ⟨1, (y : Int), rfl, rfl, p, 1 + y, m + 42, ?_, by omega, by omega, s18, by omega, fun rq us H19 b19 s19 nrq hu pu lu bu => ?_⟩
    · show [V.ref p, V.int ((1 : Int) + (y : Int))] = _
      rw [show (1 : Int) + (y : Int) = ((1 + y : Nat) : Int) by omega]
    have rqp := sk_ne s18 nrq
    have R19 : Rt H19 p rq us := ⟨rqp, hu⟩
    have bt19 := (bt17.trans b18).trans b19
    clear s18 b18 b19 z18 hu nrq
    refine ⟨_, rfl, _, rfl, p, 4, m + 62, rfl, s19, by omega, by decide, by decide, fun x H20 x0 x1 b20 s20 z20 => ?_⟩
    obtain ⟨x, rfl⟩ : ∃ n : Nat, x = (n : Int) := ⟨x.toNat, by omega⟩
    refine ⟨1, (x : Int), rfl, rfl, p, 1 + x, m + 63, ?_, by omega, by omega, s20, by omega, fun fq fs H21 b21 s21 nfq hf pf lf bf => ?_⟩
    · show [V.ref p, V.int ((1 : Int) + (x : Int))] = _
      rw [show (1 : Int) + (x : Int) = ((1 + x : Nat) : Int) by omega]
    have F21 : Rt H21 p fq fs := ⟨sk_ne s20 nfq, hf⟩
    have R21 := (R19.go b20).go b21
    have bt21 := (bt19.trans b20).trans b21
    clear s20 b20 b21 z20 hf nfq R19 bt19 bt17 s17 s19
    -- short
    refine ⟨_, rfl, _, rfl, rq, _, rfl, .inl (SqL.of R21.li), p, _, m + 83, rfl, s21, by omega, by rw [iV_len]; omega, by rw [iV_len, Int.natAbs_natCast]; exact Nat.lt_of_le_of_lt (show us.length ≤ 4 by omega) (by decide), fun c0 H22 c1 c2 b22 s22 z22 => ?_⟩
    rw [iV_len] at c2
    obtain ⟨n, rfl⟩ : ∃ n : Nat, c0 = (n : Int) := ⟨c0.toNat, by omega⟩
    have R22 := R21.go b22
    have F22 := F21.go b22
    have bt22 := bt21.trans b22
    refine ⟨(n : Int), rfl, by omega, by omega, fun D hD => ?_⟩
    rw [Int.toNat_natCast]
    have nDp := sk_ne s22 hD
    refine lc_range (n := n) (fun i H' => But p H22 H' ∧ Sk H' p (m + 84 + i) ∧ ∃ ns : List Int, H' D = some (.lst (iV ns)) ∧ ns.length = i ∧ ∀ x ∈ ns, -12 ≤ x ∧ x ≤ 12)
      ⟨But.of_ex (Evl.Ex.new hD), s22.ex (Evl.Ex.new hD), [], upd_same, rfl, (by intro x hx; cases hx)⟩ ?_ ?_
    · rintro i H' hi ⟨b3, s3, ns, h3, h4, h5⟩
      refine ⟨rfl, ?_⟩
      show tOp (rI0 fun i j => .int (i - j)) (tCall spCoin [] E0 (tCons (tVar 0) (tCons (tC (.int 25)) tNil))) (tC (.int 12)) _ _ _
      refine ⟨_, rfl, p, 25, m + 84 + i, rfl, s3, by omega, by decide, by decide, fun y H3 y0 y1 b4 s4 z4 => ?_⟩
      refine ⟨_, _, rfl, rfl, _, b4 D _ nDp h3, ?_, ?_, ?_, ns ++ [y - 12], ?_, ?_, ?_⟩
      · rw [iV_len, h4]; exact Nat.lt_of_lt_of_le (show i < 100 by omega) (by decide)
      · intro b o hb h
        rw [upd_ne (ne_of_none h hD)]
        exact (b3.trans b4) b o hb h
      · obtain ⟨a', b', c', q1, q2⟩ := s4
        exact ⟨a', b', c', by rw [upd_ne nDp.symm]; exact q1, q2.1, q2.2.1, q2.2.2.1, q2.2.2.2.1, by have := q2.2.2.2.2; omega⟩
      · rw [upd_same]; unfold iV; rw [List.map_append]; rfl
      · rw [List.length_append, h4]; rfl
      · intro x hx
        rcases (List.mem_append.mp hx) with hx | hx
        · exact h5 x hx
        · obtain rfl := List.mem_singleton.mp hx
          omega
    rintro H23 ⟨b23, s23, ns, h23, l23, v23⟩
    have R23 := R22.go b23
    have F23 := F22.go b23
    have bt23 := bt22.trans b23
    refine ⟨_, rfl, D, ns, rfl, SqL.of h23, by omega, fun sq H24 hsq e24 h24 => ?_⟩
    have S24 : Li H24 sq (trm ns) := h24
    have ps := pol_trm ns
    have lss : (trm ns).length < us.length := by have := trm_len ns; omega
    have bss : ∀ x ∈ trm ns, -12 ≤ x ∧ x ≤ 12 := fun x hx => v23 x (trm_mem hx)
    generalize trm ns = ss at S24 ps lss bss
    have R24 := (R23.ex e24).li
    have F24 := (F23.ex e24).li
    have s24 := s23.ex e24
    have bt24 := bt23.trans (But.of_ex e24)
    have u0 : us ≠ [] := List.ne_nil_of_length_pos (by omega)
    have U6 : Sp6 us := sp6_of (B := 12) pu (by omega) (by decide) bu
    have G6 : Sp6 fs := sp6_of (B := 12) pf (by omega) (by decide) bf
    have S6 : Sp6 ss := sp6_of (B := 12) ps (by omega) (by decide) bss
    obtain ⟨pl, pb⟩ := prod_small (rs := us) (fs := fs) (by omega) (by omega) bu bf
    have P6 : Sp6 (trm (pmul us fs)) := sp6_of (B := 600) (pol_trm _) pl (by decide) pb
    have W6 := whole_small pl (by omega) pb bss
    clear bt21 bt22 bt23 s21 s22 s23 R21 R22 R23 F21 F22 F23 h23 h24 e24
    refine ⟨_, rfl, _, rfl, rq, fq, us, fs, rfl, R24, F24, U6.pn, G6.pn, fun pq H25 hpq e25 h25 => ?_⟩
    have h25 : Li H25 pq (trm (pmul us fs)) := h25
    refine ⟨_, rfl, pq, sq, _, ss, rfl, h25, e25 _ _ S24, P6.pn, S6.pn, fun wq H26 hwq e26 h26 => ?_⟩
    have h26 : Li H26 wq (trm (padd (trm (pmul us fs)) ss)) := h26
    have e246 := e25.trans e26
    have R26 : Li H26 rq us := e246 _ _ R24
    have F26 : Li H26 fq fs := e246 _ _ F24
    have S26 : Li H26 sq ss := e246 _ _ S24
    have s26 := s24.ex e246
    have bt26 := bt24.trans (But.of_ex e246)
    clear R24 F24 S24 s24 bt24 e25 e26 e246 h25 hpq
    -- rest(whole, right)
    have sb : ∀ x ∈ ss, x.natAbs < 2 ^ 190 := fun x hx => big (S6.b20 x hx) (by decide)
    have thb : ∀ x ∈ ss, x.natAbs < 2 ^ 9000 := fun x hx => by
      have := bss x hx
      exact Nat.lt_of_le_of_lt (show x.natAbs ≤ 12 by omega) (Nat.lt_of_lt_of_le (show 12 < 2 ^ 4 by decide) (Nat.pow_le_pow_right (by decide) (by decide)))
    have pbd : ∀ y ∈ prim ss, y.natAbs < 2 ^ 300 := more (prim_bd sb) (by decide)
    refine ⟨_, rfl, _, rfl, wq, rq, _, us, rfl, h26, R26, W6, U6, u0, fun L6 hL6 bL6 q6 H27 hq6 e27 h27 => ?_⟩
    rw [hL6.uniq U6.1 (rm_whole ps lss)] at h27
    refine ⟨_, rfl, sq, ss, rfl, e27 _ _ S26, by omega, thb, ps, fun d6 H28 hd6 e28 h28 => ?_⟩
    have n68 : q6 ≠ d6 := ne_of_none h27 hd6
    refine ⟨q6, d6, prim ss, rfl, e28 _ _ h27, h28, n68, by rw [prim_len]; omega, pbd, fun H29 o29 => ⟨true, rfl, if_f rfl ?_⟩⟩
    have e29 := ex_but2 hq6 (e27.trans e28) o29
    have R29 : Li H29 rq us := e29 _ _ R26
    have F29 : Li H29 fq fs := e29 _ _ F26
    have S29 : Li H29 sq ss := e29 _ _ S26
    have s29 := s26.ex e29
    have bt29 := bt26.trans (But.of_ex e29)
    clear R26 F26 S26 s26 bt26 e27 e28 e29 h27 h28 h26 hL6 bL6 hq6 hd6 o29
    -- the end
    refine ⟨_, rfl, _, rfl, rq, fq, us, fs, rfl, R29, F29, U6.pn, G6.pn, fun pq2 H30 hpq2 e30 h30 => ?_⟩
    refine ⟨_, rfl, pq2, rq, _, us, rfl, h30, e30 _ _ R29, P6, U6, u0, fun L7 hL7 bL7 q7 H31 hq7 e31 h31 => ?_⟩
    have n7 : prim L7 = [] := prim_none U6.1 hL7 (rm_prod u0)
    refine ⟨Nat.zero_le _, fun z7 hz7 => ?_⟩
    have e32 := Evl.Ex.new (o := .lst []) hz7
    refine ⟨.list ((prim L7).map .int), .list [], .lst (SqL.of (e32 _ _ h31)) (dpI _), .lst (SqL.of upd_same) .nil, shaped_ints _, rfl, _, rfl, if_t (nil0 n7) ?_⟩
    have e33 := (e30.trans e31).trans e32
    refine ⟨_, rfl, _, rfl, sq, rq, ss, us, rfl, e33 _ _ S29, e33 _ _ R29, S6, U6, u0, fun L8 hL8 bL8 q8 H34 hq8 e34 h34 => ?_⟩
    rw [hL8.uniq U6.1 (rm_short ps lss)] at h34
    have e35 := e33.trans e34
    refine ⟨_, rfl, sq, ss, rfl, e35 _ _ S29, by omega, thb, ps, fun d8 H36 hd8 e36 h36 => ?_⟩
    refine ⟨.list ((prim ss).map .int), .list ((prim ss).map .int), .lst (SqL.of (e36 _ _ h34)) (dpI _), .lst (SqL.of h36) (dpI _), shaped_ints _, shaped_ints _, ?_⟩
    have e37 := e35.trans e36
    have ev : PyData.eqv (.list ((prim ss).map .int)) (.list ((prim ss).map .int)) = true := by
      simp only [PyData.eqv]
      exact eqv_ints _
    rw [ev]
    exact k H36 (bt29.trans (But.of_ex e37)) ((s29.ex e37).le (by omega))
end
end V2


namespace V2
open PySem L2
open PySem.Spec PyProof.Rows
theorem sq_ex_but {K : PySem.W.Frag} {H H1 H2 : Hp} {a q : Addr} {xs : List V} (h : SqL K H a xs) (hq : H q = none) (e : Evl.Ex H H1) (b : But q H1 H2) : SqL K H2 a xs := by
  rcases h with h | h
  · left
    have go : ∀ o, H a = some o → H2 a = some o := fun o ho => b a o (ne_of_none ho hq) (e a o ho)
    rcases h with h | ⟨o, h⟩
    · exact .inl (go _ h)
    · exact .inr ⟨o, go _ h⟩
  · exact .inr h
def spLaw (K : PySem.W.Frag) : Sp := fun vs H Q _ => ∃ (a : Addr) (ns : List Int), vs = [.ref a] ∧ SqL K H a (iV ns) ∧ ns.length ≤ 63 ∧ ∀ H', Q (.bl true) H'
structure T6 (mg : Str → Option Value) : Prop where
  rng : mg "range" = none
  len : mg "len" = none
  max : mg "max" = none
  min : mg "min" = none
section
variable {base : Heap} {mg : Str → Option Value} {K : PySem.W.Frag} {w : World} {P : Program}
theorem ok_law {f : Addr} {fd : FuncData} (F : Fun K "law" "law" s_law f fd) (T : T6 mg) (cS : Cal P w K mg base 1 "_law_pv_sack" p_l_sack (spSack K)) (cK : CalG P w K mg base 6 "_law_pv_checked" p_l_checked spChecked) : FnG P w K mg base 7 f fd p_law (spLaw K) := by
  refine Fun.okG F sc_law (fun vs H Q E h => ?_) (fun cdv A outer s H vs Q E hg hr h => ?_)
  · obtain ⟨a, ns, rfl, _⟩ := h
    rfl
  · obtain ⟨a, ns, rfl, hS, hl, k⟩ := h
    have nd := sc_law.nd
    have r1 : Room 1 _ := hr.mono (by decide)
    refine ⟨_, pss_cons (ps_for PassesOwn.never rfl (pi_range1 (by rfl) T.rng (pa_cons (pe_callB (call_max2 rfl) (by rfl) T.max (by decide +kernel) (pa_cons pe_int (pa_cons (pe_callB (call_min2 rfl) (by rfl) T.min (by decide +kernel) (pa_cons pe_int (pa_cons (pe_callB call_len_seq (by rfl) T.len PySem.boot_len (pa_cons (pv 0) pa_nil)) pa_nil))) pa_nil))) pa_nil)) (pg_name (i := 1) nd rfl (Or.inl rfl))
        (pss_cons (ps_set (i := 2) nd rfl (Or.inl rfl) (pe_c cS r1 (pa_cons (pv 0) (pa_cons (pv 1) pa_nil))))
        (pss_one (ps_for PassesOwn.never rfl (pi_range1 (by rfl) T.rng (pa_cons pe_int pa_nil)) (pg_name (i := 3) nd rfl (Or.inl rfl))
          (pss_one (ps_if (pt_not (pt_val (pe_cg cK hg hr (pa_cons (pv 2) pa_nil)))) (pss_one (ps_ret pe_bl)) pss_nil))))))
      (pss_one (ps_ret pe_bl)), ?_⟩
    refine ⟨_, rfl, a, _, rfl, .inl hS, _, _, rfl, _, _, rfl, _, rfl, ?_, ?_, ?_⟩
    · split <;> split <;> omega
    · split <;> split <;> omega
    have hb : (if (if ((iV ns).length : Int) < 5 then ((iV ns).length : Int) else 5) > 1 then (if ((iV ns).length : Int) < 5 then ((iV ns).length : Int) else 5) else 1 : Int) ≤ 5 := by split <;> split <;> omega
    generalize (if (if ((iV ns).length : Int) < 5 then ((iV ns).length : Int) else 5) > 1 then (if ((iV ns).length : Int) < 5 then ((iV ns).length : Int) else 5) else 1 : Int) = n at hb
    refine for_range (n := n.toNat) (fun i σ H' => ∃ v1 v2 v3, σ = [some (.ref a), v1, v2, v3] ∧ SqL K H' a (iV ns)) ⟨none, none, none, rfl, hS⟩ ?_ ?_
    · rintro i σ H1 hi ⟨v1, v2, v3, rfl, hS1⟩
      refine ⟨_, rfl, _, rfl, a, ns, i, ?_, hS1, hl, by omega, fun q H2 hq e2 h2 => ?_⟩
      · rw [Int.zero_add]
        rfl
      refine ⟨2, rfl, by decide, by decide, for_range (n := 2) (fun j σ H' => ∃ v3, σ = [some (.ref a), some (.int (0 + (i : Int))), some (.ref q), v3] ∧ But q H2 H' ∧ Sk H' q (j * 100)) ⟨v3, rfl, But.refl _ _, h2⟩ ?_ ?_⟩
      · rintro j σ H3 hj ⟨v3, rfl, b3, s3⟩
        refine ⟨_, rfl, q, j * 100, rfl, s3, by omega, fun H4 b4 s4 => ⟨true, rfl, if_f rfl ⟨_, rfl, b3.trans b4, ?_⟩⟩⟩
        rw [Nat.succ_mul]
        exact s4
      · rintro σ H3 ⟨v3, rfl, b3, s3⟩
        exact ⟨_, _, _, rfl, sq_ex_but hS1 hq e2 b3⟩
    · rintro σ H1 ⟨v1, v2, v3, rfl, hS1⟩
      exact k H1
end
end V2


namespace V2
open PySem L2
open PySem.Spec PyProof.Rows
/-! ## what the top has left -/
def Lay (K : PySem.W.Frag) (mg : Str → Option Value) (x : Str) (st : Stmt) (ps : List Str) : Prop := ∃ (f : Addr) (fd : FuncData), Fun K x x st f fd ∧ mg x = some (.ref f) ∧ PySem.W.keepIn K (.ref f) = true ∧ Binds K fd ps []
theorem lay_mk {K : PySem.W.Frag} {h : Heap} {mg : Str → Option Value} {x : Str} {st : Stmt} {ps : List Str} {f : Addr} {od an : Option Addr} {sl : Array (Option Value)} {oc kV dc pm cd ct : Value} (X : K.In h) (G : h.Ns mainGlobals mg)
    (a : PySem.W.nsIn K mainGlobals x = some (some (.ref f))) (l : K.lookup f = some ⟨oc, od, .func (PySem.W.fnOf x x (defArgs st) (defBody st) (defScope st) .none kV dc pm an cd ct), sl⟩) (c : PySem.W.codeIn K cd x = true) (k : PySem.W.keepIn K (.ref f) = true)
    (hb : ∀ (kV doc pm : Value) (an : Option Addr) (cdv ct : Value) (us : List Value), us.length = ps.length → bindArgs (PySem.W.fnOf x x (defArgs st) (defBody st) (defScope st) .none kV doc pm an cdv ct) ⟨us, []⟩ = pure (ps.zip us)) : Lay K mg x st ps :=
  ⟨f, _, fun_mk l c k, PySem.W.mg_of X G a, k, Fun.binds (fun_mk l c k) hb⟩
def swU : List Value → List Value
  | [a, b] => [b, a]
  | z => z
theorem swp_rel : ∀ {zs : List V} {ws : List Value}, Vals zs ws → Vals (swp zs) (swU ws)
  | _, _, .nil => .nil
  | _, _, .cons a .nil => .cons a .nil
  | _, _, .cons a (.cons b .nil) => .cons b (.cons a .nil)
  | _, _, .cons a (.cons b (.cons c r)) => .cons a (.cons b (.cons c r))
section
variable {base : Heap} {mg : Str → Option Value} {K : PySem.W.Frag} {w : World} {P : Program}
theorem kb_restS {f : Addr} {fd : FuncData} (F : Fun K "rest" "rest" s_rest f fd) : KBn K fd p_rest 0 ["other", "one"] (fun _ ws => swU ws) (fun _ zs => swp zs) := by
  obtain ⟨ow, oe, kw, dc, pn, am, cdv, cu, sl, rfl, lk, hcd⟩ := F.ex
  exact ⟨fun s us ws X l1 l2 => match us, ws, l1, l2 with | [], [_, _], _, _ => .of_eq rfl, fun _ r => swp_rel r⟩
theorem Lay.cal {x : Str} {st : Stmt} {ps : List Str} {k : Nat} {sp : Sp} (L : Lay K mg x st ps) (h : ∀ f fd, Fun K x x st f fd → FnOk P w K mg base CX0 k f fd ps sp) : Cal P w K mg base k x ps sp := by
  obtain ⟨f, fd, F, m, kp, b⟩ := L
  exact ⟨f, fd, h f fd F, m, kp, b⟩
theorem Lay.calG {x : Str} {st : Stmt} {ps : List Str} {k : Nat} {sp : Sp} (L : Lay K mg x st ps) (h : ∀ f fd, Fun K x x st f fd → FnG P w K mg base k f fd ps sp) : CalG P w K mg base k x ps sp := by
  obtain ⟨f, fd, F, m, kp, b⟩ := L
  exact ⟨f, fd, h f fd F, m, kp, b⟩
theorem Lay.calK {x : Str} {st : Stmt} {ps ks : List Str} {k : Nat} {sp : Sp} {g : List Value → List Value → List Value} {gV : List V → List V} (L : Lay K mg x st ps) (h : ∀ f fd, Fun K x x st f fd → FnOk P w K mg base CX0 k f fd ps sp) (hb : ∀ f fd, Fun K x x st f fd → KBn K fd ps 0 ks g (fun _ zs => gV zs)) : CalK P w K mg base k x ps ks gV sp := by
  obtain ⟨f, fd, F, m, kp, b⟩ := L
  exact ⟨f, fd, g, h f fd F, m, kp, hb f fd F⟩
structure Top (K : PySem.W.Frag) (mg : Str → Option Value) : Prop where
  cu_ : Lay K mg "cut" s_cut p_cut
  co_ : Lay K mg "content" s_content p_content
  pr_ : Lay K mg "primitive" s_primitive p_primitive
  re_ : Lay K mg "remainder" s_remainder p_remainder
  ii_ : Lay K mg "is_integer" s_is_integer p_is_integer
  ip_ : Lay K mg "is_polynomial" s_is_polynomial p_is_polynomial
  cp_ : Lay K mg "check_polynomials" s_check_polynomials p_check_polynomials
  cn_ : Lay K mg "check_not_zero" s_check_not_zero p_check_not_zero
  rs_ : Lay K mg "rest" s_rest p_rest
  l_sack_ : Lay K mg "_law_pv_sack" s_l_sack p_l_sack
  l_coin_ : Lay K mg "_law_pv_coin" s_l_coin p_l_coin
  l_shared_ : Lay K mg "_law_pv_shared" s_l_shared p_l_shared
  l_ratio_ : Lay K mg "_law_pv_ratio" s_l_ratio p_l_ratio
  l_add_ : Lay K mg "_law_pv_add" s_l_add p_l_add
  l_mul_ : Lay K mg "_law_pv_mul" s_l_mul p_l_mul
  l_trim_ : Lay K mg "_law_pv_trim" s_l_trim p_l_trim
  l_sum_ : Lay K mg "_law_pv_sum" s_l_sum p_l_sum
  l_product_ : Lay K mg "_law_pv_product" s_l_product p_l_product
  l_thin_ : Lay K mg "_law_pv_thin" s_l_thin p_l_thin
  l_left_ : Lay K mg "_law_pv_left" s_l_left p_l_left
  l_poly_ : Lay K mg "_law_pv_poly" s_l_poly p_l_poly
  l_copied_ : Lay K mg "_law_pv_copied" s_l_copied p_l_copied
  l_lists_ : Lay K mg "_law_pv_lists" s_l_lists p_l_lists
  l_marked_ : Lay K mg "_law_pv_marked" s_l_marked p_l_marked
  l_right_ : Lay K mg "_law_pv_right" s_l_right p_l_right
  l_small_ : Lay K mg "_law_pv_small" s_l_small p_l_small
  l_checked_ : Lay K mg "_law_pv_checked" s_l_checked p_l_checked
  z_len : mg "len" = none
  z_max : mg "max" = none
  z_abs : mg "abs" = none
  z_int : mg "int" = none
  z_range : mg "range" = none
  z_list : mg "list" = none
  z_enumerate : mg "enumerate" = none
  z_isinstance : mg "isinstance" = none
  z_bool : mg "bool" = none
  z_tuple : mg "tuple" = none
  z_all : mg "all" = none
  z_repr : mg "repr" = none
  z_min : mg "min" = none
  z_gcd : mg "gcd" = some (.builtin "math.gcd")
theorem whole (T : Top K mg) {f : Addr} {fd : FuncData} (F : Fun K "law" "law" s_law f fd) : FnG P w K mg base 7 f fd p_law (spLaw K) := by
  have t0 : T0 mg := ⟨T.z_len, T.z_max, T.z_abs, T.z_int⟩
  obtain ⟨fS, _, _, mS, _, _⟩ := id T.l_shared_
  obtain ⟨fR, _, _, mR, _, _⟩ := id T.l_ratio_
  have t1 : T1 mg fS fR := { toT0 := t0, rng := T.z_range, lst := T.z_list, gS := mS, gR := mR }
  have t2 : T2 mg := ⟨T.z_len, T.z_max, T.z_range, T.z_enumerate⟩
  have t3 : T3 mg := ⟨T.z_isinstance, T.z_int, T.z_bool, T.z_list, T.z_tuple, T.z_len, T.z_all, T.z_gcd⟩
  have t4 : T4 mg := ⟨T.z_isinstance, T.z_list, T.z_tuple, T.z_len, T.z_range, T.z_repr⟩
  have t7 : T7 mg := ⟨T.z_len, T.z_abs, T.z_enumerate, T.z_gcd⟩
  have coin : Cal P w K mg base 1 "_law_pv_coin" p_l_coin spCoin := T.l_coin_.cal fun f fd F => ok_coin F t0
  have sack : Cal P w K mg base 1 "_law_pv_sack" p_l_sack (spSack K) := T.l_sack_.cal fun f fd F => ok_sack F t0
  have shared : Cal P w K mg base 1 "_law_pv_shared" p_l_shared spShared := T.l_shared_.cal fun f fd F => ok_shared F t1
  have ratio : Cal P w K mg base 2 "_law_pv_ratio" p_l_ratio spRatio := T.l_ratio_.cal fun f fd F => ok_ratio F t0 shared
  have ratio1 : Cal P w K mg base 2 "_law_pv_ratio" p_l_ratio spRatio1 := T.l_ratio_.cal fun f fd F => ok_ratio1 F t0 shared
  have add : Cal P w K mg base 3 "_law_pv_add" p_l_add spAdd := T.l_add_.cal fun f fd F => ok_add F ratio
  have mul : Cal P w K mg base 3 "_law_pv_mul" p_l_mul spMul := T.l_mul_.cal fun f fd F => ok_mul F ratio
  have trim : Cal P w K mg base 1 "_law_pv_trim" p_l_trim (spTrim K) := T.l_trim_.cal fun f fd F => ok_trim F t1
  have sum : Cal P w K mg base 2 "_law_pv_sum" p_l_sum (spTwo fun xs ys => trm (padd xs ys)) := T.l_sum_.cal fun f fd F => ok_sum F t2 trim
  have prod : Cal P w K mg base 2 "_law_pv_product" p_l_product (spTwo fun xs ys => trm (pmul xs ys)) := T.l_product_.cal fun f fd F => ok_product F t2 trim
  have thin : Cal P w K mg base 2 "_law_pv_thin" p_l_thin spPrim := T.l_thin_.cal fun f fd F => ok_thin F shared
  have left : Cal P w K mg base 4 "_law_pv_left" p_l_left spRem := T.l_left_.cal fun f fd F => ok_left F ⟨T.z_len, T.z_range, shared, ratio1, add, mul, trim, thin⟩
  have poly : Cal P w K mg base 2 "_law_pv_poly" p_l_poly spPoly := T.l_poly_.cal fun f fd F => ok_poly F T.z_range coin
  have small : Cal P w K mg base 2 "_law_pv_small" p_l_small spSmall := T.l_small_.cal fun f fd F => ok_small F T.z_range coin
  have cut : Cal P w K mg base 1 "cut" p_cut (spTrim K) := T.cu_.cal fun f fd F => ok_cut F T.z_len
  have content : Cal P w K mg base 1 "content" p_content (spCont K) := T.co_.cal fun f fd F => ok_content F T.z_gcd
  have primitive : Cal P w K mg base 2 "primitive" p_primitive spPrim := T.pr_.cal fun f fd F => ok_primitive F content
  have remainder : Cal P w K mg base 3 "remainder" p_remainder spRem := T.re_.cal fun f fd F => ok_remainder F t7 cut primitive
  have isint : Cal P w K mg base 1 "is_integer" p_is_integer spInt := T.ii_.cal fun f fd F => ok_is_integer F t3
  have ispol : Cal P w K mg base 2 "is_polynomial" p_is_polynomial spPol := T.ip_.cal fun f fd F => ok_is_polynomial F t3 isint
  have chk : Cal P w K mg base 3 "check_polynomials" p_check_polynomials spChk := T.cp_.cal fun f fd F => ok_check_polynomials F ispol
  have chn : Cal P w K mg base 1 "check_not_zero" p_check_not_zero spNz := T.cn_.cal fun f fd F => ok_check_not_zero F
  have lists0 : Cal P w K mg base 1 "_law_pv_lists" p_l_lists spL0 := T.l_lists_.cal fun f fd F => ok_lists0 F t4
  have lists1 : Cal P w K mg base 2 "_law_pv_lists" p_l_lists spL1 := T.l_lists_.cal fun f fd F => ok_lists1 F t4 lists0
  have cop0 : Cal P w K mg base 1 "_law_pv_copied" p_l_copied spC0 := T.l_copied_.cal fun f fd F => ok_copied0 F t4
  have cop1 : Cal P w K mg base 2 "_law_pv_copied" p_l_copied spC1 := T.l_copied_.cal fun f fd F => ok_copied1 F t4 cop0
  have marked : CalG P w K mg base 3 "_law_pv_marked" p_l_marked spMf := T.l_marked_.calG fun f fd F => ok_markedF F t4 lists1
  have right : CalG P w K mg base 4 "_law_pv_right" p_l_right spRf := T.l_right_.calG fun f fd F => ok_rightF F t4 cop1 marked
  have c : C4 P w K mg base := {
    rng := T.z_range, len := T.z_len, rep := T.z_repr
    coin := coin, poly := poly, small := small, trim := trim, sum := sum, prod := prod, thin := thin, left := left, right := right
    rest := T.rs_.cal fun f fd F => ok_rest F chk chn remainder
    restS := T.rs_.calK (fun f fd F => ok_rest F chk chn remainder) fun f fd F => kb_restS F }
  have checked : CalG P w K mg base 6 "_law_pv_checked" p_l_checked spChecked := T.l_checked_.calG fun f fd F => ok_checked F c
  exact ok_law F ⟨T.z_range, T.z_len, T.z_max, T.z_min⟩ sack checked
end
end V2


namespace V2
open PySem L2
open PySem.Spec PyProof.Rows
theorem all_mk {l : PySem.W.OpenLaw} {w : World} {K : PySem.W.Frag} {h : Heap} {mg : Str → Option Value} {fa f_cu f_co f_pr f_re f_ii f_ip f_cp f_cn f_rs f_l_sack f_l_coin f_l_shared f_l_ratio f_l_add f_l_mul f_l_trim f_l_sum f_l_product f_l_thin f_l_left f_l_poly f_l_copied f_l_lists f_l_marked f_l_right f_l_small f_l_checked f_lw : Addr}
    {od_cu an_cu od_co an_co od_pr an_pr od_re an_re od_ii an_ii od_ip an_ip od_cp an_cp od_cn an_cn od_rs an_rs od_l_sack an_l_sack od_l_coin an_l_coin od_l_shared an_l_shared od_l_ratio an_l_ratio od_l_add an_l_add od_l_mul an_l_mul od_l_trim an_l_trim od_l_sum an_l_sum od_l_product an_l_product od_l_thin an_l_thin od_l_left an_l_left od_l_poly an_l_poly od_l_copied an_l_copied od_l_lists an_l_lists od_l_marked an_l_marked od_l_right an_l_right od_l_small an_l_small od_l_checked an_l_checked od_lw an_lw : Option Addr} {sl_cu sl_co sl_pr sl_re sl_ii sl_ip sl_cp sl_cn sl_rs sl_l_sack sl_l_coin sl_l_shared sl_l_ratio sl_l_add sl_l_mul sl_l_trim sl_l_sum sl_l_product sl_l_thin sl_l_left sl_l_poly sl_l_copied sl_l_lists sl_l_marked sl_l_right sl_l_small sl_l_checked sl_lw : Array (Option Value)} {oc_cu kV_cu dc_cu pm_cu cd_cu ct_cu oc_co kV_co dc_co pm_co cd_co ct_co oc_pr kV_pr dc_pr pm_pr cd_pr ct_pr oc_re kV_re dc_re pm_re cd_re ct_re oc_ii kV_ii dc_ii pm_ii cd_ii ct_ii oc_ip kV_ip dc_ip pm_ip cd_ip ct_ip oc_cp kV_cp dc_cp pm_cp cd_cp ct_cp oc_cn kV_cn dc_cn pm_cn cd_cn ct_cn oc_rs kV_rs dc_rs pm_rs cd_rs ct_rs oc_l_sack kV_l_sack dc_l_sack pm_l_sack cd_l_sack ct_l_sack oc_l_coin kV_l_coin dc_l_coin pm_l_coin cd_l_coin ct_l_coin oc_l_shared kV_l_shared dc_l_shared pm_l_shared cd_l_shared ct_l_shared oc_l_ratio kV_l_ratio dc_l_ratio pm_l_ratio cd_l_ratio ct_l_ratio oc_l_add kV_l_add dc_l_add pm_l_add cd_l_add ct_l_add oc_l_mul kV_l_mul dc_l_mul pm_l_mul cd_l_mul ct_l_mul oc_l_trim kV_l_trim dc_l_trim pm_l_trim cd_l_trim ct_l_trim oc_l_sum kV_l_sum dc_l_sum pm_l_sum cd_l_sum ct_l_sum oc_l_product kV_l_product dc_l_product pm_l_product cd_l_product ct_l_product oc_l_thin kV_l_thin dc_l_thin pm_l_thin cd_l_thin ct_l_thin oc_l_left kV_l_left dc_l_left pm_l_left cd_l_left ct_l_left oc_l_poly kV_l_poly dc_l_poly pm_l_poly cd_l_poly ct_l_poly oc_l_copied kV_l_copied dc_l_copied pm_l_copied cd_l_copied ct_l_copied oc_l_lists kV_l_lists dc_l_lists pm_l_lists cd_l_lists ct_l_lists oc_l_marked kV_l_marked dc_l_marked pm_l_marked cd_l_marked ct_l_marked oc_l_right kV_l_right dc_l_right pm_l_right cd_l_right ct_l_right oc_l_small kV_l_small dc_l_small pm_l_small cd_l_small ct_l_small oc_l_checked kV_l_checked dc_l_checked pm_l_checked cd_l_checked ct_l_checked oc_lw kV_lw dc_lw pm_lw cd_lw ct_lw : Value}
    (X : K.In h) (G : h.Ns mainGlobals mg) (hfa : mg "law" = some (.ref fa))
    (a_cu : PySem.W.nsIn K mainGlobals "cut" = some (some (.ref f_cu))) (l_cu : K.lookup f_cu = some ⟨oc_cu, od_cu, .func (PySem.W.fnOf "cut" "cut" (defArgs s_cut) (defBody s_cut) (defScope s_cut) .none kV_cu dc_cu pm_cu an_cu cd_cu ct_cu), sl_cu⟩) (c_cu : PySem.W.codeIn K cd_cu "cut" = true) (k_cu : PySem.W.keepIn K (.ref f_cu) = true)
    (a_co : PySem.W.nsIn K mainGlobals "content" = some (some (.ref f_co))) (l_co : K.lookup f_co = some ⟨oc_co, od_co, .func (PySem.W.fnOf "content" "content" (defArgs s_content) (defBody s_content) (defScope s_content) .none kV_co dc_co pm_co an_co cd_co ct_co), sl_co⟩) (c_co : PySem.W.codeIn K cd_co "content" = true) (k_co : PySem.W.keepIn K (.ref f_co) = true)
    (a_pr : PySem.W.nsIn K mainGlobals "primitive" = some (some (.ref f_pr))) (l_pr : K.lookup f_pr = some ⟨oc_pr, od_pr, .func (PySem.W.fnOf "primitive" "primitive" (defArgs s_primitive) (defBody s_primitive) (defScope s_primitive) .none kV_pr dc_pr pm_pr an_pr cd_pr ct_pr), sl_pr⟩) (c_pr : PySem.W.codeIn K cd_pr "primitive" = true) (k_pr : PySem.W.keepIn K (.ref f_pr) = true)
    (a_re : PySem.W.nsIn K mainGlobals "remainder" = some (some (.ref f_re))) (l_re : K.lookup f_re = some ⟨oc_re, od_re, .func (PySem.W.fnOf "remainder" "remainder" (defArgs s_remainder) (defBody s_remainder) (defScope s_remainder) .none kV_re dc_re pm_re an_re cd_re ct_re), sl_re⟩) (c_re : PySem.W.codeIn K cd_re "remainder" = true) (k_re : PySem.W.keepIn K (.ref f_re) = true)
    (a_ii : PySem.W.nsIn K mainGlobals "is_integer" = some (some (.ref f_ii))) (l_ii : K.lookup f_ii = some ⟨oc_ii, od_ii, .func (PySem.W.fnOf "is_integer" "is_integer" (defArgs s_is_integer) (defBody s_is_integer) (defScope s_is_integer) .none kV_ii dc_ii pm_ii an_ii cd_ii ct_ii), sl_ii⟩) (c_ii : PySem.W.codeIn K cd_ii "is_integer" = true) (k_ii : PySem.W.keepIn K (.ref f_ii) = true)
    (a_ip : PySem.W.nsIn K mainGlobals "is_polynomial" = some (some (.ref f_ip))) (l_ip : K.lookup f_ip = some ⟨oc_ip, od_ip, .func (PySem.W.fnOf "is_polynomial" "is_polynomial" (defArgs s_is_polynomial) (defBody s_is_polynomial) (defScope s_is_polynomial) .none kV_ip dc_ip pm_ip an_ip cd_ip ct_ip), sl_ip⟩) (c_ip : PySem.W.codeIn K cd_ip "is_polynomial" = true) (k_ip : PySem.W.keepIn K (.ref f_ip) = true)
    (a_cp : PySem.W.nsIn K mainGlobals "check_polynomials" = some (some (.ref f_cp))) (l_cp : K.lookup f_cp = some ⟨oc_cp, od_cp, .func (PySem.W.fnOf "check_polynomials" "check_polynomials" (defArgs s_check_polynomials) (defBody s_check_polynomials) (defScope s_check_polynomials) .none kV_cp dc_cp pm_cp an_cp cd_cp ct_cp), sl_cp⟩) (c_cp : PySem.W.codeIn K cd_cp "check_polynomials" = true) (k_cp : PySem.W.keepIn K (.ref f_cp) = true)
    (a_cn : PySem.W.nsIn K mainGlobals "check_not_zero" = some (some (.ref f_cn))) (l_cn : K.lookup f_cn = some ⟨oc_cn, od_cn, .func (PySem.W.fnOf "check_not_zero" "check_not_zero" (defArgs s_check_not_zero) (defBody s_check_not_zero) (defScope s_check_not_zero) .none kV_cn dc_cn pm_cn an_cn cd_cn ct_cn), sl_cn⟩) (c_cn : PySem.W.codeIn K cd_cn "check_not_zero" = true) (k_cn : PySem.W.keepIn K (.ref f_cn) = true)
    (a_rs : PySem.W.nsIn K mainGlobals "rest" = some (some (.ref f_rs))) (l_rs : K.lookup f_rs = some ⟨oc_rs, od_rs, .func (PySem.W.fnOf "rest" "rest" (defArgs s_rest) (defBody s_rest) (defScope s_rest) .none kV_rs dc_rs pm_rs an_rs cd_rs ct_rs), sl_rs⟩) (c_rs : PySem.W.codeIn K cd_rs "rest" = true) (k_rs : PySem.W.keepIn K (.ref f_rs) = true)
    (a_l_sack : PySem.W.nsIn K mainGlobals "_law_pv_sack" = some (some (.ref f_l_sack))) (l_l_sack : K.lookup f_l_sack = some ⟨oc_l_sack, od_l_sack, .func (PySem.W.fnOf "_law_pv_sack" "_law_pv_sack" (defArgs s_l_sack) (defBody s_l_sack) (defScope s_l_sack) .none kV_l_sack dc_l_sack pm_l_sack an_l_sack cd_l_sack ct_l_sack), sl_l_sack⟩) (c_l_sack : PySem.W.codeIn K cd_l_sack "_law_pv_sack" = true) (k_l_sack : PySem.W.keepIn K (.ref f_l_sack) = true)
    (a_l_coin : PySem.W.nsIn K mainGlobals "_law_pv_coin" = some (some (.ref f_l_coin))) (l_l_coin : K.lookup f_l_coin = some ⟨oc_l_coin, od_l_coin, .func (PySem.W.fnOf "_law_pv_coin" "_law_pv_coin" (defArgs s_l_coin) (defBody s_l_coin) (defScope s_l_coin) .none kV_l_coin dc_l_coin pm_l_coin an_l_coin cd_l_coin ct_l_coin), sl_l_coin⟩) (c_l_coin : PySem.W.codeIn K cd_l_coin "_law_pv_coin" = true) (k_l_coin : PySem.W.keepIn K (.ref f_l_coin) = true)
    (a_l_shared : PySem.W.nsIn K mainGlobals "_law_pv_shared" = some (some (.ref f_l_shared))) (l_l_shared : K.lookup f_l_shared = some ⟨oc_l_shared, od_l_shared, .func (PySem.W.fnOf "_law_pv_shared" "_law_pv_shared" (defArgs s_l_shared) (defBody s_l_shared) (defScope s_l_shared) .none kV_l_shared dc_l_shared pm_l_shared an_l_shared cd_l_shared ct_l_shared), sl_l_shared⟩) (c_l_shared : PySem.W.codeIn K cd_l_shared "_law_pv_shared" = true) (k_l_shared : PySem.W.keepIn K (.ref f_l_shared) = true)
    (a_l_ratio : PySem.W.nsIn K mainGlobals "_law_pv_ratio" = some (some (.ref f_l_ratio))) (l_l_ratio : K.lookup f_l_ratio = some ⟨oc_l_ratio, od_l_ratio, .func (PySem.W.fnOf "_law_pv_ratio" "_law_pv_ratio" (defArgs s_l_ratio) (defBody s_l_ratio) (defScope s_l_ratio) .none kV_l_ratio dc_l_ratio pm_l_ratio an_l_ratio cd_l_ratio ct_l_ratio), sl_l_ratio⟩) (c_l_ratio : PySem.W.codeIn K cd_l_ratio "_law_pv_ratio" = true) (k_l_ratio : PySem.W.keepIn K (.ref f_l_ratio) = true)
    (a_l_add : PySem.W.nsIn K mainGlobals "_law_pv_add" = some (some (.ref f_l_add))) (l_l_add : K.lookup f_l_add = some ⟨oc_l_add, od_l_add, .func (PySem.W.fnOf "_law_pv_add" "_law_pv_add" (defArgs s_l_add) (defBody s_l_add) (defScope s_l_add) .none kV_l_add dc_l_add pm_l_add an_l_add cd_l_add ct_l_add), sl_l_add⟩) (c_l_add : PySem.W.codeIn K cd_l_add "_law_pv_add" = true) (k_l_add : PySem.W.keepIn K (.ref f_l_add) = true)
    (a_l_mul : PySem.W.nsIn K mainGlobals "_law_pv_mul" = some (some (.ref f_l_mul))) (l_l_mul : K.lookup f_l_mul = some ⟨oc_l_mul, od_l_mul, .func (PySem.W.fnOf "_law_pv_mul" "_law_pv_mul" (defArgs s_l_mul) (defBody s_l_mul) (defScope s_l_mul) .none kV_l_mul dc_l_mul pm_l_mul an_l_mul cd_l_mul ct_l_mul), sl_l_mul⟩) (c_l_mul : PySem.W.codeIn K cd_l_mul "_law_pv_mul" = true) (k_l_mul : PySem.W.keepIn K (.ref f_l_mul) = true)
    (a_l_trim : PySem.W.nsIn K mainGlobals "_law_pv_trim" = some (some (.ref f_l_trim))) (l_l_trim : K.lookup f_l_trim = some ⟨oc_l_trim, od_l_trim, .func (PySem.W.fnOf "_law_pv_trim" "_law_pv_trim" (defArgs s_l_trim) (defBody s_l_trim) (defScope s_l_trim) .none kV_l_trim dc_l_trim pm_l_trim an_l_trim cd_l_trim ct_l_trim), sl_l_trim⟩) (c_l_trim : PySem.W.codeIn K cd_l_trim "_law_pv_trim" = true) (k_l_trim : PySem.W.keepIn K (.ref f_l_trim) = true)
    (a_l_sum : PySem.W.nsIn K mainGlobals "_law_pv_sum" = some (some (.ref f_l_sum))) (l_l_sum : K.lookup f_l_sum = some ⟨oc_l_sum, od_l_sum, .func (PySem.W.fnOf "_law_pv_sum" "_law_pv_sum" (defArgs s_l_sum) (defBody s_l_sum) (defScope s_l_sum) .none kV_l_sum dc_l_sum pm_l_sum an_l_sum cd_l_sum ct_l_sum), sl_l_sum⟩) (c_l_sum : PySem.W.codeIn K cd_l_sum "_law_pv_sum" = true) (k_l_sum : PySem.W.keepIn K (.ref f_l_sum) = true)
    (a_l_product : PySem.W.nsIn K mainGlobals "_law_pv_product" = some (some (.ref f_l_product))) (l_l_product : K.lookup f_l_product = some ⟨oc_l_product, od_l_product, .func (PySem.W.fnOf "_law_pv_product" "_law_pv_product" (defArgs s_l_product) (defBody s_l_product) (defScope s_l_product) .none kV_l_product dc_l_product pm_l_product an_l_product cd_l_product ct_l_product), sl_l_product⟩) (c_l_product : PySem.W.codeIn K cd_l_product "_law_pv_product" = true) (k_l_product : PySem.W.keepIn K (.ref f_l_product) = true)
    (a_l_thin : PySem.W.nsIn K mainGlobals "_law_pv_thin" = some (some (.ref f_l_thin))) (l_l_thin : K.lookup f_l_thin = some ⟨oc_l_thin, od_l_thin, .func (PySem.W.fnOf "_law_pv_thin" "_law_pv_thin" (defArgs s_l_thin) (defBody s_l_thin) (defScope s_l_thin) .none kV_l_thin dc_l_thin pm_l_thin an_l_thin cd_l_thin ct_l_thin), sl_l_thin⟩) (c_l_thin : PySem.W.codeIn K cd_l_thin "_law_pv_thin" = true) (k_l_thin : PySem.W.keepIn K (.ref f_l_thin) = true)
    (a_l_left : PySem.W.nsIn K mainGlobals "_law_pv_left" = some (some (.ref f_l_left))) (l_l_left : K.lookup f_l_left = some ⟨oc_l_left, od_l_left, .func (PySem.W.fnOf "_law_pv_left" "_law_pv_left" (defArgs s_l_left) (defBody s_l_left) (defScope s_l_left) .none kV_l_left dc_l_left pm_l_left an_l_left cd_l_left ct_l_left), sl_l_left⟩) (c_l_left : PySem.W.codeIn K cd_l_left "_law_pv_left" = true) (k_l_left : PySem.W.keepIn K (.ref f_l_left) = true)
    (a_l_poly : PySem.W.nsIn K mainGlobals "_law_pv_poly" = some (some (.ref f_l_poly))) (l_l_poly : K.lookup f_l_poly = some ⟨oc_l_poly, od_l_poly, .func (PySem.W.fnOf "_law_pv_poly" "_law_pv_poly" (defArgs s_l_poly) (defBody s_l_poly) (defScope s_l_poly) .none kV_l_poly dc_l_poly pm_l_poly an_l_poly cd_l_poly ct_l_poly), sl_l_poly⟩) (c_l_poly : PySem.W.codeIn K cd_l_poly "_law_pv_poly" = true) (k_l_poly : PySem.W.keepIn K (.ref f_l_poly) = true)
    (a_l_copied : PySem.W.nsIn K mainGlobals "_law_pv_copied" = some (some (.ref f_l_copied))) (l_l_copied : K.lookup f_l_copied = some ⟨oc_l_copied, od_l_copied, .func (PySem.W.fnOf "_law_pv_copied" "_law_pv_copied" (defArgs s_l_copied) (defBody s_l_copied) (defScope s_l_copied) .none kV_l_copied dc_l_copied pm_l_copied an_l_copied cd_l_copied ct_l_copied), sl_l_copied⟩) (c_l_copied : PySem.W.codeIn K cd_l_copied "_law_pv_copied" = true) (k_l_copied : PySem.W.keepIn K (.ref f_l_copied) = true)
    (a_l_lists : PySem.W.nsIn K mainGlobals "_law_pv_lists" = some (some (.ref f_l_lists))) (l_l_lists : K.lookup f_l_lists = some ⟨oc_l_lists, od_l_lists, .func (PySem.W.fnOf "_law_pv_lists" "_law_pv_lists" (defArgs s_l_lists) (defBody s_l_lists) (defScope s_l_lists) .none kV_l_lists dc_l_lists pm_l_lists an_l_lists cd_l_lists ct_l_lists), sl_l_lists⟩) (c_l_lists : PySem.W.codeIn K cd_l_lists "_law_pv_lists" = true) (k_l_lists : PySem.W.keepIn K (.ref f_l_lists) = true)
    (a_l_marked : PySem.W.nsIn K mainGlobals "_law_pv_marked" = some (some (.ref f_l_marked))) (l_l_marked : K.lookup f_l_marked = some ⟨oc_l_marked, od_l_marked, .func (PySem.W.fnOf "_law_pv_marked" "_law_pv_marked" (defArgs s_l_marked) (defBody s_l_marked) (defScope s_l_marked) .none kV_l_marked dc_l_marked pm_l_marked an_l_marked cd_l_marked ct_l_marked), sl_l_marked⟩) (c_l_marked : PySem.W.codeIn K cd_l_marked "_law_pv_marked" = true) (k_l_marked : PySem.W.keepIn K (.ref f_l_marked) = true)
    (a_l_right : PySem.W.nsIn K mainGlobals "_law_pv_right" = some (some (.ref f_l_right))) (l_l_right : K.lookup f_l_right = some ⟨oc_l_right, od_l_right, .func (PySem.W.fnOf "_law_pv_right" "_law_pv_right" (defArgs s_l_right) (defBody s_l_right) (defScope s_l_right) .none kV_l_right dc_l_right pm_l_right an_l_right cd_l_right ct_l_right), sl_l_right⟩) (c_l_right : PySem.W.codeIn K cd_l_right "_law_pv_right" = true) (k_l_right : PySem.W.keepIn K (.ref f_l_right) = true)
    (a_l_small : PySem.W.nsIn K mainGlobals "_law_pv_small" = some (some (.ref f_l_small))) (l_l_small : K.lookup f_l_small = some ⟨oc_l_small, od_l_small, .func (PySem.W.fnOf "_law_pv_small" "_law_pv_small" (defArgs s_l_small) (defBody s_l_small) (defScope s_l_small) .none kV_l_small dc_l_small pm_l_small an_l_small cd_l_small ct_l_small), sl_l_small⟩) (c_l_small : PySem.W.codeIn K cd_l_small "_law_pv_small" = true) (k_l_small : PySem.W.keepIn K (.ref f_l_small) = true)
    (a_l_checked : PySem.W.nsIn K mainGlobals "_law_pv_checked" = some (some (.ref f_l_checked))) (l_l_checked : K.lookup f_l_checked = some ⟨oc_l_checked, od_l_checked, .func (PySem.W.fnOf "_law_pv_checked" "_law_pv_checked" (defArgs s_l_checked) (defBody s_l_checked) (defScope s_l_checked) .none kV_l_checked dc_l_checked pm_l_checked an_l_checked cd_l_checked ct_l_checked), sl_l_checked⟩) (c_l_checked : PySem.W.codeIn K cd_l_checked "_law_pv_checked" = true) (k_l_checked : PySem.W.keepIn K (.ref f_l_checked) = true)
    (a_lw : PySem.W.nsIn K mainGlobals "law" = some (some (.ref f_lw))) (l_lw : K.lookup f_lw = some ⟨oc_lw, od_lw, .func (PySem.W.fnOf "law" "law" (defArgs s_law) (defBody s_law) (defScope s_law) .none kV_lw dc_lw pm_lw an_lw cd_lw ct_lw), sl_lw⟩) (c_lw : PySem.W.codeIn K cd_lw "law" = true) (k_lw : PySem.W.keepIn K (.ref f_lw) = true)
    (z_len : PySem.W.nsIn K mainGlobals "len" = some none)
    (z_max : PySem.W.nsIn K mainGlobals "max" = some none)
    (z_abs : PySem.W.nsIn K mainGlobals "abs" = some none)
    (z_int : PySem.W.nsIn K mainGlobals "int" = some none)
    (z_range : PySem.W.nsIn K mainGlobals "range" = some none)
    (z_list : PySem.W.nsIn K mainGlobals "list" = some none)
    (z_enumerate : PySem.W.nsIn K mainGlobals "enumerate" = some none)
    (z_isinstance : PySem.W.nsIn K mainGlobals "isinstance" = some none)
    (z_bool : PySem.W.nsIn K mainGlobals "bool" = some none)
    (z_tuple : PySem.W.nsIn K mainGlobals "tuple" = some none)
    (z_all : PySem.W.nsIn K mainGlobals "all" = some none)
    (z_repr : PySem.W.nsIn K mainGlobals "repr" = some none)
    (z_min : PySem.W.nsIn K mainGlobals "min" = some none)
    (z_gcd : PySem.W.nsIn K mainGlobals "gcd" = some (some (.builtin "math.gcd"))) :
    ∃ fd : FuncData, (∀ (s : Shared) (v : Value), BindsTo s fd ⟨[v], []⟩ [("script", v)]) ∧ ∀ base : Heap, K.In base → base.Ns mainGlobals mg → FnG l.prog w K mg base 7 fa fd ["script"] (spLaw K) := by
  have e := hfa.symm.trans (PySem.W.mg_of X G a_lw)
  cases e
  have T : Top K mg := {
    cu_ := lay_mk X G a_cu l_cu c_cu k_cu fun _ _ _ _ _ _ us hl => match us, hl with | [_], _ => rfl
    co_ := lay_mk X G a_co l_co c_co k_co fun _ _ _ _ _ _ us hl => match us, hl with | [_], _ => rfl
    pr_ := lay_mk X G a_pr l_pr c_pr k_pr fun _ _ _ _ _ _ us hl => match us, hl with | [_], _ => rfl
    re_ := lay_mk X G a_re l_re c_re k_re fun _ _ _ _ _ _ us hl => match us, hl with | [_, _], _ => rfl
    ii_ := lay_mk X G a_ii l_ii c_ii k_ii fun _ _ _ _ _ _ us hl => match us, hl with | [_], _ => rfl
    ip_ := lay_mk X G a_ip l_ip c_ip k_ip fun _ _ _ _ _ _ us hl => match us, hl with | [_], _ => rfl
    cp_ := lay_mk X G a_cp l_cp c_cp k_cp fun _ _ _ _ _ _ us hl => match us, hl with | [_], _ => rfl
    cn_ := lay_mk X G a_cn l_cn c_cn k_cn fun _ _ _ _ _ _ us hl => match us, hl with | [_], _ => rfl
    rs_ := lay_mk X G a_rs l_rs c_rs k_rs fun _ _ _ _ _ _ us hl => match us, hl with | [_, _], _ => rfl
    l_sack_ := lay_mk X G a_l_sack l_l_sack c_l_sack k_l_sack fun _ _ _ _ _ _ us hl => match us, hl with | [_, _], _ => rfl
    l_coin_ := lay_mk X G a_l_coin l_l_coin c_l_coin k_l_coin fun _ _ _ _ _ _ us hl => match us, hl with | [_, _], _ => rfl
    l_shared_ := lay_mk X G a_l_shared l_l_shared c_l_shared k_l_shared fun _ _ _ _ _ _ us hl => match us, hl with | [_, _], _ => rfl
    l_ratio_ := lay_mk X G a_l_ratio l_l_ratio c_l_ratio k_l_ratio fun _ _ _ _ _ _ us hl => match us, hl with | [_, _], _ => rfl
    l_add_ := lay_mk X G a_l_add l_l_add c_l_add k_l_add fun _ _ _ _ _ _ us hl => match us, hl with | [_, _], _ => rfl
    l_mul_ := lay_mk X G a_l_mul l_l_mul c_l_mul k_l_mul fun _ _ _ _ _ _ us hl => match us, hl with | [_, _], _ => rfl
    l_trim_ := lay_mk X G a_l_trim l_l_trim c_l_trim k_l_trim fun _ _ _ _ _ _ us hl => match us, hl with | [_], _ => rfl
    l_sum_ := lay_mk X G a_l_sum l_l_sum c_l_sum k_l_sum fun _ _ _ _ _ _ us hl => match us, hl with | [_, _], _ => rfl
    l_product_ := lay_mk X G a_l_product l_l_product c_l_product k_l_product fun _ _ _ _ _ _ us hl => match us, hl with | [_, _], _ => rfl
    l_thin_ := lay_mk X G a_l_thin l_l_thin c_l_thin k_l_thin fun _ _ _ _ _ _ us hl => match us, hl with | [_], _ => rfl
    l_left_ := lay_mk X G a_l_left l_l_left c_l_left k_l_left fun _ _ _ _ _ _ us hl => match us, hl with | [_, _], _ => rfl
    l_poly_ := lay_mk X G a_l_poly l_l_poly c_l_poly k_l_poly fun _ _ _ _ _ _ us hl => match us, hl with | [_, _], _ => rfl
    l_copied_ := lay_mk X G a_l_copied l_l_copied c_l_copied k_l_copied fun _ _ _ _ _ _ us hl => match us, hl with | [_], _ => rfl
    l_lists_ := lay_mk X G a_l_lists l_l_lists c_l_lists k_l_lists fun _ _ _ _ _ _ us hl => match us, hl with | [_], _ => rfl
    l_marked_ := lay_mk X G a_l_marked l_l_marked c_l_marked k_l_marked fun _ _ _ _ _ _ us hl => match us, hl with | [_], _ => rfl
    l_right_ := lay_mk X G a_l_right l_l_right c_l_right k_l_right fun _ _ _ _ _ _ us hl => match us, hl with | [_, _], _ => rfl
    l_small_ := lay_mk X G a_l_small l_l_small c_l_small k_l_small fun _ _ _ _ _ _ us hl => match us, hl with | [_, _], _ => rfl
    l_checked_ := lay_mk X G a_l_checked l_l_checked c_l_checked k_l_checked fun _ _ _ _ _ _ us hl => match us, hl with | [_], _ => rfl
    z_len := PySem.W.mg_none_of X G z_len
    z_max := PySem.W.mg_none_of X G z_max
    z_abs := PySem.W.mg_none_of X G z_abs
    z_int := PySem.W.mg_none_of X G z_int
    z_range := PySem.W.mg_none_of X G z_range
    z_list := PySem.W.mg_none_of X G z_list
    z_enumerate := PySem.W.mg_none_of X G z_enumerate
    z_isinstance := PySem.W.mg_none_of X G z_isinstance
    z_bool := PySem.W.mg_none_of X G z_bool
    z_tuple := PySem.W.mg_none_of X G z_tuple
    z_all := PySem.W.mg_none_of X G z_all
    z_repr := PySem.W.mg_none_of X G z_repr
    z_min := PySem.W.mg_none_of X G z_min
    z_gcd := PySem.W.mg_of X G z_gcd }
  exact ⟨_, fun s v => .of_eq rfl, fun base _ _ => whole T (fun_mk (st := s_law) l_lw c_lw k_lw)⟩
end V2


open PyProof.Rows PySem.W PySem in
set_option maxRecDepth 99000 in
set_option maxHeartbeats 0 in
theorem PySem.Challenge.cw_valvelevels_k03_rests_holds : PySem.Challenge.rw_valvelevels_k03_rests.Holds := by
  w_on
  o_law
  k_head
  (case hw => w_witness2)
  k_fill
  refine V2.walk_G (l := PySem.Challenge.rw_valvelevels_k03_rests) (n := 63) (k := 7) (x := "script") (sp := V2.spLaw) rfl (by decide) rfl ⟨rfl, by decide, by decide⟩ (fun w h Y => PySem.W.kIn_of Y) ?F (fun K H a ns hl _ hS => ⟨a, ns, rfl, hS, hl, fun _ => rfl⟩)
  case F =>
    intro w mg fa h KX G hmg
    refine' V2.all_mk KX G hmg ?a_cu ?l_cu ?c_cu ?k_cu ?a_co ?l_co ?c_co ?k_co ?a_pr ?l_pr ?c_pr ?k_pr ?a_re ?l_re ?c_re ?k_re ?a_ii ?l_ii ?c_ii ?k_ii ?a_ip ?l_ip ?c_ip ?k_ip ?a_cp ?l_cp ?c_cp ?k_cp ?a_cn ?l_cn ?c_cn ?k_cn ?a_rs ?l_rs ?c_rs ?k_rs ?a_l_sack ?l_l_sack ?c_l_sack ?k_l_sack ?a_l_coin ?l_l_coin ?c_l_coin ?k_l_coin ?a_l_shared ?l_l_shared ?c_l_shared ?k_l_shared ?a_l_ratio ?l_l_ratio ?c_l_ratio ?k_l_ratio ?a_l_add ?l_l_add ?c_l_add ?k_l_add ?a_l_mul ?l_l_mul ?c_l_mul ?k_l_mul ?a_l_trim ?l_l_trim ?c_l_trim ?k_l_trim ?a_l_sum ?l_l_sum ?c_l_sum ?k_l_sum ?a_l_product ?l_l_product ?c_l_product ?k_l_product ?a_l_thin ?l_l_thin ?c_l_thin ?k_l_thin ?a_l_left ?l_l_left ?c_l_left ?k_l_left ?a_l_poly ?l_l_poly ?c_l_poly ?k_l_poly ?a_l_copied ?l_l_copied ?c_l_copied ?k_l_copied ?a_l_lists ?l_l_lists ?c_l_lists ?k_l_lists ?a_l_marked ?l_l_marked ?c_l_marked ?k_l_marked ?a_l_right ?l_l_right ?c_l_right ?k_l_right ?a_l_small ?l_l_small ?c_l_small ?k_l_small ?a_l_checked ?l_l_checked ?c_l_checked ?k_l_checked ?a_lw ?l_lw ?c_lw ?k_lw ?z_len ?z_max ?z_abs ?z_int ?z_range ?z_list ?z_enumerate ?z_isinstance ?z_bool ?z_tuple ?z_all ?z_repr ?z_min ?z_gcd
    (case a_cu => k_is)
    (case l_cu => k_is)
    (case c_cu => k_is)
    (case k_cu => k_is)
    (case a_co => k_is)
    (case l_co => k_is)
    (case c_co => k_is)
    (case k_co => k_is)
    (case a_pr => k_is)
    (case l_pr => k_is)
    (case c_pr => k_is)
    (case k_pr => k_is)
    (case a_re => k_is)
    (case l_re => k_is)
    (case c_re => k_is)
    (case k_re => k_is)
    (case a_ii => k_is)
    (case l_ii => k_is)
    (case c_ii => k_is)
    (case k_ii => k_is)
    (case a_ip => k_is)
    (case l_ip => k_is)
    (case c_ip => k_is)
    (case k_ip => k_is)
    (case a_cp => k_is)
    (case l_cp => k_is)
    (case c_cp => k_is)
    (case k_cp => k_is)
    (case a_cn => k_is)
    (case l_cn => k_is)
    (case c_cn => k_is)
    (case k_cn => k_is)
    (case a_rs => k_is)
    (case l_rs => k_is)
    (case c_rs => k_is)
    (case k_rs => k_is)
    (case a_l_sack => k_is)
    (case l_l_sack => k_is)
    (case c_l_sack => k_is)
    (case k_l_sack => k_is)
    (case a_l_coin => k_is)
    (case l_l_coin => k_is)
    (case c_l_coin => k_is)
    (case k_l_coin => k_is)
    (case a_l_shared => k_is)
    (case l_l_shared => k_is)
    (case c_l_shared => k_is)
    (case k_l_shared => k_is)
    (case a_l_ratio => k_is)
    (case l_l_ratio => k_is)
    (case c_l_ratio => k_is)
    (case k_l_ratio => k_is)
    (case a_l_add => k_is)
    (case l_l_add => k_is)
    (case c_l_add => k_is)
    (case k_l_add => k_is)
    (case a_l_mul => k_is)
    (case l_l_mul => k_is)
    (case c_l_mul => k_is)
    (case k_l_mul => k_is)
    (case a_l_trim => k_is)
    (case l_l_trim => k_is)
    (case c_l_trim => k_is)
    (case k_l_trim => k_is)
    (case a_l_sum => k_is)
    (case l_l_sum => k_is)
    (case c_l_sum => k_is)
    (case k_l_sum => k_is)
    (case a_l_product => k_is)
    (case l_l_product => k_is)
    (case c_l_product => k_is)
    (case k_l_product => k_is)
    (case a_l_thin => k_is)
    (case l_l_thin => k_is)
    (case c_l_thin => k_is)
    (case k_l_thin => k_is)
    (case a_l_left => k_is)
    (case l_l_left => k_is)
    (case c_l_left => k_is)
    (case k_l_left => k_is)
    (case a_l_poly => k_is)
    (case l_l_poly => k_is)
    (case c_l_poly => k_is)
    (case k_l_poly => k_is)
    (case a_l_copied => k_is)
    (case l_l_copied => k_is)
    (case c_l_copied => k_is)
    (case k_l_copied => k_is)
    (case a_l_lists => k_is)
    (case l_l_lists => k_is)
    (case c_l_lists => k_is)
    (case k_l_lists => k_is)
    (case a_l_marked => k_is)
    (case l_l_marked => k_is)
    (case c_l_marked => k_is)
    (case k_l_marked => k_is)
    (case a_l_right => k_is)
    (case l_l_right => k_is)
    (case c_l_right => k_is)
    (case k_l_right => k_is)
    (case a_l_small => k_is)
    (case l_l_small => k_is)
    (case c_l_small => k_is)
    (case k_l_small => k_is)
    (case a_l_checked => k_is)
    (case l_l_checked => k_is)
    (case c_l_checked => k_is)
    (case k_l_checked => k_is)
    (case a_lw => k_is)
    (case l_lw => k_is)
    (case c_lw => k_is)
    (case k_lw => k_is)
    (case z_len => k_is)
    (case z_max => k_is)
    (case z_abs => k_is)
    (case z_int => k_is)
    (case z_range => k_is)
    (case z_list => k_is)
    (case z_enumerate => k_is)
    (case z_isinstance => k_is)
    (case z_bool => k_is)
    (case z_tuple => k_is)
    (case z_all => k_is)
    (case z_repr => k_is)
    (case z_min => k_is)
    (case z_gcd => k_is)


