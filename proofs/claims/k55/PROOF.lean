import PyProof.Rows.All
import Wide.All
import OpenK.AllK
import Wide.FinOn
import HandS.ForMost
import HandS.ForExc
import HandS.Wide
import HandS.Gcd
import HandS.IsInst
import HandS.Defaults
import HandS.Flow
import HandS.EndBits
import HandS.Property
import HandS.Walk
import HandS.Style
import PySem.Challenge.RW_valvelevels_k55_polynomials_that_are_non
import HandS.Evl
import HandS.Steps
import PyProof.ReprRoads
import HandS.Head0
import HandS.Head1
import HandS.Head2
import HandS.Head3
import HandS.HeadHook1
import HandS.HeadHook2
import HandS.More
import HandS.Star
import KE.KExcIs
import HandS.TryOnly
import HandS.ExcInit
import HandS.ExcField
import HandS.ExcOwn
import HandS.ExcIs
import HandS.Iter
import HandS.Dict
import HandS.Deep
import HandS.MakeKwOnly
import HandS.Exc
import HandS.WordsExc
import HandS.OwnEq
import HandS.HotCalls
import HandS.Lambda
import PyProof.Rows.Digits
import PyProof.StrReplace2
import HandS.Text
import PyProof.ReprReads
import KE.KUnpack
import PyProof.CollectIter
import KE.IntTextText
import HandS.Comp
import HandS.ExcCtx
import HandS.ExcInitHot
import HandS.SuiteRaise
import PyProof.NeData
import HandS.ReplaceLit
import HandS.ReplaceDef
import PyProof.Rows.StrRev
set_option Elab.async false
set_option linter.all false
set_option maxRecDepth 100000
set_option maxHeartbeats 20000000
set_option exponentiation.threshold 100000
namespace V2
open PySem L2
/-! the text by its places -/
def topS (i : Nat) : Stmt := PySem.Challenge.pw_valvelevels_k55_polynomials_that_are_non.main.body.getD i (.Pass ⟨0, 0, 0, 0⟩)
/-- a def in a class's body -/
def inClass (st : Stmt) (i : Nat) : Stmt := match st with
  | .ClassDef _ _ _ body _ _ _ _ _ _ _ => body.getD i (.Pass ⟨0, 0, 0, 0⟩)
  | _ => .Pass ⟨0, 0, 0, 0⟩

abbrev s_TE_init : Stmt := inClass (topS 1) 0
abbrev n_TE_init : List Str := ["self", "value"]
abbrev p_TE_init : List Str := ["self", "value"]
theorem sc_TE_init : FnScope n_TE_init p_TE_init (defScope s_TE_init) := ⟨rfl, rfl, rfl, by decide +kernel, rfl, by decide +kernel, by decide +kernel⟩
abbrev s_is_integer : Stmt := topS 5
abbrev n_is_integer : List Str := ["thing"]
abbrev p_is_integer : List Str := ["thing"]
theorem sc_is_integer : FnScope n_is_integer p_is_integer (defScope s_is_integer) := ⟨rfl, rfl, rfl, by decide +kernel, rfl, by decide +kernel, by decide +kernel⟩
abbrev s_is_polynomial : Stmt := topS 6
abbrev n_is_polynomial : List Str := ["thing", "number"]
abbrev p_is_polynomial : List Str := ["thing"]
theorem sc_is_polynomial : FnScope n_is_polynomial p_is_polynomial (defScope s_is_polynomial) := ⟨rfl, rfl, rfl, by decide +kernel, rfl, by decide +kernel, by decide +kernel⟩
abbrev s_read_polynomial : Stmt := topS 8
abbrev n_read_polynomial : List Str := ["text", "one", "part"]
abbrev p_read_polynomial : List Str := ["text"]
theorem sc_read_polynomial : FnScope n_read_polynomial p_read_polynomial (defScope s_read_polynomial) := ⟨rfl, rfl, rfl, by decide +kernel, rfl, by decide +kernel, by decide +kernel⟩
abbrev s_read_integer : Stmt := topS 9
abbrev n_read_integer : List Str := ["text", "digits", "sign"]
abbrev p_read_integer : List Str := ["text"]
theorem sc_read_integer : FnScope n_read_integer p_read_integer (defScope s_read_integer) := ⟨rfl, rfl, rfl, by decide +kernel, rfl, by decide +kernel, by decide +kernel⟩
abbrev s_show_polynomial : Stmt := topS 11
abbrev n_show_polynomial : List Str := ["one", "number"]
abbrev p_show_polynomial : List Str := ["one"]
theorem sc_show_polynomial : FnScope n_show_polynomial p_show_polynomial (defScope s_show_polynomial) := ⟨rfl, rfl, rfl, by decide +kernel, rfl, by decide +kernel, by decide +kernel⟩
abbrev s_show_integer : Stmt := topS 12
abbrev n_show_integer : List Str := ["number", "left", "parts", "part"]
abbrev p_show_integer : List Str := ["number"]
theorem sc_show_integer : FnScope n_show_integer p_show_integer (defScope s_show_integer) := ⟨rfl, rfl, rfl, by decide +kernel, rfl, by decide +kernel, by decide +kernel⟩
abbrev s_l_purse : Stmt := topS 14
abbrev n_l_purse : List Str := ["script", "place", "cell"]
abbrev p_l_purse : List Str := ["script", "place"]
theorem sc_l_purse : FnScope n_l_purse p_l_purse (defScope s_l_purse) := ⟨rfl, rfl, rfl, by decide +kernel, rfl, by decide +kernel, by decide +kernel⟩
abbrev s_l_coin : Stmt := topS 15
abbrev n_l_coin : List Str := ["purse", "many", "drawn", "stirred"]
abbrev p_l_coin : List Str := ["purse", "many"]
theorem sc_l_coin : FnScope n_l_coin p_l_coin (defScope s_l_coin) := ⟨rfl, rfl, rfl, by decide +kernel, rfl, by decide +kernel, by decide +kernel⟩
abbrev s_l_is_number : Stmt := topS 16
abbrev n_l_is_number : List Str := ["piece", "size", "sign_now"]
abbrev p_l_is_number : List Str := ["piece"]
theorem sc_l_is_number : FnScope n_l_is_number p_l_is_number (defScope s_l_is_number) := ⟨rfl, rfl, rfl, by decide +kernel, rfl, by decide +kernel, by decide +kernel⟩
abbrev s_l_polynomial_of : Stmt := topS 17
abbrev n_l_polynomial_of : List Str := ["wording", "pieces_now", "piece"]
abbrev p_l_polynomial_of : List Str := ["wording"]
theorem sc_l_polynomial_of : FnScope n_l_polynomial_of p_l_polynomial_of (defScope s_l_polynomial_of) := ⟨rfl, rfl, rfl, by decide +kernel, rfl, by decide +kernel, by decide +kernel⟩
abbrev s_l_caught_one : Stmt := topS 18
abbrev n_l_caught_one : List Str := ["wording", "way", "found", "again", "e", "odd"]
abbrev p_l_caught_one : List Str := ["wording", "way"]
theorem sc_l_caught_one : FnScope n_l_caught_one p_l_caught_one (defScope s_l_caught_one) := ⟨rfl, rfl, rfl, by decide +kernel, rfl, by decide +kernel, by decide +kernel⟩
abbrev s_l_odd_one : Stmt := topS 19
abbrev n_l_odd_one : List Str := ["purse", "wording", "menu", "many"]
abbrev p_l_odd_one : List Str := ["purse", "wording"]
theorem sc_l_odd_one : FnScope n_l_odd_one p_l_odd_one (defScope s_l_odd_one) := ⟨rfl, rfl, rfl, by decide +kernel, rfl, by decide +kernel, by decide +kernel⟩
abbrev s_l_marred_one : Stmt := topS 20
abbrev n_l_marred_one : List Str := ["purse", "wording", "spot", "way", "wide", "signs", "sign_now", "between", "pieces_now", "left", "right", "piece"]
abbrev p_l_marred_one : List Str := ["purse", "wording"]
theorem sc_l_marred_one : FnScope n_l_marred_one p_l_marred_one (defScope s_l_marred_one) := ⟨rfl, rfl, rfl, by decide +kernel, rfl, by decide +kernel, by decide +kernel⟩
abbrev s_l_right : Stmt := topS 21
abbrev n_l_right : List Str := ["purse", "top", "numbers_here", "wording", "turn", "bent", "piece"]
abbrev p_l_right : List Str := ["purse"]
theorem sc_l_right : FnScope n_l_right p_l_right (defScope s_l_right) := ⟨rfl, rfl, rfl, by decide +kernel, rfl, by decide +kernel, by decide +kernel⟩
abbrev s_law : Stmt := topS 22
abbrev n_law : List Str := ["script", "spot", "purse", "turn"]
abbrev p_law : List Str := ["script"]
theorem sc_law : FnScope n_law p_law (defScope s_law) := ⟨rfl, rfl, rfl, by decide +kernel, rfl, by decide +kernel, by decide +kernel⟩
end V2


namespace V2
open PySem L2
open PySem.Spec PyProof.Rows
def CPowX (i j : Int) : Prop := 0 ≤ j ∧ (Builtin.Int.intBits i : Int) * j ≤ 2 ^ 27
theorem op_powX {X : Cx} : OpR X (binaryOp .Pow) (rI CPowX fun i j => .int (i ^ j.toNat)) :=
  opI fun _ _ _ _ _ _ _ hc q => pow_int hc.1 hc.2 q
theorem pow_ok {i : Int} {k n : Nat} (hi : i.natAbs < 2 ^ k) (h : k * n ≤ 134217728) : CPowX i (n : Int) := by
  (refine ⟨Int.natCast_nonneg _, ?_⟩)
  have h1 := intBits_le hi
  have h2 : Builtin.Int.intBits i * n ≤ k * n := Nat.mul_le_mul_right n h1
  have h3 : ((Builtin.Int.intBits i * n : Nat) : Int) ≤ 134217728 := by omega
  have e : (2 : Int) ^ 27 = 134217728 := (by decide)
  rw [e, ← Int.natCast_mul]
  exact h3
/-- all but the list at p is as it was (and there may be new things) -/
def But (p : Addr) (H H' : Hp) : Prop := ∀ b o, b ≠ p → H b = some o → H' b = some o
theorem But.refl (p : Addr) (H : Hp) : But p H H := fun _ _ _ h => h
theorem But.trans {p : Addr} {H H1 H2 : Hp} (a : But p H H1) (b : But p H1 H2) : But p H H2 := fun c o n h => b c o n (a c o n h)
theorem But.of_ex {p : Addr} {H H' : Hp} (e : Evl.Ex H H') : But p H H' := fun b o _ h => e b o h
theorem But.upd {p : Addr} {H : Hp} {o : HO} : But p H (upd H p o) := fun b u n h => by
  rw [upd_ne n]; exact h
/-- the law's sack at p: three ints, at most m draws so far -/
def Sk (H : Hp) (p : Addr) (m : Nat) : Prop := ∃ a b c : Int, H p = some (.lst [.int a, .int b, .int c]) ∧ 0 ≤ a ∧ 0 ≤ b ∧ b < 2 ^ 80 ∧ 0 ≤ c ∧ c ≤ m
theorem Sk.le {H : Hp} {p : Addr} {m n : Nat} (h : Sk H p m) (l : m ≤ n) : Sk H p n := by
  obtain ⟨a, b, c, h1, h2, h3, h4, h5, h6⟩ := h
  exact ⟨a, b, c, h1, h2, h3, h4, h5, by omega⟩
theorem Sk.ex {H H' : Hp} {p : Addr} {m : Nat} (h : Sk H p m) (e : Evl.Ex H H') : Sk H' p m := by
  obtain ⟨a, b, c, h1, h2⟩ := h
  exact ⟨a, b, c, e _ _ h1, h2⟩
/-- a draw: any number below many, the sack goes on -/
def spCoin : Sp := fun vs H Q _ => ∃ (p : Addr) (many : Int) (m : Nat), vs = [.ref p, .int many] ∧ Sk H p m ∧ m ≤ 100000 ∧ 0 < many ∧ many.natAbs < 2 ^ 200 ∧
  ∀ (r : Int) (H' : Hp), 0 ≤ r → r < many → But p H H' → Sk H' p (m + 1) → (∀ q, H q = none → H' q = none) → Q (.int r) H'
structure T0 (mg : Str → Option Value) : Prop where
  len : mg "len" = none
  max : mg "max" = none
  abs : mg "abs" = none
  int : mg "int" = none
theorem at0 {a b c : V} : atI [a, b, c] 0 = some a := by rfl
theorem at1 {a b c : V} : atI [a, b, c] 1 = some b := by rfl
theorem at2 {a b c : V} : atI [a, b, c] 2 = some c := by rfl
theorem ixN3 (j : Nat) (h : j < 3) : ixN 3 (j : Int) = some j := Evl.ixN_nat h
section
variable {base : Heap} {mg : Str → Option Value} {K : PySem.W.Frag} {w : World} {P : Program}
end
end V2



namespace V2
/-- how many zeros a list begins with -/
def zer : List Int → Nat
  | [] => 0
  | x :: r => if x = 0 then zer r + 1 else 0
theorem zer_le : ∀ l : List Int, zer l ≤ l.length
  | [] => Nat.le_refl _
  | x :: r => by
    unfold zer
    split
    · have := zer_le r; simp only [List.length_cons]; omega
    · exact Nat.zero_le _
theorem zer_in : ∀ (l : List Int) (j : Nat), j < zer l → l[j]? = some 0
  | [], j, h => absurd h (Nat.not_lt_zero _)
  | x :: r, j, h => by
    unfold zer at h
    split at h
    · rename_i e
      cases j with
      | zero => simp [e]
      | succ j => simpa using zer_in r j (by omega)
    · exact absurd h (Nat.not_lt_zero _)
theorem zer_at : ∀ (l : List Int), zer l < l.length → ∃ x, l[zer l]? = some x ∧ x ≠ 0
  | [], h => absurd h (Nat.not_lt_zero _)
  | x :: r, h => by
    unfold zer at h ⊢
    split
    · rename_i e
      rw [if_pos e, List.length_cons] at h
      obtain ⟨y, h1, h2⟩ := zer_at r (by omega)
      exact ⟨y, by simpa using h1, h2⟩
    · rename_i e
      exact ⟨x, rfl, e⟩
/-- how many zeros stand at the end -/
def tz (ns : List Int) : Nat := zer ns.reverse
theorem tz_le (ns : List Int) : tz ns ≤ ns.length := by
  have := zer_le ns.reverse
  rwa [List.length_reverse] at this
theorem tz_in (ns : List Int) (j : Nat) (h : j < tz ns) : ns[ns.length - 1 - j]? = some 0 := by
  have h1 := zer_in ns.reverse j h
  have h2 := tz_le ns
  rwa [List.getElem?_reverse (by omega)] at h1
theorem tz_at (ns : List Int) (h : tz ns < ns.length) : ∃ x, ns[ns.length - 1 - tz ns]? = some x ∧ x ≠ 0 := by
  have h1 := zer_at ns.reverse (by rwa [List.length_reverse])
  obtain ⟨x, h2, h3⟩ := h1
  refine ⟨x, ?_, h3⟩
  change ns.reverse[tz ns]? = some x at h2
  rwa [List.getElem?_reverse h] at h2
/-- without the zeros at the end -/
def trm (ns : List Int) : List Int := ns.take (ns.length - tz ns)
/-- no 0 at the end -/
def Pol (ns : List Int) : Prop := ∀ x, ns[ns.length - 1]? = some x → x ≠ 0
theorem pol_trm (ns : List Int) : Pol (trm ns) := by
  intro x h
  unfold trm at h
  have h2 := tz_le ns
  rw [List.length_take, Nat.min_eq_left (Nat.sub_le _ _)] at h
  by_cases h3 : tz ns < ns.length
  · obtain ⟨y, h4, h5⟩ := tz_at ns h3
    rw [List.getElem?_take, if_pos (by omega), show ns.length - tz ns - 1 = ns.length - 1 - tz ns by omega, h4] at h
    cases h; exact h5
  · rw [List.getElem?_take, if_neg (by omega)] at h
    cases h
theorem trm_len (ns : List Int) : (trm ns).length ≤ ns.length := by
  unfold trm; rw [List.length_take]; omega
theorem trm_mem {ns : List Int} {x : Int} (h : x ∈ trm ns) : x ∈ ns := List.mem_of_mem_take h
def fr (u d : Int) : Int × Int := (u / (Int.gcd u d : Int), d / (Int.gcd u d : Int))
end V2


namespace V2
open PySem L2
open PySem.Spec PyProof.Rows
def iV (ns : List Int) : List V := ns.map V.int
theorem iV_len (ns : List Int) : (iV ns).length = ns.length := List.length_map ..
theorem iV_at {ns : List Int} {j : Nat} {n : Int} (h : ns[j]? = some n) : (iV ns)[j]? = some (.int n) := by
  unfold iV; rw [List.getElem?_map, h]; rfl
/-- the script, the rank: a new sack -/
def spSack (K : PySem.W.Frag) : Sp := fun vs H Q _ => ∃ (a : Addr) (ns : List Int) (r : Nat), vs = [.ref a, .int (r : Int)] ∧ SqL K H a (iV ns) ∧ ns.length ≤ 63 ∧ r ≤ 63 ∧
  ∀ (q : Addr) (H' : Hp), H q = none → Evl.Ex H H' → Sk H' q 0 → Q (.ref q) H'
section
variable {base : Heap} {mg : Str → Option Value} {K : PySem.W.Frag} {w : World} {P : Program}
end
end V2


namespace V2
open PySem L2
open PySem.Spec PyProof.Rows
/-- a def that may be called by its name x -/
def Cal (P : Program) (w : World) (K : PySem.W.Frag) (mg : Str → Option Value) (base : Heap) (k : Nat) (x : Str) (ps : List Str) (sp : Sp) : Prop :=
  ∃ (f : Addr) (fd : FuncData), FnOk P w K mg base CX0 k f fd ps sp ∧ mg x = some (.ref f) ∧ PySem.W.keepIn K (.ref f) = true ∧ Binds K fd ps []
theorem pe_c {X : Cx} {k : Nat} {x : Str} {ps : List Str} {sp : Sp} {e : Expr} {es : List Expr} {t : TA} {p pos : Pos} (c : Cal X.prog X.w X.K X.mg X.base k x ps sp) (hr : Room k X.A) (ha : PA X (e :: es) t) (hg : Gl X x := by rfl)
    (he : starEach (e :: es) X.env = (false, eval e X.env) :: starEach es X.env := by rfl)
    (hpl : (backTo pos (starEach es X.env)).any (fun b => b.1) = false := by rfl) (hdb : (x == ("__debug__" : Str)) = false := by decide) :
    PE X (.Call (.Name x p) (e :: es) [] pos) (tCall sp [] E0 t) := by
  obtain ⟨f, fd, F, hm, hk, hb⟩ := c
  exact pe_call F hr hg hm hk hb .nil pass0 ha hdb he hpl
section
variable {base : Heap} {mg : Str → Option Value} {K : PySem.W.Frag} {w : World} {P : Program}
end
end V2


namespace V2
def vec (N : Nat) (f : Nat → Int) : List Int := (List.range N).map f
theorem vec_len (N : Nat) (f : Nat → Int) : (vec N f).length = N := by unfold vec; simp
theorem vec_get {N : Nat} {f : Nat → Int} {i : Nat} (h : i < N) : (vec N f)[i]? = some (f i) := by
  unfold vec; simp [h]
theorem getD_at {l : List Int} {k : Nat} {x : Int} (h : l[k]? = some x) : l.getD k 0 = x := by
  rw [List.getD_eq_getElem?_getD, h]; rfl
theorem getD_out {l : List Int} {k : Nat} (h : l.length ≤ k) : l.getD k 0 = 0 := by
  rw [List.getD_eq_getElem?_getD, List.getElem?_eq_none h]; rfl
end V2


namespace V2
open PySem L2
open PySem.Spec PyProof.Rows
section
variable {base : Heap} {mg : Str → Option Value} {K : PySem.W.Frag} {w : World} {P : Program}
theorem if_t {c : Bool} {A B : Prop} (hc : c = true) (h : A) : if c = true then A else B := by
  rw [if_pos hc]; exact h
theorem if_f {c : Bool} {A B : Prop} (hc : c = false) (h : B) : if c = true then A else B := by
  rw [hc, if_neg Bool.false_ne_true]; exact h
end
end V2


namespace V2
open PySem L2
open PySem.Spec PyProof.Rows
/-- a list of ints at a -/
def Li (H : Hp) (a : Addr) (ns : List Int) : Prop := H a = some (.lst (iV ns))
theorem iV_get {ns : List Int} {i : Nat} {x : V} (h : (iV ns)[i]? = some x) : ∃ n, ns[i]? = some n ∧ x = .int n := by
  unfold iV at h
  rw [List.getElem?_map] at h
  cases e : ns[i]? with
  | none =>
    rw [e] at h
    cases h
  | some n => rw [e] at h; exact ⟨n, rfl, (Option.some.inj h).symm⟩
/-- a polynomial that may be handed over: at most 16 numbers below 2 ^ 64 -/
def Pn (ns : List Int) : Prop := Pol ns ∧ ns.length ≤ 16 ∧ ∀ x ∈ ns, -(2 ^ 64) < x ∧ x < 2 ^ 64
section
variable {base : Heap} {mg : Str → Option Value} {K : PySem.W.Frag} {w : World} {P : Program}
end
end V2


namespace V2
open PySem L2
open PySem.Spec PyProof.Rows
theorem iV_app (xs ys : List Int) : iV xs ++ iV ys = iV (xs ++ ys) := by unfold iV; rw [List.map_append]
section
variable {base : Heap} {mg : Str → Option Value} {K : PySem.W.Frag} {w : World} {P : Program}
end
end V2


namespace V2
def hA (p q : Int) : List Int → Int
  | [] => 0
  | a :: r => a * q ^ (r.length + 1) + p * hA p q r
end V2


namespace V2
open PySem L2
open PySem.Spec PyProof.Rows
/-- a fraction's tuple at a -/
def Fr (H : Hp) (a : Addr) (p q : Int) : Prop := H a = some (.tup [.int p, .int q])
def Qn (p q : Int) : Prop := 0 < q ∧ Int.gcd p q = 1 ∧ p.natAbs < 2 ^ 50 ∧ q.natAbs < 2 ^ 50
section
variable {base : Heap} {mg : Str → Option Value} {K : PySem.W.Frag} {w : World} {P : Program}
end
end V2


namespace V2
open PySem L2
open PySem.Spec PyProof.Rows
theorem big {x : Int} {n m : Nat} (h : x.natAbs < 2 ^ n) (l : n ≤ m) : x.natAbs < 2 ^ m := Nat.lt_of_lt_of_le h (Nat.pow_le_pow_right (by decide) l)
section
variable {base : Heap} {mg : Str → Option Value} {K : PySem.W.Frag} {w : World} {P : Program}
end
end V2


namespace V2
open PySem L2
open PySem.Spec PyProof.Rows
def spInt : Sp := fun vs H Q _ => ∃ n : Int, vs = [.int n] ∧ Evl.RetV (.bl true) H Q
theorem atI_end {ns : List Int} (h0 : ns ≠ []) : ∃ x, ns[ns.length - 1]? = some x ∧ atI (iV ns) (-1) = some (.int x) := by
  have e := List.dropLast_concat_getLast h0
  refine ⟨ns.getLast h0, ?_, ?_⟩
  · rw [← List.getLast?_eq_getElem?, List.getLast?_eq_some_getLast h0]
  · have e2 : iV ns = iV ns.dropLast ++ [.int (ns.getLast h0)] := by
      conv => lhs; rw [← e]
      unfold iV
      rw [List.map_append]
      rfl
    rw [e2]
    exact atI_last _ _
theorem rep_snoc (n : Nat) (x : V) : List.replicate n x ++ [x] = List.replicate (n + 1) x := by
  rw [List.replicate_succ']
section
variable {base : Heap} {mg : Str → Option Value} {K : PySem.W.Frag} {w : World} {P : Program}
end
end V2


namespace V2
open PySem L2
open PySem.Spec PyProof.Rows
structure FnG (P : Program) (w : World) (K : PySem.W.Frag) (mg : Str → Option Value) (base : Heap) (k : Nat) (f : Addr) (fd : FuncData) (ps : List Str) (sp : Sp) : Prop where
  len : ∀ vs H Qv Ee, sp vs H Qv Ee → vs.length = ps.length
  run : ∀ (A : Around) (outer : List Env) (s : Shared) (H : Hp) (args : Args) (us : List Value) (vs : List V) (Q : VK) (E : XK), A.guards = some [] → Room k A → Env0 P w K mg base A outer s H → BindsTo s fd args (ps.zip us) → Vals vs us → sp vs H Q E →
    codeAny (model P w) A (.call (.ref f) args) (CR CX0 outer P w H s Q E) s
theorem FnOk.toG {P : Program} {w : World} {K : PySem.W.Frag} {mg : Str → Option Value} {base : Heap} {k : Nat} {f : Addr} {fd : FuncData} {ps : List Str} {sp : Sp} (F : FnOk P w K mg base CX0 k f fd ps sp) : FnG P w K mg base k f fd ps sp :=
  ⟨F.len, fun A outer s H args us vs Q E _ => F.run A outer s H args us vs Q E⟩
end V2


namespace V2
open PySem L2
open PySem.Spec PyProof.Rows
/-- it says True and leaves what it found -/
def Fine (s₁ : Shared) : Result → Shared → Prop := fun r s2 =>
  r = .ok (.ret (.bool true)) ∧ OldK s₁.heap s2.heap ∧ s2.os = s₁.os ∧ AllBare s2.gens
section
variable {P : Program} {w : World} {K : PySem.W.Frag} {mg mb : Str → Option Value} {k : Nat} {fa a : Addr} {fd : FuncData} {x : Str} {sp : Sp} {s₁ : Shared} {vs : List Value} {ns : List Int}
/-- from an abstract heap that tracks the script at most -/
theorem core_G (KX : K.In s₁.heap) (hns : s₁.heap.Ns mainGlobals mg) (hb : s₁.heap.Ns builtinsNs mb) (hbb : ∀ x : Str, x ≠ "__name__" → mb x = bootBuiltins x) (hlim : s₁.heap.NoLimit) (hg : s₁.gens = #[])
    (ha : s₁.heap.get? a = some { cls := .type "list", data := .seq vs.toArray }) (hr : Room k callerA)
    (F : ∀ base : Heap, K.In base → base.Ns mainGlobals mg → FnG P w K mg base k fa fd [x] sp) (hbind : ∀ (s : Shared) (u : Value), BindsTo s fd ⟨[u], []⟩ [(x, u)])
    (H : Hp) (hO : Only H) (hq : sp [.ref a] H (fun v _ => v = .bl true) fun _ _ _ => False) (hok : HOk P w H s₁.heap) (hA : ∀ b u, H b = some u → b = a) (hK : ∀ u, H a = some u → K.lookup a = none) :
    codeAny (model P w) callerA (.call (.ref fa) ⟨[.ref a], []⟩) (Fine s₁) s₁ := by
  have dictNo : ∀ {b : Addr} {o : Obj} {es : Array DictEntry} {ep : Nat}, s₁.heap.get? b = some o → o.data = .dict es ep → H b = none := by
    intro b o es ep e d
    cases q : H b with
    | none => rfl
    | some u =>
      obtain rfl := hA b u q
      rw [ha] at e
      cases e
      cases d
  have hideNs : ∀ {b : Addr} {m : Str → Option Value}, s₁.heap.Ns b m → (hidT s₁.heap H).Ns b m := by
    rintro b m ⟨o, es, ep, e, d, r⟩
    exact ⟨o, es, ep, hidT_get e (dictNo e d), d, r⟩
  have hKb : K.In (hidT s₁.heap H) := by
    intro b o e
    apply hidT_get (KX b o e)
    cases q : H b with
    | none => rfl
    | some u =>
      obtain rfl := hA b u q
      rw [hK u q] at e
      cases e
  have hM : Mod K mg (hidT s₁.heap H) := by
    obtain ⟨mc, h1, h2⟩ := hlim
    exact ⟨hKb, hideNs hns, ⟨mb, hideNs hb, hbb⟩, ⟨mc, hideNs h1, h2⟩⟩
  have none_ : ∀ b ∈ frs [], H b = none := by
    intro b hb
    cases (show b ∈ ([] : List Addr) from hb)
  have e0 : Env0 P w K mg (hidT s₁.heap H) callerA [] s₁ H := ⟨rfl, hM, fun b o e => of_hidT e, Nat.le_of_eq (hidT_size _ _), trivial, none_, hok, .of_eq hg⟩
  apply codeAny_mono ((F _ hKb (hideNs hns)).run callerA [] s₁ H ⟨[.ref a], []⟩ [.ref a] [.ref a] _ _ rfl hr e0 (hbind s₁ (.ref a)) (.cons rfl .nil) hq)
  intro r s' h
  cases r with
  | error e => exact h.elim
  | ok fl =>
    cases fl with
    | next => exact h.elim
    | brk => exact h.elim
    | cont => exact h.elim
    | ret u =>
      obtain ⟨v, H', os, bare, un, hok', r', rfl⟩ := h
      have eu : u = Value.bool true := r'
      subst eu
      refine ⟨rfl, OldK.of_keep ?_, os, bare⟩
      intro b o e
      cases q : H b with
      | none => exact un.keep b o e q (by intro z; cases (show b ∈ ([] : List Addr) from z)) (by intro z; cases z)
      | some u =>
        (rcases hO b with z | ⟨ob, xs, z⟩)
        · rw [q] at z; cases z
        · have e1 := (hok b _ z).1
          have e2 := (hok' b _ (un.frzs b ob _ z)).1
          rw [e] at e1
          cases e1
          exact e2
theorem law_G (KX : K.In s₁.heap) (hns : s₁.heap.Ns mainGlobals mg) (hb : s₁.heap.Ns builtinsNs mb) (hbb : ∀ x : Str, x ≠ "__name__" → mb x = bootBuiltins x) (hlim : s₁.heap.NoLimit) (hg : s₁.gens = #[])
    (ha : s₁.heap.get? a = some { cls := .type "list", data := .seq vs.toArray })
    (hi : IntsAre vs ns) (hl : ns.length ≤ sizeLine) (hr : Room k callerA)
    (F : ∀ base : Heap, K.In base → base.Ns mainGlobals mg → FnG P w K mg base k fa fd [x] sp) (hbind : ∀ (s : Shared) (u : Value), BindsTo s fd ⟨[u], []⟩ [(x, u)])
    (hsp : ∀ H : Hp, Only H → SqL K H a (ns.map V.int) → sp [.ref a] H (fun v _ => v = .bl true) fun _ _ _ => False) :
    codeAny (model P w) callerA (.call (.ref fa) ⟨[.ref a], []⟩) (Fine s₁) s₁ := by
  have rv := vals_ints hi
  have lenV := hi.length
  cases hk : K.lookup a with
  | some o =>
    have e := KX a o hk
    rw [ha] at e
    cases e
    have hS : SqL K (fun _ => none) a (ns.map V.int) := .inr ⟨_, vs.toArray, _, hk, rfl, rfl, rfl, by rw [List.size_toArray, lenV]; exact hl, by simpa using rv⟩
    have hO : Only (fun _ => none) := fun _ => .inl rfl
    exact core_G KX hns hb hbb hlim hg ha hr F hbind _ hO (hsp _ hO hS) (fun b u z => by cases (show (none : Option HO) = some u from z)) (fun b u z => by cases (show (none : Option HO) = some u from z)) fun u z => by cases (show (none : Option HO) = some u from z)
  | none =>
    let H : Hp := fun b => if b = a then some (.frz { cls := .type "list", data := .seq vs.toArray } (.lst (ns.map V.int))) else none
    have at_a : H a = some (.frz { cls := .type "list", data := .seq vs.toArray } (.lst (ns.map V.int))) := if_pos rfl
    have off : ∀ b u, H b = some u → b = a := by
      intro b u z
      by_cases e : b = a
      · exact e
      · rw [show H b = none from if_neg e] at z; cases z
    have hO : Only H := by
      intro b
      by_cases e : b = a
      · exact .inr ⟨_, _, by rw [e]; exact at_a⟩
      · exact .inl (if_neg e)
    have hok : HOk P w H s₁.heap := by
      intro b u z
      obtain rfl := off b u z
      rw [at_a] at z
      cases z
      (exact ⟨ha, by rw [List.length_map]; exact hl, vs, _, rv, ha⟩)
    exact core_G KX hns hb hbb hlim hg ha hr F hbind H hO (hsp H hO (.inl (.inr ⟨_, at_a⟩))) hok off fun _ _ => hk
end
end V2


namespace V2
open PySem L2
open PySem.Spec PyProof.Rows
/-- a def, by where it stands -/
structure DfX where
  adr : PySem.W.Frag → Addr
  nm : Str
  ql : Str
  st : Stmt
abbrev RwX : Type := Option (Str × Str × Arguments × FuncBody × Scope × Addr × List (Str × Addr) × Value × Addr)
def DfX.seen (K : PySem.W.Frag) (d : DfX) : RwX := match K.lookup (d.adr K) with
  | some ⟨_, _, .func g, _⟩ => some (g.name, g.qualname, g.params, g.body, g.scope, g.globals, g.closure, g.defaults, g.builtins)
  | _ => none
def DfX.due (d : DfX) : RwX := some (d.nm, d.ql, defArgs d.st, .stmts (defBody d.st), defScope d.st, mainGlobals, [], .none, builtinsNs)
def DfX.good (K : PySem.W.Frag) (d : DfX) : Bool := PySem.W.keepIn K (.ref (d.adr K)) && (match K.lookup (d.adr K) with
  | some ⟨_, _, .func g, _⟩ => PySem.W.codeIn K g.code d.ql
  | _ => false)
theorem DfX.fun_ {K : PySem.W.Frag} {d : DfX} (e : d.seen K = d.due) (c : d.good K = true) : ∃ fd, Fun K d.nm d.ql d.st (d.adr K) fd := by
  obtain ⟨kp, c⟩ := He.ba c
  unfold DfX.seen at e
  cases q : K.lookup (d.adr K) with
  | none =>
    rw [q] at c
    cases c
  | some o =>
    obtain ⟨oc, od, dt, sl⟩ := o
    rw [q] at c e
    cases dt with
    | func g =>
      obtain ⟨g1, g2, g3, g4, g5, g6, g7, g8, g9, g10, g11, g12, g13, g14, g15⟩ := g
      have e : (some (g1, g2, g3, g4, g5, g6, g7, g8, g15) : RwX) = some (d.nm, d.ql, defArgs d.st, .stmts (defBody d.st), defScope d.st, mainGlobals, [], .none, builtinsNs) := e
      simp only [Option.some.injEq, Prod.mk.injEq] at e
      obtain ⟨rfl, rfl, rfl, rfl, rfl, rfl, rfl, rfl, rfl⟩ := e
      exact ⟨_, fun_mk q c kp⟩
    | _ => cases c
/-- the words of a dict -/
abbrev TbX : Type := Option (List (Option Str × Int) × Bool)
def wordOf : Value → Option Str
  | .str x _ => some x
  | _ => none
def tabX (K : PySem.W.Frag) (a : Addr) : TbX := match K.lookup a with
  | some ⟨.type c, none, .dict es _, sl⟩ => some (es.toList.map fun e => (wordOf e.key, e.hash), decide (c = "dict") && (sl.size == 0 && !(a == sysModules)))
  | _ => none
def tabDue (w : World) (xs : List Str) : TbX := some (xs.map fun x => (some x, PyData.keyHash w.params x), true)
def bGlo (x : Str) (K : PySem.W.Frag) : Bool := (He.Fa.glo x).ok K
def bFree (x : Str) (K : PySem.W.Frag) : Bool := (He.Fa.free x).ok K
/-- nobody has set the limit of digits -/
def bNoDig (K : PySem.W.Frag) : Bool := He.eqO (PySem.W.nsIn K cStatics "sys.int_max_str_digits") (some none)
abbrev AlX : Type := Bool × Bool × List RwX × List TbX
structure Lk where
  fb : List (PySem.W.Frag → Bool)
  ds : List DfX
  tb : List (Str × List Str)
def Lk.seen (L : Lk) (K : PySem.W.Frag) : AlX := (L.fb.all fun f => f K, L.ds.all fun d => d.good K, L.ds.map (·.seen K), L.tb.map fun t => tabX K (He.ga K t.1))
def Lk.due (L : Lk) (w : World) : AlX := (true, true, L.ds.map (·.due), L.tb.map fun t => tabDue w t.2)
/-- a list of objects, its addresses read once -/
def frK {α : Type} : PySem.W.Frag → (PySem.W.Frag → α) → α
  | [], k => k []
  | (a, o) :: r, k => HandSHeadRun.frNat a fun a => frK r fun r => k ((a, o) :: r)
theorem frK_eq {α : Type} : ∀ (K : PySem.W.Frag) (k : PySem.W.Frag → α), frK K k = k K
  | [], k => rfl
  | (a, o) :: r, k => by
    show HandSHeadRun.frNat a (fun a => frK r fun r => k ((a, o) :: r)) = _
    rw [HandSHeadRun.frNat_eq, frK_eq r]
/-- the first n objects -/
def Lk.off (L : Lk) (n : Nat) (g : Addr → Option Obj) : AlX := frK (He.frG g (List.range n)) fun K => L.seen K
def Lk.hook (L : Lk) (n : Nat) : PySem.W.Hook where
  α := AlX
  obs := fun s => L.off n s.heap.get?
  val := L.due
  says := fun w h => ∃ K : PySem.W.Frag, K.In h ∧ L.seen K = L.due w
  of := fun _ _ e => ⟨_, He.frG_in, (frK_eq _ _).symm.trans e⟩
  keeps := fun _ _ _ ⟨K, hK, c⟩ k => ⟨K, PySem.W.Frag.In.keeps hK k, c⟩
theorem Lk.off_eq {L : Lk} {n : Nat} {g : Addr → Option Obj} {s : Shared} (h : ∀ a, g a = s.heap.get? a) : L.off n g = (L.hook n).obs s := by
  have e : g = s.heap.get? := funext h
  rw [e] <;> rfl
section
variable {L : Lk} {K : PySem.W.Frag} {w : World}
theorem Lk.fact (c : L.seen K = L.due w) (i : Nat) {f : PySem.W.Frag → Bool} (h : L.fb[i]? = some f := by rfl) : f K = true := List.all_eq_true.mp (congrArg (fun z : AlX => z.1) c) f (List.mem_of_getElem? h)
theorem Lk.df (c : L.seen K = L.due w) (i : Nat) {d : DfX} (h : L.ds[i]? = some d := by rfl) : ∃ fd, Fun K d.nm d.ql d.st (d.adr K) fd := by
  have c2 : (L.ds.all fun d => d.good K) = true := congrArg (fun z : AlX => z.2.1) c
  have e : L.ds.map (·.seen K) = L.ds.map (·.due) := congrArg (fun z : AlX => z.2.2.1) c
  have e2 : (L.ds.map (·.seen K))[i]? = (L.ds.map (·.due))[i]? := by rw [e]
  rw [List.getElem?_map, List.getElem?_map, h] at e2
  exact DfX.fun_ (Option.some.inj e2) (List.all_eq_true.mp c2 d (List.mem_of_getElem? h))
end
/-- the run of a program with imports at its head -/
noncomputable abbrev whK (M : Nat) (r : PySem.W.OpenRow) (w : World) : Option (Shared × PySem.W.SharedT) := HandSHeadRun.wholeF (fun p => HandSHeadRun.stepQ (HandSHeadRun.denQ HandSHeadRun.tabQ) p w) HandSHeadRun.fenceQ M r.prog
noncomputable def lk0 (r : PySem.W.OpenRow) (q : Program) (loose : List Str) (x : Shared × PySem.W.SharedT) := (HandSHeadRun.looksF r.prog x.1.heap x.2.abs, HandSHeadRun.seenQ q loose (importedModules r.prog.main.body) (fun s => PySem.W.xlAt q [] s && PySem.W.recOk r.toRowW.records s) x.2.abs)
def lk1 (L : Lk) (n : Nat) (x : Shared × PySem.W.SharedT) : Bool × List TbX := frK (He.frG (HandSHeadRun.getT x.2) (List.range n)) fun K => (L.fb.all fun f => f K, L.tb.map fun t => tabX K (He.ga K t.1))
def lk2 (L : Lk) (n : Nat) (x : Shared × PySem.W.SharedT) : Bool := frK (He.frG (HandSHeadRun.getT x.2) (List.range n)) fun K => L.ds.all fun d => d.good K
def lk3 (L : Lk) (n : Nat) (x : Shared × PySem.W.SharedT) : List RwX := frK (He.frG (HandSHeadRun.getT x.2) (List.range n)) fun K => L.ds.map (·.seen K)
theorem Lk.run_parts {L : Lk} {n M : Nat} {r : PySem.W.OpenRow} {q : Program} {loose : List Str} {w : World} (h0 : (whK M r w).map (lk0 r q loose) = some (true, PySem.W.openGood q loose))
    (h1 : (whK M r w).map (lk1 L n) = some (true, L.tb.map fun t => tabDue w t.2)) (h2 : (whK M r w).map (lk2 L n) = some true) (h3 : (whK M r w).map (lk3 L n) = some (L.ds.map (·.due))) :
    HandSHeadRun.RunEqI r q (L.hook n) (fun s => L.off n (HandSHeadRun.getT s)) M loose w := by
  unfold HandSHeadRun.RunEqI
  show (whK M r w).map _ = _
  cases e : whK M r w with
  | none =>
    rw [e] at h0
    cases h0
  | some x =>
    rw [e] at h0 h1 h2 h3
    have h0 := Option.some.inj h0
    have h1 := Option.some.inj h1
    have h2 := Option.some.inj h2
    have h3 := Option.some.inj h3
    unfold lk0 at h0
    unfold lk1 at h1
    unfold lk2 at h2
    unfold lk3 at h3
    rw [frK_eq] at h1 h2 h3
    obtain ⟨a1, a2⟩ := Prod.mk.inj h0
    obtain ⟨b1, b2⟩ := Prod.mk.inj h1
    refine congrArg some ?_
    refine Prod.ext a1 (Prod.ext a2 ?_)
    show L.off n (HandSHeadRun.getT x.2) = L.due w
    unfold Lk.off
    rw [frK_eq]
    exact Prod.ext b1 (Prod.ext h2 (Prod.ext h3 b2))
theorem walk_GE {l : PySem.W.OpenLaw} {n k : Nat} {q : Program} {loose : List Str} {XP : (Str → Option Value) → Heap → Prop} {YP : World → Heap → Prop} {d : DefRec} {x : Str}
    (hn : l.most = some n) (hn2 : n ≤ sizeLine) (hdf : d.params.defaults = []) (hr : Room k callerA)
    (F : ∀ (w : World) (mg : Str → Option Value) (fa : Addr) (h : Heap), YP w h → h.Ns mainGlobals mg → mg d.name = some (.ref fa) →
      ∃ (K : PySem.W.Frag) (fd : FuncData) (sp : Sp), K.In h ∧ (∀ (s : Shared) (u : Value), BindsTo s fd ⟨[u], []⟩ [(x, u)]) ∧
        (∀ (H : Hp) (a : Addr) (ns : List Int), ns.length ≤ n → Only H → SqL K H a (ns.map V.int) → sp [.ref a] H (fun v _ => v = .bl true) fun _ _ _ => False) ∧
        ∀ base : Heap, K.In base → base.Ns mainGlobals mg → FnG l.prog w K mg base k fa fd [x] sp) :
    PySem.W.WalkO q loose XP YP l.row.toRowW d [] (fun f us => PySem.call f us) := by
  apply Att.attach_call hn hdf
  intro w s₀ s₁ mg mb fa o pm cd doc a vs ns G Y ho hd hcd hmg hobj hints hlen hg
  obtain ⟨K, fd, sp, KX, hb, hsp, hF⟩ := F w mg fa _ Y G.T.g hmg
  exact law_G KX G.T.g G.T.b G.T.builtins G.T.nolimit hg hobj hints (Nat.le_trans hlen hn2) hr hF hb fun H hO hS => hsp H a ns hlen hO hS
end V2


namespace V2
open PySem L2
open PySem.Spec PyProof.Rows
/-- what the written part says of an own class of errors, whose __init__ is fI's -/
structure EC (K : PySem.W.Frag) (C fI : Addr) : Prop where
  ox : OexC K C
  noV : PySem.W.findIn K (.ref C) "value" = some none
  iC : PySem.W.findIn K (.ref C) "__init__" = some (some (.ref fI))
  xf : XfC K C
  hcl : (PySem.W.clsIn K C).isSome = true
  ha : PySem.W.findIn K (.ref C) "__class__" = some (some (.builtin "object.__class__"))
  hm : PySem.W.mroIn K C (.type "object") = some true
/-- what is said for all of them -/
structure EG (K : PySem.W.Frag) (fI : Addr) : Prop where
  tI : PySem.W.typeIn K (.ref fI) = some (.type "function")
  hn : PySem.W.specialIn K (.builtin "object.__class__") "__get__" = some (some (.builtin "getset_descriptor.__get__"))
  ht : PySem.W.takesIn K (.builtin "object.__class__") = some true
/-- an error of the class at C, made with v, stands at e with its dict at d -/
structure Er (H : Hp) (e C d : Addr) (v : V) : Prop where
  at_ : H e = some (exo e C (some d))
  dict : H d = some (exd d [("value", v)])
theorem Er.ex {H H' : Hp} {e C d : Addr} {v : V} (h : Er H e C d v) (x : Evl.Ex H H') : Er H' e C d v := ⟨x _ _ h.at_, x _ _ h.dict⟩
def spInit (K : PySem.W.Frag) : Sp := fun vs H Q _ => ∃ (a C : Addr) (y : V), vs = [.ref a, y] ∧ OexC K C ∧ PySem.W.findIn K (.ref C) "value" = some none ∧ H a = some (exo a C none) ∧
  ∀ dx, H dx = none → dx ≠ a → Q .non (upd (upd H dx (exd dx [("value", y)])) a (exo a C (some dx)))
section
variable {base : Heap} {mg : Str → Option Value} {K : PySem.W.Frag} {w : World} {P : Program}
theorem ok_TE_init {f : Addr} {fd : FuncData} (F : Fun K "__init__" "TankError.__init__" s_TE_init f fd) : FnOk P w K mg base CX0 1 f fd p_TE_init (spInit K) := by
  refine F.ok sc_TE_init (fun vs H Q E h => ?_) (fun cdv A outer s H vs Q E hr h => ?_)
  · obtain ⟨a, C, y, rfl, _⟩ := h
    rfl
  · obtain ⟨a, C, y, rfl, T, hno, ha, k⟩ := h
    have nd := sc_TE_init.nd
    refine ⟨_, pss_one (ps_ost (pv 0) (pv 1)), ?_⟩
    exact ⟨_, rfl, _, rfl, a, C, rfl, T, hno, .inl ⟨ha, fun dx hd hn => k dx hd hn⟩⟩
end
section
variable {X : Cx} {x : Str} {C fI : Addr} {k : Nat} {fd : FuncData} {e : Expr} {ta : TA} {p pos : Pos}
end
end V2


namespace V2
open PySem L2
open PySem.Spec PyProof.Rows
abbrev eI (K : PySem.W.Frag) : Addr := He.ma K (He.ga K "TankError") "__init__"
def bObj (K : PySem.W.Frag) (C : Addr) : Bool := match K.lookup C with
  | some ⟨.type "type", _, .cls cd, sl⟩ => (match cd.mro, sl.toList with
    | .ref C' :: bm, [_, _, _, _, some (.builtin n), _] => C' == C && n == "ValueError.__new__" && !cd.hasDel && cd.hasDict && PySem.HandSPX.refsVE bm
    | _, _ => false)
  | _ => false
theorem obj_ok {K : PySem.W.Frag} {C : Addr} (q : bObj K C = true) : ∃ nm qn N bs bm sn sub ab col dd k0 k1 k2 k3 k5, K.lookup C = some (excClassObj nm qn C N bs bm true sn sub ab col dd k0 k1 k2 k3 k5 "ValueError.__new__") ∧ PySem.HandSPX.refsVE bm = true := by
  unfold bObj at q
  split at q
  · rename_i dd cd sl ho
    split at q
    · rename_i C' bm k0 k1 k2 k3 n k5 hm hs
      simp only [Bool.and_eq_true, beq_iff_eq, Bool.not_eq_true'] at q
      obtain ⟨⟨⟨⟨rfl, rfl⟩, hdel⟩, hdi⟩, hbm⟩ := q
      obtain ⟨nm, bs, mro, ns, qn, hd, sn, sub, ab, col, del⟩ := cd
      dsimp only at hm hdel hdi
      subst hm hdel hdi
      have hsl : sl = #[k0, k1, k2, k3, some (.builtin "ValueError.__new__"), k5] := by
        obtain ⟨l⟩ := sl
        simp only at hs
        rw [hs]
      subst hsl
      exact ⟨nm, qn, ns, bs, bm, sn, sub, ab, col, dd, k0, k1, k2, k3, k5, ho, hbm⟩
    · cases q
  · cases q
def bErr (x : Str) (K : PySem.W.Frag) : Bool := bObj K (He.ga K x) && (He.eqO (PySem.W.findIn K (.ref (He.ga K x)) "__setattr__") (some (some (.builtin "object.__setattr__"))) && (decide (PySem.W.typeIn K (.ref (He.ga K x)) = some (.type "type")) && (PySem.W.keepIn K (.ref (He.ga K x)) &&
  (He.eqO (PySem.W.findIn K (.ref (He.ga K x)) "value") (some none) && (He.eqO (PySem.W.findIn K (.ref (He.ga K x)) "__init__") (some (some (.ref (eI K)))) && (xfB K (He.ga K x) && ((PySem.W.clsIn K (He.ga K x)).isSome &&
  (He.eqO (PySem.W.findIn K (.ref (He.ga K x)) "__class__") (some (some (.builtin "object.__class__"))) && decide (PySem.W.mroIn K (He.ga K x) (.type "object") = some true)))))))))
theorem err_ok {K : PySem.W.Frag} {x : Str} (c : bErr x K = true) : EC K (He.ga K x) (eI K) := by
  obtain ⟨c1, c⟩ := He.ba c
  obtain ⟨c2, c⟩ := He.ba c
  obtain ⟨c3, c⟩ := He.ba c
  obtain ⟨c4, c⟩ := He.ba c
  obtain ⟨c5, c⟩ := He.ba c
  obtain ⟨c6, c⟩ := He.ba c
  obtain ⟨c7, c⟩ := He.ba c
  obtain ⟨c8, c⟩ := He.ba c
  obtain ⟨c9, c10⟩ := He.ba c
  have xf := xfB_ok c7
  exact ⟨⟨obj_ok c1, He.eqO_ok c2, xf.exC, of_decide_eq_true c3, c4⟩, He.eqO_ok c5, He.eqO_ok c6, xf, c8, He.eqO_ok c9, of_decide_eq_true c10⟩
def bEG (K : PySem.W.Frag) : Bool := decide (PySem.W.typeIn K (.ref (eI K)) = some (.type "function")) && (He.eqO (PySem.W.specialIn K (.builtin "object.__class__") "__get__") (some (some (.builtin "getset_descriptor.__get__"))) && decide (PySem.W.takesIn K (.builtin "object.__class__") = some true))
theorem eg_ok {K : PySem.W.Frag} (c : bEG K = true) : EG K (eI K) := by
  obtain ⟨c1, c⟩ := He.ba c
  obtain ⟨c2, c3⟩ := He.ba c
  exact ⟨of_decide_eq_true c1, He.eqO_ok c2, of_decide_eq_true c3⟩
def bSub (x y : Str) (b : Bool) (K : PySem.W.Frag) : Bool := decide (PySem.W.subIn K (.ref (He.ga K x)) (.ref (He.ga K y)) = some b)
theorem sub_ok {K : PySem.W.Frag} {x y : Str} {b : Bool} (c : bSub x y b K = true) : PySem.W.subIn K (.ref (He.ga K x)) (.ref (He.ga K y)) = some b := of_decide_eq_true c
def bKit (x y : Str) (b : Bool) (K : PySem.W.Frag) : Bool := decide (PySem.W.kitOne K (.ref (He.ga K x)) (.ref (He.ga K y)) = some b)
theorem kit_ok {K : PySem.W.Frag} {x y : Str} {b : Bool} (c : bKit x y b K = true) : PySem.W.kitOne K (.ref (He.ga K x)) (.ref (He.ga K y)) = some b := of_decide_eq_true c
def bKitV (x : Str) (K : PySem.W.Frag) : Bool := decide (PySem.W.kitOne K (.ref (He.ga K x)) (.type "ValueError") = some true)
end V2


namespace V2
open PySem L2
open PySem.Spec PyProof.Rows
def nm0 : List Str := ["TankError", "InvalidPolynomial", "Unreadable", "is_integer", "is_polynomial", "read_polynomial", "read_integer", "show_polynomial", "show_integer", "_law_purse", "_law_coin", "_law_is_number", "_law_polynomial_of", "_law_caught_one", "_law_odd_one", "_law_marred_one", "_law_right"]
def nms : List Str := nm0
def dfs0 : List DfX := [⟨(fun K => He.ga K "is_integer"), "is_integer", "is_integer", s_is_integer⟩, ⟨(fun K => He.ga K "is_polynomial"), "is_polynomial", "is_polynomial", s_is_polynomial⟩, ⟨(fun K => He.ga K "read_polynomial"), "read_polynomial", "read_polynomial", s_read_polynomial⟩, ⟨(fun K => He.ga K "read_integer"), "read_integer", "read_integer", s_read_integer⟩, ⟨(fun K => He.ga K "show_polynomial"), "show_polynomial", "show_polynomial", s_show_polynomial⟩, ⟨(fun K => He.ga K "show_integer"), "show_integer", "show_integer", s_show_integer⟩, ⟨(fun K => He.ga K "_law_purse"), "_law_purse", "_law_purse", s_l_purse⟩, ⟨(fun K => He.ga K "_law_coin"), "_law_coin", "_law_coin", s_l_coin⟩, ⟨(fun K => He.ga K "_law_is_number"), "_law_is_number", "_law_is_number", s_l_is_number⟩, ⟨(fun K => He.ga K "_law_polynomial_of"), "_law_polynomial_of", "_law_polynomial_of", s_l_polynomial_of⟩, ⟨(fun K => He.ga K "_law_caught_one"), "_law_caught_one", "_law_caught_one", s_l_caught_one⟩, ⟨(fun K => He.ga K "_law_odd_one"), "_law_odd_one", "_law_odd_one", s_l_odd_one⟩, ⟨(fun K => He.ga K "_law_marred_one"), "_law_marred_one", "_law_marred_one", s_l_marred_one⟩, ⟨(fun K => He.ga K "_law_right"), "_law_right", "_law_right", s_l_right⟩, ⟨(fun K => He.ga K "law"), "law", "law", s_law⟩, ⟨(fun K => He.ma K (He.ga K "TankError") "__init__"), "__init__", "TankError.__init__", s_TE_init⟩]
def fbs0 : List (PySem.W.Frag → Bool) := [bGlo "is_integer", bGlo "is_polynomial", bGlo "read_polynomial", bGlo "read_integer", bGlo "show_polynomial", bGlo "show_integer", bGlo "_law_purse", bGlo "_law_coin", bGlo "_law_is_number", bGlo "_law_polynomial_of", bGlo "_law_caught_one", bGlo "_law_odd_one", bGlo "_law_marred_one", bGlo "_law_right", bGlo "law", bEG, bGlo "TankError", bErr "TankError", bKitV "TankError", bSub "TankError" "TankError" true]
def fbs1 : List (PySem.W.Frag → Bool) := [bKit "TankError" "InvalidPolynomial" false, bKit "TankError" "Unreadable" false, bGlo "InvalidPolynomial", bErr "InvalidPolynomial", bKitV "InvalidPolynomial", bSub "InvalidPolynomial" "TankError" true, bKit "InvalidPolynomial" "InvalidPolynomial" true, bKit "InvalidPolynomial" "Unreadable" false, bGlo "Unreadable", bErr "Unreadable", bKitV "Unreadable", bSub "Unreadable" "TankError" true, bKit "Unreadable" "InvalidPolynomial" false, bKit "Unreadable" "Unreadable" true, bFree "ValueError", bFree "abs", bFree "all", bFree "bool", bFree "int", bFree "isinstance"]
def fbs2 : List (PySem.W.Frag → Bool) := [bFree "len", bFree "list", bFree "max", bFree "min", bFree "range", bFree "str", bNoDig]
def lk : Lk := ⟨fbs0 ++ fbs1 ++ fbs2, dfs0, []⟩
abbrev rwK : PySem.W.OpenRow := PySem.W.OpenLaw.row PySem.Challenge.rw_valvelevels_k55_polynomials_that_are_non
abbrev vwK : Program := PySem.W.view rwK.prog [22]
theorem run0F (w : World) : (whK 12000 rwK (w.withFollow "special-get-raises" false)).map (lk0 rwK vwK nms) = some (true, PySem.W.openGood vwK nms) := by
  kernel_rfl
theorem run0T (w : World) : (whK 12000 rwK (w.withFollow "special-get-raises" true)).map (lk0 rwK vwK nms) = some (true, PySem.W.openGood vwK nms) := by
  kernel_rfl
theorem run1F (w : World) : (whK 12000 rwK (w.withFollow "special-get-raises" false)).map (lk1 lk 900) = some (true, lk.tb.map fun t => tabDue (w.withFollow "special-get-raises" false) t.2) := by
  kernel_rfl
theorem run1T (w : World) : (whK 12000 rwK (w.withFollow "special-get-raises" true)).map (lk1 lk 900) = some (true, lk.tb.map fun t => tabDue (w.withFollow "special-get-raises" true) t.2) := by
  kernel_rfl
theorem run2F (w : World) : (whK 12000 rwK (w.withFollow "special-get-raises" false)).map (lk2 lk 900) = some true := by
  kernel_rfl
theorem run2T (w : World) : (whK 12000 rwK (w.withFollow "special-get-raises" true)).map (lk2 lk 900) = some true := by
  kernel_rfl
theorem run3F (w : World) : (whK 12000 rwK (w.withFollow "special-get-raises" false)).map (lk3 lk 900) = some (lk.ds.map (·.due)) := by
  kernel_rfl
theorem run3T (w : World) : (whK 12000 rwK (w.withFollow "special-get-raises" true)).map (lk3 lk 900) = some (lk.ds.map (·.due)) := by
  kernel_rfl
theorem runK (w : World) : HandSHeadRun.RunEqI rwK vwK (lk.hook 900) (fun s => lk.off 900 (HandSHeadRun.getT s)) 12000 nms w :=
  PySem.W.byRow2 "special-get-raises" (P := fun w => HandSHeadRun.RunEqI rwK vwK (lk.hook 900) (fun s => lk.off 900 (HandSHeadRun.getT s)) 12000 nms w) (fun w => Lk.run_parts (run0F w) (run1F w) (run2F w) (run3F w)) (fun w => Lk.run_parts (run0T w) (run1T w) (run2T w) (run3T w)) w
end V2


namespace V2
def cont : List Int → Nat
  | [] => 0
  | x :: r => Nat.gcd x.natAbs (cont r)
def prim (ns : List Int) : List Int := ns.map fun x => x / (cont ns : Int)
theorem cont_dvd : ∀ {ns : List Int} {x : Int}, x ∈ ns → (cont ns : Int) ∣ x
  | y :: r, x, h => by
    rcases (List.mem_cons.mp h) with e | h
    · subst e
      exact Int.ofNat_dvd_left.mpr (Nat.gcd_dvd_left _ _)
    · exact Int.dvd_trans (Int.natCast_dvd_natCast.mpr (Nat.gcd_dvd_right _ _)) (cont_dvd h)
theorem cont_scale (a : Nat) : ∀ ns : List Int, cont (ns.map fun x => (a : Int) * x) = a * cont ns
  | [] => rfl
  | x :: r => by
    show Nat.gcd ((a : Int) * x).natAbs (cont (r.map fun x => (a : Int) * x)) = a * Nat.gcd x.natAbs (cont r)
    rw [cont_scale a r, Int.natAbs_mul, Int.natAbs_natCast, Nat.gcd_mul_left]
theorem cont_zero : ∀ {ns : List Int}, cont ns = 0 → ∀ x ∈ ns, x = 0 := by
  intro ns h x hx
  have := cont_dvd hx
  rw [h] at this
  exact Int.zero_dvd.mp this
theorem prim_eq {xs ys : List Int} {a b : Nat} (ha : 0 < a) (hb : 0 < b) (h : (xs.map fun x => (a : Int) * x) = ys.map fun x => (b : Int) * x) : prim xs = prim ys := by
  have hc : a * cont xs = b * cont ys := by rw [← cont_scale, ← cont_scale, h]
  have hl : xs.length = ys.length := by
    have := (congrArg List.length h)
    rwa [List.length_map, List.length_map] at this
  refine List.ext_getElem (by unfold prim; rw [List.length_map, List.length_map, hl]) fun i h1 h2 => ?_
  unfold prim at h1 h2 ⊢
  rw [List.length_map] at h1 h2
  rw [List.getElem_map, List.getElem_map]
  have e : (a : Int) * xs[i] = (b : Int) * ys[i] := by
    have e1 : (xs.map fun x => (a : Int) * x)[i]'(by rw [List.length_map]; exact h1) = (ys.map fun x => (b : Int) * x)[i]'(by rw [List.length_map]; exact h2) := by
      simp only [h]
    rwa [List.getElem_map, List.getElem_map] at e1
  obtain ⟨p, hp⟩ := cont_dvd (List.getElem_mem h1)
  obtain ⟨q, hq⟩ := cont_dvd (List.getElem_mem h2)
  rcases Nat.eq_zero_or_pos (cont xs) with z | z
  · have z2 : cont ys = 0 := by
      rw [z, Nat.mul_zero] at hc
      rcases Nat.mul_eq_zero.mp hc.symm with c | c
      · omega
      · exact c
    rw [cont_zero z _ (List.getElem_mem h1), cont_zero z2 _ (List.getElem_mem h2), Int.zero_ediv, Int.zero_ediv]
  · have z2 : 0 < cont ys := by
      rcases Nat.eq_zero_or_pos (cont ys) with c | c
      · rw [c, Nat.mul_zero] at hc
        have := Nat.mul_pos ha z
        omega
      · exact c
    rw [hp, hq, Int.mul_ediv_cancel_left _ (by omega), Int.mul_ediv_cancel_left _ (by omega)]
    rw [hp, hq, ← Int.mul_assoc, ← Int.mul_assoc] at e
    have hcz : (a : Int) * (cont xs : Int) = (b : Int) * (cont ys : Int) := by
      rw [← Int.natCast_mul, ← Int.natCast_mul, hc]
    rw [hcz] at e
    exact Int.eq_of_mul_eq_mul_left (Int.ne_of_gt (Int.mul_pos (by omega) (by omega))) e
def cfF (f g : Nat → Int) : Nat → Nat → Int
  | 0, _ => 0
  | k + 1, i => cfF f g k i + (if k ≤ i then f k * g (i - k) else 0)
theorem cfF_lin (f g h : Nat → Int) (a b : Int) : ∀ k i, cfF f (fun j => a * g j + b * h j) k i = a * cfF f g k i + b * cfF f h k i
  | 0, _ => by show (0 : Int) = a * 0 + b * 0; rw [Int.mul_zero, Int.mul_zero, Int.add_zero]
  | k + 1, i => by
    show cfF f (fun j => a * g j + b * h j) k i + (if k ≤ i then f k * (a * g (i - k) + b * h (i - k)) else 0) = a * (cfF f g k i + (if k ≤ i then f k * g (i - k) else 0)) + b * (cfF f h k i + (if k ≤ i then f k * h (i - k) else 0))
    rw [cfF_lin f g h a b k i]
    split
    · simp only [Int.mul_add, Int.mul_left_comm (f k)]
      omega
    · simp only [Int.add_zero]
theorem cfF_zero (f g : Nat → Int) : ∀ k i, (∀ j, j < k → j ≤ i → f j * g (i - j) = 0) → cfF f g k i = 0
  | 0, _, _ => rfl
  | k + 1, i, h => by
    show cfF f g k i + (if k ≤ i then f k * g (i - k) else 0) = 0
    rw [cfF_zero f g k i fun j h1 h2 => h j (by omega) h2]
    split
    · rename_i c
      rw [h k (by omega) c]
      rfl
    · rfl
/-- one number alone, at place n -/
def dlt (n : Nat) : Nat → Int := fun i => if i = n then 1 else 0
theorem cfF_dlt (f : Nat → Int) (n : Nat) : ∀ k i, cfF f (dlt n) k i = if n ≤ i ∧ i - n < k then f (i - n) else 0
  | 0, i => by show (0 : Int) = _; rw [if_neg (by omega)]
  | k + 1, i => by
    show cfF f (dlt n) k i + (if k ≤ i then f k * dlt n (i - k) else 0) = _
    rw [cfF_dlt f n k i]
    unfold dlt
    by_cases h1 : n ≤ i ∧ i - n < k
    · rw [if_pos h1, if_pos (c := n ≤ i ∧ i - n < k + 1) (by omega)]
      by_cases h3 : k ≤ i
      · rw [if_pos h3, if_neg (by omega), Int.mul_zero, Int.add_zero]
      · rw [if_neg h3, Int.add_zero]
    · rw [if_neg h1, Int.zero_add]
      by_cases h2 : n ≤ i ∧ i - n = k
      · rw [if_pos (c := k ≤ i) (by omega), if_pos (c := i - k = n) (by omega), if_pos (c := n ≤ i ∧ i - n < k + 1) (by omega), Int.mul_one, h2.2]
      · rw [if_neg (c := n ≤ i ∧ i - n < k + 1) (by omega)]
        by_cases h3 : k ≤ i
        · rw [if_pos h3, if_neg (by omega), Int.mul_zero]
        · rw [if_neg h3]
/-- the top of a product -/
theorem cfF_top (f g : Nat → Int) (m n : Nat) (h : ∀ i, n < i → g i = 0) : cfF f g (m + 1) (n + m) = f m * g n := by
  show cfF f g m (n + m) + (if m ≤ n + m then f m * g (n + m - m) else 0) = _
  rw [cfF_zero f g m (n + m) fun j h1 h2 => by rw [h _ (by omega), Int.mul_zero], if_pos (by omega), Nat.add_sub_cancel, Int.zero_add]
theorem cfF_null {f g : Nat → Int} {m : Nat} (hf : f m ≠ 0) (hz : ∀ i, m ≤ i → cfF f g (m + 1) i = 0) : ∀ n, (∀ i, n ≤ i → g i = 0) → ∀ i, g i = 0
  | 0, h, i => h i (Nat.zero_le _)
  | n + 1, h, i => by
    refine cfF_null hf hz n (fun j hj => ?_) i
    rcases Nat.lt_or_ge n j with c | c
    · exact h j c
    · have e : j = n := by omega
      subst e
      have h1 := cfF_top f g m j fun i hi => h i hi
      rw [hz (j + m) (by omega)] at h1
      rcases Int.mul_eq_zero.mp h1.symm with z | z
      · exact absurd z hf
      · exact z
/-- L is what is left of P by B, up to a factor above 0 -/
def Rm (P B L : List Int) : Prop := Pol L ∧ L.length < B.length ∧ ∃ (g : Int) (q : Nat → Int) (N : Nat), 0 < g ∧ (∀ i, N ≤ i → q i = 0) ∧ ∀ i, g * P.getD i 0 = cfF (fun j => B.getD j 0) q B.length i + L.getD i 0
theorem getD_pol {L : List Int} (h : Pol L) {n : Nat} (hn : L.length = n + 1) : L.getD n 0 ≠ 0 := by
  have e : L[n]? = some L[n] := List.getElem?_eq_getElem (by omega)
  rw [getD_at e]
  refine h _ ?_
  have e2 : L.length - 1 = n := by omega
  rw [e2]
  exact e
theorem pol_len {L M : List Int} (hL : Pol L) (hM : Pol M) {a b : Int} (ha : 0 < a) (hb : 0 < b) (h : ∀ i, a * L.getD i 0 = b * M.getD i 0) : L.length ≤ M.length := by
  rcases Nat.lt_or_ge M.length L.length with c | c
  · exfalso
    obtain ⟨n, hn⟩ : ∃ n, L.length = n + 1 := ⟨L.length - 1, by omega⟩
    have h1 := h n
    rw [getD_out (l := M) (by omega), Int.mul_zero] at h1
    rcases Int.mul_eq_zero.mp h1 with z | z
    · omega
    · exact getD_pol hL hn z
  · exact c
theorem Rm.uniq {P B L M : List Int} (hB : Pol B) (h : Rm P B L) (k : Rm P B M) : prim L = prim M := by
  obtain ⟨l1, l2, g, q, N, g0, qz, qe⟩ := h
  obtain ⟨m1, m2, c, r, R, c0, rz, re⟩ := k
  obtain ⟨m, hm⟩ : ∃ m, B.length = m + 1 := ⟨B.length - 1, by omega⟩
  rw [hm] at qe re l2 m2
  have hw : ∀ i, cfF (fun j => B.getD j 0) (fun j => c * q j + (-g) * r j) (m + 1) i = g * M.getD i 0 - c * L.getD i 0 := by
    intro i
    rw [cfF_lin]
    have h1 := qe i
    have h2 := re i
    have h3 : c * (g * P.getD i 0) = g * (c * P.getD i 0) := Int.mul_left_comm _ _ _
    rw [h1, h2, Int.mul_add, Int.mul_add] at h3
    rw [Int.neg_mul]
    omega
  have hz : ∀ i, c * q i + (-g) * r i = 0 := by
    refine cfF_null (f := fun j => B.getD j 0) (g := fun j => c * q j + (-g) * r j) (m := m) (getD_pol hB hm) (fun i hi => ?_) (max N R) (fun i hi => ?_)
    · rw [hw i, getD_out (l := M) (by omega), getD_out (l := L) (by omega), Int.mul_zero, Int.mul_zero]
      rfl
    · show c * q i + (-g) * r i = 0
      rw [qz i (by omega), rz i (by omega), Int.mul_zero, Int.mul_zero]
      rfl
  have he : ∀ i, g * M.getD i 0 = c * L.getD i 0 := by
    intro i
    have := hw i
    rw [cfF_zero _ _ _ _ fun j _ _ => by rw [hz]; exact Int.mul_zero _] at this
    omega
  have hlen : L.length = M.length := Nat.le_antisymm (pol_len l1 m1 c0 g0 fun i => (he i).symm) (pol_len m1 l1 g0 c0 he)
  refine prim_eq (a := c.toNat) (b := g.toNat) (by omega) (by omega) ?_
  refine List.ext_getElem (by rw [List.length_map, List.length_map, hlen]) fun i h1 h2 => ?_
  rw [List.length_map] at h1 h2
  rw [List.getElem_map, List.getElem_map]
  have t := he i
  rw [getD_at (List.getElem?_eq_getElem h1), getD_at (List.getElem?_eq_getElem h2)] at t
  have ec : ((c.toNat : Nat) : Int) = c := Int.toNat_of_nonneg (by omega)
  have eg : ((g.toNat : Nat) : Int) = g := Int.toNat_of_nonneg (by omega)
  exact Eq.trans (congrArg (fun z => z * L[i]) ec) (Eq.trans t.symm (congrArg (fun z => z * M[i]) eg.symm))
theorem trm_getD (ns : List Int) (i : Nat) : (trm ns).getD i 0 = ns.getD i 0 := by
  unfold trm
  by_cases h : i < ns.length - tz ns
  · rw [List.getD_eq_getElem?_getD, List.getD_eq_getElem?_getD, List.getElem?_take, if_pos h]
  · rw [getD_out (by rw [List.length_take]; omega)]
    by_cases h2 : i < ns.length
    · have := tz_in ns (ns.length - 1 - i) (by omega)
      rw [show ns.length - 1 - (ns.length - 1 - i) = i by omega] at this
      rw [getD_at this]
    · rw [getD_out (by omega)]
end V2


namespace V2
def Rs (P B L : List Int) : Prop := ∃ (g : Int) (q : Nat → Int) (N : Nat), 0 < g ∧ (∀ i, N ≤ i → q i = 0) ∧ ∀ i, g * P.getD i 0 = cfF (fun j => B.getD j 0) q B.length i + L.getD i 0
theorem Rs.self (P B : List Int) : Rs P B P := ⟨1, fun _ => 0, 0, by decide, fun _ _ => rfl, fun i => by
  rw [cfF_zero _ _ _ _ fun _ _ _ => Int.mul_zero _, Int.one_mul, Int.zero_add]⟩
def tkn (B : List Int) (off : Nat) (t : Int) : List Int := List.replicate off 0 ++ B.map fun x => t * x
theorem tkn_getD (B : List Int) (off : Nat) (t : Int) (k : Nat) : (tkn B off t).getD k 0 = if off ≤ k then t * B.getD (k - off) 0 else 0 := by
  unfold tkn
  rw [(List.getD_eq_getElem?_getD)]
  by_cases h : off ≤ k
  · rw [if_pos h, List.getElem?_append_right (by rw [List.length_replicate]; exact h), List.length_replicate, List.getElem?_map, List.getD_eq_getElem?_getD]
    cases B[k - off]? with
    | none => show (0 : Int) = t * 0; rw [Int.mul_zero]
    | some x => rfl
  · rw [if_neg h, List.getElem?_append_left (by rw [List.length_replicate]; omega), List.getElem?_replicate, if_pos (by omega)]
    rfl
/-- one step of the program -/
def stepL (B L : List Int) (g t : Int) : List Int := vec L.length fun k => g * L.getD k 0 - (tkn B (L.length - B.length) t).getD k 0
theorem vec_getD (N : Nat) (f : Nat → Int) (i : Nat) : (vec N f).getD i 0 = if i < N then f i else 0 := by
  by_cases h : i < N
  · rw [if_pos h, getD_at (vec_get h)]
  · rw [if_neg h, getD_out (by rw [vec_len]; omega)]
theorem trm_short {ns : List Int} {n : Nat} (hn : ns.length = n + 1) (h : ns.getD n 0 = 0) : (trm ns).length < ns.length := by
  rcases Nat.eq_zero_or_pos (tz ns) with z | z
  · exfalso
    obtain ⟨x, h1, h2⟩ := tz_at ns (by omega)
    rw [z, hn] at h1
    have h1 : ns[n]? = some x := h1
    rw [getD_at h1] at h
    exact h2 h
  · unfold trm
    rw [List.length_take]
    omega
theorem rs_step {P B L : List Int} (h0 : B ≠ []) (h : Rs P B L) (hl : B.length ≤ L.length) {g t : Int} (hg : 0 < g) (ht : g * L.getD (L.length - 1) 0 = t * B.getD (B.length - 1) 0) : Rs P B (trm (stepL B L g t)) ∧ (trm (stepL B L g t)).length < L.length := by
  have lb : 0 < B.length := List.length_pos_iff.mpr h0
  constructor
  · obtain ⟨c, q, N, c0, qz, qe⟩ := h
    refine ⟨g * c, fun j => g * q j + t * dlt (L.length - B.length) j, max N (L.length - B.length + 1), Int.mul_pos hg c0, fun i hi => ?_, fun i => ?_⟩
    · show g * q i + t * dlt (L.length - B.length) i = 0
      unfold dlt
      rw [qz i (by omega), if_neg (by omega), Int.mul_zero, Int.mul_zero]
      rfl
    · rw [Int.mul_assoc, qe i, cfF_lin, cfF_dlt, trm_getD, Int.mul_add]
      unfold stepL
      rw [vec_getD, tkn_getD]
      have hb : (if L.length - B.length ≤ i ∧ i - (L.length - B.length) < B.length then B.getD (i - (L.length - B.length)) 0 else 0) = if L.length - B.length ≤ i then B.getD (i - (L.length - B.length)) 0 else 0 := by
        by_cases h1 : L.length - B.length ≤ i
        · rw [if_pos h1]
          by_cases h2 : i - (L.length - B.length) < B.length
          · rw [if_pos ⟨h1, h2⟩]
          · rw [if_neg (by omega), getD_out (by omega)]
        · rw [if_neg h1, if_neg (by omega)]
      rw [hb]
      by_cases h3 : i < L.length
      · rw [if_pos h3]
        by_cases h1 : L.length - B.length ≤ i
        · rw [if_pos h1, if_pos h1]; omega
        · rw [if_neg h1, if_neg h1, Int.mul_zero]; omega
      · rw [if_neg h3, getD_out (l := L) (by omega), if_pos (by omega), getD_out (l := B) (by omega), Int.mul_zero, Int.mul_zero]
        omega
  · have := trm_short (ns := stepL B L g t) (n := L.length - 1) (by unfold stepL; rw [vec_len]; omega) (by
      unfold stepL
      rw [vec_getD, if_pos (by omega), tkn_getD, if_pos (by omega), ht, show L.length - 1 - (L.length - B.length) = B.length - 1 by omega]
      omega)
    unfold stepL at this ⊢
    rw [vec_len] at this
    exact this
/-- grow and take -/
theorem grow_take {t d : Int} (hd : d ≠ 0) : ∃ f : Int, ((Nat.gcd t.natAbs d.natAbs : Nat) : Int) = f ∧ 0 < f ∧ f.natAbs ≤ d.natAbs ∧ 0 < (if d < 0 then -d else d) / f ∧ ((if d < 0 then -d else d) / f).natAbs ≤ d.natAbs ∧ (t / f).natAbs ≤ t.natAbs ∧
    (if d < 0 then -d else d) / f * t = (if d < 0 then -(t / f) else t / f) * d := by
  refine ⟨_, rfl, ?_⟩
  have g0 : 0 < Nat.gcd t.natAbs d.natAbs := Nat.gcd_pos_of_pos_right _ (by omega)
  obtain ⟨p, hp⟩ : ((Nat.gcd t.natAbs d.natAbs : Nat) : Int) ∣ t := Int.ofNat_dvd_left.mpr (Nat.gcd_dvd_left _ _)
  obtain ⟨r, hr⟩ : ((Nat.gcd t.natAbs d.natAbs : Nat) : Int) ∣ d := Int.ofNat_dvd_left.mpr (Nat.gcd_dvd_right _ _)
  have gl : Nat.gcd t.natAbs d.natAbs ≤ d.natAbs := Nat.gcd_le_right _ (by omega)
  generalize Nat.gcd t.natAbs d.natAbs = f at *
  have f0 : (0 : Int) < (f : Int) := by omega
  have e1 : t / (f : Int) = p := by rw [hp, Int.mul_ediv_cancel_left _ (by omega)]
  have e2 : (if d < 0 then -d else d) / (f : Int) = if d < 0 then -r else r := by
    split
    · rw [hr, ← Int.mul_neg, Int.mul_ediv_cancel_left _ (by omega)]
    · rw [hr, Int.mul_ediv_cancel_left _ (by omega)]
  have ab : ∀ x : Int, x.natAbs ≤ ((f : Int) * x).natAbs := fun x => by
    rw [Int.natAbs_mul, Int.natAbs_natCast]
    exact Nat.le_mul_of_pos_left _ g0
  have r1 : d < 0 → r < 0 := fun c => by
    rcases Int.lt_or_le r 0 with z | z
    · exact z
    · have := Int.mul_nonneg (Int.le_of_lt f0) z
      omega
  have r2 : ¬ d < 0 → 0 < r := fun c => by
    rcases Int.lt_or_le 0 r with z | z
    · exact z
    · have := Int.mul_nonpos_of_nonneg_of_nonpos (Int.le_of_lt f0) z
      omega
  rw [e1, e2]
  refine ⟨f0, by omega, ?_, ?_, ?_, ?_⟩
  · split
    · have := r1 ‹_›; omega
    · exact r2 ‹_›
  · have := ab r
    rw [← hr] at this
    split <;> omega
  · have := ab p
    rw [← hp] at this
    exact this
  · split
    · conv => lhs; rw [hp]
      conv => rhs; rw [hr]
      rw [Int.neg_mul, Int.neg_mul, Int.mul_left_comm, Int.mul_left_comm p, Int.mul_comm r p]
    · conv => lhs; rw [hp]
      conv => rhs; rw [hr]
      rw [Int.mul_left_comm, Int.mul_left_comm p, Int.mul_comm r p]
end V2


namespace V2
open PySem L2
open PySem.Spec PyProof.Rows
theorem sk_some {H : Hp} {p : Addr} {m : Nat} (h : Sk H p m) : ∃ o, H p = some o := by
  obtain ⟨a, b, c, h1, _⟩ := h
  exact ⟨_, h1⟩
theorem sk_ne {H : Hp} {p q : Addr} {m : Nat} (h : Sk H p m) (hq : H q = none) : q ≠ p := by
  intro z
  obtain ⟨o, h2⟩ := sk_some h
  rw [← z, hq] at h2
  cases h2
/-- small polynomials as the law draws them -/
def Sp6 (ns : List Int) : Prop := Pol ns ∧ ns.length ≤ 8 ∧ ∀ x ∈ ns, -1000000 ≤ x ∧ x ≤ 1000000
theorem Sp6.pn {ns : List Int} (h : Sp6 ns) : Pn ns := by
  refine ⟨h.1, by have := h.2.1; omega, fun x hx => ?_⟩
  have e : (2 : Int) ^ 64 = 18446744073709551616 := by decide
  have := h.2.2 x hx
  rw [e]
  omega
theorem shaped_ints (ns : List Int) : SeqAt.shaped (.list (ns.map .int)) = true := by
  have h1 : ∀ l : List Int, PyData.canLayAll0 (l.map .int) = true := by
    intro l
    induction l with
    | nil => rfl
    | cons n r ih => simp [PyData.canLayAll0, PyData.canLay0, ih]
  have h2 : ∀ l : List Int, PyData.depthAll (l.map .int) ≤ 1 := by
    intro l
    induction l with
    | nil => simp [PyData.depthAll]
    | cons n r ih => simp [PyData.depthAll, PyData.depth]; omega
  unfold SeqAt.shaped
  have h3 := h2 ns
  simp [PyData.canLay0, PyData.depth, h1 ns]
  omega
section
variable {base : Heap} {mg : Str → Option Value} {K : PySem.W.Frag} {w : World} {P : Program}
end
end V2


namespace V2
open PySem L2
open PySem.Spec PyProof.Rows
theorem Sp6.b20 {ns : List Int} (h : Sp6 ns) : ∀ x ∈ ns, x.natAbs < 2 ^ 20 := fun x hx => by
  have := h.2.2 x hx
  have e : (2 : Nat) ^ 20 = 1048576 := (by decide)
  rw [e]; omega
section
variable {base : Heap} {mg : Str → Option Value} {K : PySem.W.Frag} {w : World} {P : Program}
end
end V2


namespace V2
def Bs (n : Nat) (ns : List Int) : Prop := ∀ x ∈ ns, x.natAbs < 2 ^ n
theorem Bs.le {n m : Nat} {ns : List Int} (h : Bs n ns) (l : n ≤ m) : Bs m ns := fun x hx => Nat.lt_of_lt_of_le (h x hx) (Nat.pow_le_pow_right (by decide) l)
theorem Bs.at_ {n : Nat} {ns : List Int} (h : Bs n ns) (i : Nat) : (ns.getD i 0).natAbs < 2 ^ n := by
  rw [List.getD_eq_getElem?_getD]
  cases e : ns[i]? with
  | none => exact Nat.pow_pos (by decide)
  | some x => exact h x (List.mem_of_getElem? e)
theorem bs_mul {i j : Int} {n m : Nat} (h1 : i.natAbs < 2 ^ n) (h2 : j.natAbs < 2 ^ m) : (i * j).natAbs < 2 ^ (n + m) := by
  rw [Int.natAbs_mul, Nat.pow_add]
  exact Nat.mul_lt_mul'' h1 h2
theorem vec_in {N : Nat} {f : Nat → Int} {x : Int} (h : x ∈ vec N f) : ∃ i, i < N ∧ x = f i := by
  unfold vec at h
  obtain ⟨i, hi, e⟩ := List.mem_map.mp h
  exact ⟨i, List.mem_range.mp hi, e.symm⟩
theorem bs_trm {n : Nat} {ns : List Int} (h : Bs n ns) : Bs n (trm ns) := fun x hx => h x (trm_mem hx)
theorem bs_step {B L : List Int} {g t : Int} {b c : Nat} (hL : Bs c L) (hg : g.natAbs < 2 ^ b) (ht : t.natAbs < 2 ^ c) (hB : Bs b B) : Bs (c + (b + 1)) (trm (stepL B L g t)) := by
  intro x hx
  obtain ⟨i, _, rfl⟩ := vec_in (trm_mem hx)
  have h2 := bs_mul hg (hL.at_ i)
  have h1 : ((tkn B (L.length - B.length) t).getD i 0).natAbs < 2 ^ (c + b) := by
    rw [tkn_getD]
    split
    · exact bs_mul ht (hB.at_ _)
    · exact Nat.pow_pos (by decide)
  have e : (2 : Nat) ^ (c + (b + 1)) = 2 ^ (c + b) + 2 ^ (c + b) := by
    rw [show c + (b + 1) = c + b + 1 from rfl, Nat.pow_succ]; omega
  rw [Nat.add_comm b c] at h2
  rw [e]
  omega
theorem last_at {ns : List Int} (h : ns ≠ []) : ∃ x, ns[ns.length - 1]? = some x ∧ x ∈ ns := by
  have l := List.length_pos_iff.mpr h
  exact ⟨ns[ns.length - 1]'(by omega), List.getElem?_eq_getElem (by omega), List.getElem_mem _⟩
theorem rem_loop {P B : List Int} {b : Nat} (hB : Pol B) (h0 : B ≠ []) (bb : Bs b B) : ∀ (n : Nat) (L : List Int) (c : Nat), L.length ≤ n → Pol L → Rs P B L → Bs c L → ∃ M, Rm P B M ∧ Bs (c + (L.length + 1 - B.length) * (b + 1)) M := by
  intro n
  have lb := List.length_pos_iff.mpr h0
  induction n with
  | zero =>
    intro L c hl hp hR hb
    exact ⟨L, ⟨hp, by omega, hR⟩, hb.le (by omega)⟩
  | succ n ih =>
    intro L c hl hp hR hb
    by_cases h : L.length < B.length
    · exact ⟨L, ⟨hp, h, hR⟩, hb.le (by omega)⟩
    · have L0 : L ≠ [] := fun z => by
        rw [z] at h
        exact h lb
      obtain ⟨tp, htp, htm⟩ := last_at L0
      obtain ⟨ld, hld, hlm⟩ := last_at h0
      have ld0 := hB ld hld
      obtain ⟨f, hf, f0, fb, g0, gb, tb, ge⟩ := grow_take (t := tp) (d := ld) ld0
      have ge' : (if ld < 0 then -ld else ld) / f * L.getD (L.length - 1) 0 = (if ld < 0 then -(tp / f) else tp / f) * B.getD (B.length - 1) 0 := by
        rw [getD_at htp, getD_at hld]
        exact ge
      obtain ⟨r1, r2⟩ := rs_step h0 hR (by omega) g0 ge'
      have hg : ((if ld < 0 then -ld else ld) / f).natAbs < 2 ^ b := Nat.lt_of_le_of_lt gb (bb ld hlm)
      have ht : (if ld < 0 then -(tp / f) else tp / f).natAbs < 2 ^ c := by
        have h1 := hb tp htm
        have h2 : (if ld < 0 then -(tp / f) else tp / f).natAbs = (tp / f).natAbs := by split <;> omega
        omega
      have hs := bs_step hb hg ht bb
      obtain ⟨M, hM, bM⟩ := ih _ (c + (b + 1)) (by omega) (pol_trm _) r1 hs
      refine ⟨M, hM, bM.le ?_⟩
      generalize (trm (stepL B L ((if ld < 0 then -ld else ld) / f) (if ld < 0 then -(tp / f) else tp / f))).length = k at r2
      have e1 : (k + 1 - B.length) + 1 ≤ L.length + 1 - B.length := by omega
      have e2 := Nat.mul_le_mul_right (b + 1) e1
      rw [Nat.succ_mul] at e2
      omega
theorem rem_ex {A B : List Int} {a b : Nat} (hA : Pol A) (hB : Pol B) (h0 : B ≠ []) (ba : Bs a A) (bb : Bs b B) : ∃ M, Rm A B M ∧ Bs (a + (A.length + 1 - B.length) * (b + 1)) M :=
  rem_loop hB h0 bb A.length A a (Nat.le_refl _) hA (Rs.self _ _) ba
open Classical in
/-- some rest, if there is one -/
noncomputable def remF (A B : List Int) : List Int := if h : ∃ L, Rm A B L then h.choose else []
theorem remF_rm {A B L : List Int} (h : Rm A B L) : Rm A B (remF A B) := by
  have hx : ∃ L, Rm A B L := ⟨L, h⟩
  unfold remF
  rw [dif_pos hx]
  exact hx.choose_spec
def negL (ns : List Int) : List Int := ns.map fun x => -x
/-- the next one of a row -/
noncomputable def nx (A B : List Int) : List Int := negL (prim (remF A B))
theorem nx_eq {A B L : List Int} (hB : Pol B) (h : Rm A B L) : nx A B = negL (prim L) := by
  unfold nx
  rw [(remF_rm h).uniq hB h]
theorem prim_length (ns : List Int) : (prim ns).length = ns.length := by unfold prim; rw [List.length_map]
theorem negL_length (ns : List Int) : (negL ns).length = ns.length := by unfold negL; rw [List.length_map]
theorem nx_len {A B : List Int} (h : B ≠ []) : (nx A B).length < B.length := by
  unfold nx
  rw [negL_length, prim_length]
  by_cases hx : ∃ L, Rm A B L
  · obtain ⟨L, hL⟩ := hx
    exact (remF_rm hL).2.1
  · unfold remF
    rw [dif_neg hx]
    exact List.length_pos_iff.mpr h
theorem bs_prim {L : List Int} {B : Nat} (h : Bs B L) : Bs B (prim L) := by
  intro y hy
  unfold prim at hy
  obtain ⟨x, hx, rfl⟩ := List.mem_map.mp hy
  obtain ⟨p, hp⟩ := cont_dvd hx
  rcases Nat.eq_zero_or_pos (cont L) with z | z
  · rw [z]
    show (x / 0).natAbs < 2 ^ B
    rw [Int.ediv_zero]
    exact Nat.pow_pos (by decide)
  · have e : x / (cont L : Int) = p := by
      conv => lhs; rw [hp]
      rw [Int.mul_ediv_cancel_left _ (by omega)]
    rw [e]
    have h1 := h x hx
    rw [hp, Int.natAbs_mul, Int.natAbs_natCast] at h1
    exact Nat.lt_of_le_of_lt (Nat.le_mul_of_pos_left _ z) h1
theorem bs_neg {L : List Int} {B : Nat} (h : Bs B L) : Bs B (negL L) := by
  intro y hy
  unfold negL at hy
  obtain ⟨x, hx, rfl⟩ := List.mem_map.mp hy
  rw [Int.natAbs_neg]
  exact h x hx
theorem pol_negL {L : List Int} (h : Pol L) : Pol (negL L) := by
  intro y hy
  unfold negL at hy
  rw [List.length_map, List.getElem?_map] at hy
  cases e : L[L.length - 1]? with
  | none => rw [e] at hy; cases hy
  | some x =>
    rw [e] at hy
    have := h x e
    have hy : -x = y := Option.some.inj hy
    omega
theorem pol_prim {L : List Int} (h : Pol L) : Pol (prim L) := by
  intro y hy
  unfold prim at hy
  rw [List.length_map, List.getElem?_map] at hy
  cases e : L[L.length - 1]? with
  | none => rw [e] at hy; cases hy
  | some x =>
    rw [e] at hy
    have hx := h x e
    have hy : x / (cont L : Int) = y := Option.some.inj hy
    have hm : x ∈ L := List.mem_of_getElem? e
    obtain ⟨p, hp⟩ := cont_dvd hm
    intro y0
    have c0 : (cont L : Int) ≠ 0 := fun z => by
      rw [z, Int.zero_mul] at hp
      exact hx hp
    have : x / (cont L : Int) = p := by
      conv => lhs; rw [hp]
      rw [Int.mul_ediv_cancel_left _ c0]
    rw [this, y0] at hy
    rw [hy, Int.mul_zero] at hp
    exact hx hp
theorem prim_one {x : Int} (h : x ≠ 0) : Bs 1 (prim [x]) := by
  intro y hy
  have e : prim [x] = [x / (x.natAbs : Int)] := by
    unfold prim cont cont
    rw [Nat.gcd_zero_right]
    rfl
  rw [e] at hy
  obtain rfl := List.mem_singleton.mp hy
  rcases Int.lt_or_gt_of_ne h with c | c
  · have e1 : (x.natAbs : Int) = -x := by omega
    rw [e1, Int.ediv_neg, Int.ediv_self h]
    decide
  · have e1 : (x.natAbs : Int) = x := by omega
    rw [e1, Int.ediv_self h]
    decide
def slopeL (p : List Int) : List Int := vec (p.length - 1) fun k => ((k + 1 : Nat) : Int) * p.getD (k + 1) 0
theorem slopeL_len (p : List Int) : (slopeL p).length = p.length - 1 := vec_len _ _
theorem slopeL_getD (p : List Int) (i : Nat) : (slopeL p).getD i 0 = ((i + 1 : Nat) : Int) * p.getD (i + 1) 0 := by
  unfold slopeL
  rw [vec_getD]
  split
  · rfl
  · rw [getD_out (l := p) (by omega), Int.mul_zero]
theorem pol_slope {p : List Int} (h : Pol p) : Pol (slopeL p) := by
  intro x hx
  rw [slopeL_len] at hx
  have hl : p.length - 1 - 1 < p.length - 1 := by
    have := (List.getElem?_eq_some_iff.mp hx).1
    rwa [slopeL_len] at this
  unfold slopeL at hx
  rw [vec_get hl] at hx
  have hx := Option.some.inj hx
  have e : p[p.length - 1]? = some (p[p.length - 1]'(by omega)) := List.getElem?_eq_getElem (by omega)
  rw [show p.length - 1 - 1 + 1 = p.length - 1 by omega, getD_at e] at hx
  rw [← hx]
  exact Int.mul_ne_zero (by omega) (h _ e)
/-- a polynomial that may be passed: at most eight numbers to 10 ** 6 -/
def P6 (p : List Int) : Prop := Pol p ∧ p.length ≤ 8 ∧ ∀ x ∈ p, -1000000 ≤ x ∧ x ≤ 1000000
theorem P6.at_ {p : List Int} (h : P6 p) (i : Nat) : -1000000 ≤ p.getD i 0 ∧ p.getD i 0 ≤ 1000000 := by
  rw [List.getD_eq_getElem?_getD]
  cases e : p[i]? with
  | none => exact ⟨by decide, by decide⟩
  | some x => exact h.2.2 x (List.mem_of_getElem? e)
theorem small_mul {k : Nat} {x : Int} (hk : k ≤ 7) (h : -1000000 ≤ x ∧ x ≤ 1000000) : (((k : Nat) : Int) * x).natAbs < 2 ^ 23 := by
  rw [Int.natAbs_mul, Int.natAbs_natCast]
  have : k * x.natAbs ≤ 7 * 1000000 := Nat.mul_le_mul hk (by omega)
  have e : (2 : Nat) ^ 23 = 8388608 := by decide
  omega
theorem P6.slope {p : List Int} (h : P6 p) : Bs 23 (slopeL p) := by
  intro x hx
  obtain ⟨i, hi, rfl⟩ := vec_in hx
  have := h.2.1
  exact small_mul (by omega) (h.at_ _)
theorem P6.b20 {p : List Int} (h : P6 p) : Bs 20 p := fun x hx => by
  have := h.2.2 x hx
  have e : (2 : Nat) ^ 20 = 1048576 := (by decide)
  rw [e]; omega
/-- a first step for the rest by the slope -/
def firstL (p : List Int) : List Int := vec (p.length - 1) fun k => (((p.length - 1 - k : Nat) : Int)) * p.getD k 0
theorem first_rs {p : List Int} (h2 : 2 ≤ p.length) : Rs p (slopeL p) (firstL p) := by
  refine ⟨((p.length - 1 : Nat) : Int), dlt 1, 2, by omega, fun i hi => by unfold dlt; rw [if_neg (by omega)], fun i => ?_⟩
  rw [cfF_dlt, slopeL_len]
  unfold firstL
  rw [vec_getD]
  by_cases h1 : 1 ≤ i ∧ i - 1 < p.length - 1
  · rw [if_pos h1, slopeL_getD, show i - 1 + 1 = i by omega]
    by_cases h3 : i < p.length - 1
    · rw [if_pos h3, ← Int.add_mul]
      congr 1
      omega
    · rw [if_neg h3, Int.add_zero]
      congr 2
      omega
  · rw [if_neg h1]
    by_cases h3 : i < p.length - 1
    · rw [if_pos h3, Int.zero_add]
      congr 2
      omega
    · rw [if_neg h3, getD_out (l := p) (by omega), Int.mul_zero]
      rfl
theorem rs_trm {P B L : List Int} (h : Rs P B L) : Rs P B (trm L) := by
  obtain ⟨g, q, N, h1, h2, h3⟩ := h
  exact ⟨g, q, N, h1, h2, fun i => by rw [trm_getD]; exact h3 i⟩
theorem rem_first {p : List Int} (h : P6 p) (h2 : 2 ≤ p.length) : ∃ M, Rm p (slopeL p) M ∧ Bs 47 M := by
  have s0 : slopeL p ≠ [] := fun z => by
    have := slopeL_len p
    rw [z, List.length_nil] at this
    omega
  have fb : Bs 23 (trm (firstL p)) := bs_trm (by
    intro x hx
    obtain ⟨i, hi, rfl⟩ := vec_in hx
    have := h.2.1
    exact small_mul (by omega) (h.at_ _))
  obtain ⟨M, hM, bM⟩ := rem_loop (pol_slope h.1) s0 h.slope _ _ 23 (Nat.le_refl _) (pol_trm _) (rs_trm (first_rs h2)) fb
  refine ⟨M, hM, bM.le ?_⟩
  have l1 := trm_len (firstL p)
  have l2 : (firstL p).length = p.length - 1 := vec_len _ _
  rw [slopeL_len]
  have : (trm (firstL p)).length + 1 - (p.length - 1) ≤ 1 := by omega
  have := Nat.mul_le_mul_right (23 + 1) this
  omega
noncomputable def rowF : Nat → List Int → List Int → List (List Int)
  | 0, _, _ => []
  | n + 1, A, B => if B = [] then [] else B :: rowF n B (nx A B)
theorem rowF_ext : ∀ (n m : Nat) (A B : List Int), B.length ≤ n → B.length ≤ m → rowF n A B = rowF m A B
  | 0, 0, _, _, _, _ => rfl
  | 0, m + 1, A, B, h, _ => by
    have : B = [] := List.eq_nil_of_length_eq_zero (by omega)
    subst this
    rfl
  | n + 1, 0, A, B, _, h => by
    have : B = [] := List.eq_nil_of_length_eq_zero (by omega)
    subst this
    rfl
  | n + 1, m + 1, A, B, h1, h2 => by
    unfold rowF
    by_cases e : B = []
    · rw [if_pos e, if_pos e]
    · rw [if_neg e, if_neg e]
      have := nx_len (A := A) e
      rw [rowF_ext n m B (nx A B) (by omega) (by omega)]
noncomputable def rowT (A B : List Int) : List (List Int) := rowF B.length A B
theorem rowT_nil (A : List Int) : rowT A [] = [] := rfl
theorem rowT_cons {A B : List Int} (h : B ≠ []) : rowT A B = B :: rowT B (nx A B) := by
  have l := List.length_pos_iff.mpr h
  unfold rowT
  obtain ⟨n, hn⟩ : ∃ n, B.length = n + 1 := ⟨B.length - 1, by omega⟩
  rw [hn]
  show (if B = [] then [] else B :: rowF n B (nx A B)) = _
  rw [if_neg h]
  have := nx_len (A := A) h
  rw [rowF_ext n _ B (nx A B) (by omega) (Nat.le_refl _)]
noncomputable def rowL (p : List Int) : List (List Int) := p :: rowT p (slopeL p)
/-- how many bits -/
def gam : Nat → Nat
  | 0 => 20
  | 1 => 23
  | 2 => 47
  | 3 => 119
  | 4 => 287
  | 5 => 695
  | 6 => 1679
  | _ => 4055
/-- two neighbours in a row -/
structure Nb (A B : List Int) : Prop where
  pa : Pol A
  pb : Pol B
  la : A.length ≤ 8
  lt : B.length < A.length
  ba : Bs (gam (8 - A.length)) A
  bb : Bs (gam (9 - A.length)) B
  b1 : B.length = 1 → Bs 23 B
  sm : Bs 1700 A
theorem gam_mono : ∀ i j : Nat, i ≤ j → gam i ≤ gam j := by
  have h1 : ∀ i, i < 9 → gam i ≤ 4055 := by decide
  have h2 : ∀ j, j < 8 → ∀ i, i ≤ j → gam i ≤ gam j := by decide
  intro i j h
  by_cases c : j < 8
  · exact h2 j c i h
  · have e : gam j = 4055 := by
      match j, c with
      | 0, c => exact absurd (by decide) c
      | 1, c => exact absurd (by decide) c
      | 2, c => exact absurd (by decide) c
      | 3, c => exact absurd (by decide) c
      | 4, c => exact absurd (by decide) c
      | 5, c => exact absurd (by decide) c
      | 6, c => exact absurd (by decide) c
      | n + 7, _ => rfl
    rw [e]
    by_cases c2 : i < 9
    · exact h1 i c2
    · have : gam i = 4055 := by
        match i, c2 with
        | n + 7, _ => rfl
        | 0, c => exact absurd (by decide) c
        | 1, c => exact absurd (by decide) c
        | 2, c => exact absurd (by decide) c
        | 3, c => exact absurd (by decide) c
        | 4, c => exact absurd (by decide) c
        | 5, c => exact absurd (by decide) c
        | 6, c => exact absurd (by decide) c
      omega
theorem gam_step : ∀ a, a < 8 → ∀ b, b < a → 2 ≤ b → gam (8 - a) + (a + 1 - b) * (gam (9 - a) + 1) ≤ gam (9 - b) := by decide
theorem Nb.smb {A B : List Int} (h : Nb A B) : Bs 1700 B := by
  by_cases c : B.length = 1
  · exact (h.b1 c).le (by decide)
  · by_cases c2 : B.length = 0
    · have : B = [] := List.eq_nil_of_length_eq_zero c2
      subst this
      intro x hx
      cases hx
    · refine h.bb.le ?_
      have := h.lt
      have := gam_mono (9 - A.length) 6 (by omega)
      have : gam 6 = 1679 := rfl
      omega
theorem pol_one {L : List Int} (h : Pol L) (hl : L.length = 1) : ∃ x, L = [x] ∧ x ≠ 0 := by
  match L, hl with
  | [x], _ => exact ⟨x, rfl, h x rfl⟩
theorem nx_small {A B M : List Int} {m : Nat} (hB : Pol B) (hM : Rm A B M) (bM : Bs m M) : Pol (nx A B) ∧ Bs m (nx A B) ∧ ((nx A B).length = 1 → Bs 23 (nx A B)) := by
  rw [nx_eq hB hM]
  refine ⟨pol_negL (pol_prim hM.1), bs_neg (bs_prim bM), fun h => ?_⟩
  rw [negL_length, prim_length] at h
  obtain ⟨x, rfl, hx⟩ := pol_one hM.1 h
  exact (bs_neg (prim_one hx)).le (by decide)
theorem nb_first {p : List Int} (h : P6 p) (h0 : p ≠ []) : Nb p (slopeL p) where
  pa := h.1
  pb := pol_slope h.1
  la := h.2.1
  lt := by
    have := List.length_pos_iff.mpr h0
    rw [slopeL_len]
    omega
  ba := h.b20.le (gam_mono 0 _ (Nat.zero_le _))
  bb := h.slope.le (gam_mono 1 _ (by have := h.2.1; omega))
  b1 := fun _ => h.slope
  sm := h.b20.le (by decide)
theorem nb_second {p : List Int} (h : P6 p) (s0 : slopeL p ≠ []) : Nb (slopeL p) (nx p (slopeL p)) := by
  have l := List.length_pos_iff.mpr s0
  have sl := slopeL_len p
  obtain ⟨M, hM, bM⟩ := rem_first h (by omega)
  obtain ⟨n1, n2, n3⟩ := nx_small (pol_slope h.1) hM bM
  have h8 := h.2.1
  exact {
    pa := pol_slope h.1
    pb := n1
    la := by omega
    lt := nx_len s0
    ba := h.slope.le (gam_mono 1 _ (by omega))
    bb := n2.le (gam_mono 2 _ (by omega))
    b1 := n3
    sm := h.slope.le (by decide) }
theorem nb_next {A B : List Int} (h : Nb A B) (h7 : A.length ≤ 7) (h0 : B ≠ []) : Nb B (nx A B) := by
  have l := List.length_pos_iff.mpr h0
  have hl := h.lt
  obtain ⟨M, hM, bM⟩ := rem_ex h.pa h.pb h0 h.ba h.bb
  obtain ⟨n1, n2, n3⟩ := nx_small h.pb hM bM
  refine { pa := h.pb, pb := n1, la := by omega, lt := nx_len h0, ba := h.bb.le (gam_mono _ _ (by omega)), bb := ?_, b1 := n3, sm := h.smb }
  by_cases c : B.length = 1
  · have := nx_len (A := A) h0
    have : nx A B = [] := List.eq_nil_of_length_eq_zero (by omega)
    rw [this]
    intro x hx
    cases hx
  · exact n2.le (gam_step A.length (by omega) B.length (by omega) (by omega))
/-- where a row of p stands -/
structure Wr (p : List Int) (pre : List (List Int)) (A B : List Int) : Prop where
  nb : Nb A B
  hd : (A = p ∧ B = slopeL p) ∨ A.length ≤ 7
  all : pre ++ A :: rowT A B = rowL p
theorem Wr.start {p : List Int} (h : P6 p) (h0 : p ≠ []) : Wr p [] p (slopeL p) := ⟨nb_first h h0, .inl ⟨rfl, rfl⟩, rfl⟩
theorem Wr.next {p : List Int} {pre : List (List Int)} {A B : List Int} (hp : P6 p) (h : Wr p pre A B) (h0 : B ≠ []) : Wr p (pre ++ [A]) B (nx A B) := by
  obtain ⟨h1, h2, h3⟩ := h
  refine ⟨?_, .inr (by have := h1.la; have := h1.lt; omega), ?_⟩
  · rcases h2 with ⟨rfl, rfl⟩ | h2
    · exact nb_second hp h0
    · exact nb_next h1 h2 h0
  · rw [← h3, rowT_cons h0, List.append_assoc]
    rfl
theorem Wr.done {p : List Int} {pre : List (List Int)} {A : List Int} (h : Wr p pre A []) : pre ++ [A] = rowL p := by
  rw [← h.all, rowT_nil]
theorem Wr.one {p : List Int} {pre : List (List Int)} {A B : List Int} (h : Wr p pre A B) (h1 : B.length = 1) : pre ++ [A] ++ [B] = rowL p := by
  have h0 : B ≠ [] := fun z => by rw [z] at h1; cases h1
  have : nx A B = [] := List.eq_nil_of_length_eq_zero (by have := nx_len (A := A) h0; omega)
  rw [← h.all, rowT_cons h0, this, rowT_nil, List.append_assoc]
  rfl
end V2


namespace V2
open PySem L2
open PySem.Spec PyProof.Rows
/-- the constant n -/
def cp (n : Int) : List Int := if n = 0 then [] else [n]
section
variable {base : Heap} {mg : Str → Option Value} {K : PySem.W.Frag} {w : World} {P : Program}
end
end V2


namespace V2
open PySem L2
open PySem.Spec PyProof.Rows
def B26 (n : Int) : Prop := n.natAbs < 2 ^ 4400
section
variable {base : Heap} {mg : Str → Option Value} {K : PySem.W.Frag} {w : World} {P : Program}
theorem B26.g {t m : Int} (hm : 0 < m) (h : B26 m) : 0 < ((Int.gcd t m : Nat) : Int) ∧ B26 ((Int.gcd t m : Nat) : Int) := by
  have h0 : 0 < Int.gcd t m := Int.gcd_pos_of_ne_zero_right _ (by omega)
  refine ⟨by omega, ?_⟩
  unfold B26
  rw [Int.natAbs_natCast]
  refine Nat.lt_of_le_of_lt (Nat.le_of_dvd (by omega) ?_) h
  exact Int.natAbs_dvd_natAbs.mpr (Int.gcd_dvd_right _ _) |> (by simpa using ·)
end
end V2


namespace PySem
mutual
inductive ReadsS (h : Heap) : Value → PyData → Prop
  | none : ReadsS h .none .none
  | bool (b : Bool) : ReadsS h (.bool b) (.bool b)
  | int (i : Int) (t : Tok) : ReadsS h (.int i t) (.int i)
  | str (x : Str) (t : Tok) : ReadsS h (.str x t) (.str x)
  | list {a : Addr} {o : Obj} {vs : Array Value} {n : Nat} {xs : List PyData} : h.get? a = some o → o.cls = .type "list" → o.data = .seq vs n → ReadsAllS h vs.toList xs → ReadsS h (.ref a) (.list xs)
  | tuple {a : Addr} {o : Obj} {vs : Array Value} {n : Nat} {xs : List PyData} : h.get? a = some o → o.cls = .type "tuple" → o.data = .seq vs n → ReadsAllS h vs.toList xs → ReadsS h (.ref a) (.tuple xs)
  | dict {a : Addr} {o : Obj} {es : Array DictEntry} {n : Nat} {kvs : List (PyData × PyData)} : h.get? a = some o → o.cls = .type "dict" → o.data = .dict es n → (a == sysModules) = false → ReadsAllS h (es.toList.map (·.key)) (kvs.map (·.1)) →
      ReadsAllS h (es.toList.map (·.val)) (kvs.map (·.2)) → ReadsS h (.ref a) (.dict kvs)
inductive ReadsAllS (h : Heap) : List Value → List PyData → Prop
  | nil : ReadsAllS h [] []
  | cons {v : Value} {vs : List Value} {d : PyData} {ds : List PyData} : ReadsS h v d → ReadsAllS h vs ds → ReadsAllS h (v :: vs) (d :: ds)
end
section
variable {h : Heap}
mutual
theorem ReadsS.reads : ∀ {v : Value} {d : PyData}, ReadsS h v d → ∃ as, Reads h v d as
  | _, _, .none => ⟨_, .none⟩
  | _, _, .bool b => ⟨_, .bool b⟩
  | _, _, .int i t => ⟨_, .int i t⟩
  | _, _, .str x t => ⟨_, .str x t⟩
  | _, _, .list h1 h2 h3 h4 => let ⟨_, r⟩ := ReadsAllS.reads h4; ⟨_, .list h1 h2 h3 r⟩
  | _, _, .tuple h1 h2 h3 h4 => let ⟨_, r⟩ := ReadsAllS.reads h4; ⟨_, .tuple h1 h2 h3 r⟩
  | _, _, .dict h1 h2 h3 _ h4 h5 => let ⟨_, r⟩ := ReadsAllS.reads h4; let ⟨_, q⟩ := ReadsAllS.reads h5; ⟨_, .dict h1 h2 h3 r q⟩
theorem ReadsAllS.reads : ∀ {vs : List Value} {ds : List PyData}, ReadsAllS h vs ds → ∃ as, ReadsAll h vs ds as
  | _, _, .nil => ⟨_, .nil⟩
  | _, _, .cons r q => let ⟨_, a⟩ := ReadsS.reads r; let ⟨_, b⟩ := ReadsAllS.reads q; ⟨_, .cons a b⟩
end
end
section
variable {prog : Program} {w : World} {h₀ : Heap}
end
end PySem
namespace V2
open PySem L2
open PySem.Spec PyProof.Rows
mutual
/-- v is the data d, where the abstract heap is H -/
inductive Dq (H : Hp) : V → PyData → Prop
  | non : Dq H .non .none
  | bl (b : Bool) : Dq H (.bl b) (.bool b)
  | int (i : Int) : Dq H (.int i) (.int i)
  | str (x : Str) : Dq H (.str x) (.str x)
  | lst {a : Addr} {xs : List V} {ds : List PyData} : H a = some (.lst xs) → DqAll H xs ds → Dq H (.ref a) (.list ds)
  | tup {a : Addr} {xs : List V} {ds : List PyData} : H a = some (.tup xs) → DqAll H xs ds → Dq H (.ref a) (.tuple ds)
  | dct {a : Addr} {x : Str} {w : V} {d : PyData} : H a = some (.dK [(.inr x, w)]) → Dq H w d → Dq H (.ref a) (.dict [(.str x, d)])
inductive DqAll (H : Hp) : List V → List PyData → Prop
  | nil : DqAll H [] []
  | cons {v : V} {vs : List V} {d : PyData} {ds : List PyData} : Dq H v d → DqAll H vs ds → DqAll H (v :: vs) (d :: ds)
end
mutual
theorem Dq.go {H H' : Hp} : ∀ {d : PyData} {v : V}, Dq H v d → Evl.Ex H H' → Dq H' v d
  | _, _, .non, _ => .non
  | _, _, .bl b, _ => .bl b
  | _, _, .int i, _ => .int i
  | _, _, .str x, _ => .str x
  | _, _, .lst h r, e => .lst (e _ _ h) (DqAll.go r e)
  | _, _, .tup h r, e => .tup (e _ _ h) (DqAll.go r e)
  | _, _, .dct h r, e => .dct (e _ _ h) (Dq.go r e)
theorem DqAll.go {H H' : Hp} : ∀ {ds : List PyData} {vs : List V}, DqAll H vs ds → Evl.Ex H H' → DqAll H' vs ds
  | _, _, .nil, _ => .nil
  | _, _, .cons a b, e => .cons (Dq.go a e) (DqAll.go b e)
end
section
variable {X : Cx} {pins : List (Addr × Obj)} {σ : L2.St} {H : Hp} {s : Shared}
mutual
theorem Dq.reads (I : Inv X pins σ H s) : ∀ {d : PyData} {v : V}, Dq H v d → ∀ {u : Value}, RelV v u → ReadsS s.heap u d
  | _, _, .non, _, r => by
    cases r
    exact .none
  | _, _, .bl b, _, r => by
    cases r
    exact .bool b
  | _, _, .int i, _, r => by
    obtain ⟨t, rfl⟩ := r
    exact .int i t
  | _, _, .str x, _, r => by
    obtain ⟨t, rfl⟩ := r
    exact .str x t
  | _, _, .lst h q, _, r => by
    cases r
    obtain ⟨_, its, n, rv, ho⟩ := I.hok _ _ h
    exact .list ho rfl rfl (by simpa using DqAll.reads I q rv)
  | _, _, .tup h q, _, r => by
    cases r
    obtain ⟨_, its, rv, o, ho, hc, n, hd⟩ := I.hok _ _ h
    exact .tuple ho hc hd (by simpa using DqAll.reads I q rv)
  | _, _, .dct h q, _, r => by
    cases r
    obtain ⟨_, hsys, vs, kv, o, es, ep, ho, ⟨hc, _, _⟩, hd, _, hp, _⟩ := dk_of I.hok h
    obtain ⟨p1, p2, rfl, e1, e2⟩ : ∃ p1 p2, vs = [(p1, p2)] ∧ Sum.inr _ = p1 ∧ RelV _ p2 := by
      cases kv with
      | cons r1 r2 =>
        cases r2
        exact ⟨_, _, rfl, r1.1, r1.2⟩
    · subst e1
      refine .dict ho hc hd hsys ?_ ?_
      · generalize es.toList = l at hp
        cases hp with
        | cons a1 a2 a3 =>
          cases a3
          have z1 := a1
          rw [mixKind_is] at z1
          rcases keyIs_shape z1 with ⟨_, _, z, _⟩ | ⟨x', t, z, ht⟩
          · cases z
          cases z
          rw [List.map_cons, List.map_nil, ht]
          exact .cons (.str _ _) .nil
      · generalize es.toList = l at hp
        cases hp with
        | cons a1 a2 a3 =>
          cases a3
          rw [List.map_cons, List.map_nil, a2]
          exact .cons (Dq.reads I q e2) .nil
theorem DqAll.reads (I : Inv X pins σ H s) : ∀ {ds : List PyData} {vs : List V}, DqAll H vs ds → ∀ {us : List Value}, Vals vs us → ReadsAllS s.heap us ds
  | _, _, .nil, _, r => by
    cases r
    exact .nil
  | _, _, .cons a b, _, r => by
    cases r with
    | cons r1 r2 => exact .cons (Dq.reads I a r1) (DqAll.reads I b r2)
end
end
end V2


namespace V2
open PySem L2
open PySem.Spec PyProof.Rows
/-- what is new -/
def Nw (H H' : Hp) : Hp := fun b => if (H b).isSome = true then none else H' b
theorem Nw.ex {H H' : Hp} : Evl.Ex (Nw H H') H' := fun b o h => by
  unfold Nw at h
  split at h
  · cases h
  · exact h
theorem nw_none {H H' : Hp} {b : Addr} {o : HO} (h : Nw H H' b = some o) : H b = none := by
  unfold Nw at h
  split at h
  · cases h
  · rename_i z
    cases e : H b with
    | none => rfl
    | some x =>
      rw [e] at z
      exact absurd rfl z
/-- data of lists and tuples, n deep at most -/
inductive Cp : Nat → PyData → Prop
  | non {n : Nat} : Cp n .none
  | bl {n : Nat} (b : Bool) : Cp n (.bool b)
  | int {n : Nat} (i : Int) : Cp n (.int i)
  | str {n : Nat} (x : Str) : Cp n (.str x)
  | lst {n : Nat} {ds : List PyData} : ds.length ≤ 100 → (∀ d ∈ ds, Cp n d) → Cp (n + 1) (.list ds)
  | tup {n : Nat} {ds : List PyData} : ds.length ≤ 100 → (∀ d ∈ ds, Cp n d) → Cp (n + 1) (.tuple ds)
theorem DqAll.len {H : Hp} : ∀ {ds : List PyData} {vs : List V}, DqAll H vs ds → vs.length = ds.length
  | _, _, .nil => rfl
  | _, _, .cons _ b => congrArg Nat.succ b.len
theorem DqAll.get {H : Hp} : ∀ {ds : List PyData} {vs : List V} {i : Nat} {v : V}, DqAll H vs ds → vs[i]? = some v → ∃ d, ds[i]? = some d ∧ Dq H v d
  | _, _, _, _, .nil, h => by cases h
  | _, _, 0, _, .cons a _, h => by
    cases h
    exact ⟨_, rfl, a⟩
  | _, _, i + 1, _, .cons _ b, h => b.get (i := i) h
section
variable {base : Heap} {mg : Str → Option Value} {K : PySem.W.Frag} {w : World} {P : Program}
end
end V2


namespace V2
open PySem L2
open PySem.Spec PyProof.Rows
abbrev Tk := Option Int × Int
def wV : Option Int → V
  | none => .non
  | some z => .int z
def wD : Option Int → PyData
  | none => .none
  | some z => .int z
def tkD (t : Tk) : PyData := .tuple [wD t.1, .int t.2]
def TksAt (H : Hp) (l : Addr) (ts : List Tk) : Prop := ∃ as : List Addr, H l = some (.lst (as.map V.ref)) ∧ as.length = ts.length ∧ ∀ (i : Nat) (a : Addr) (t : Tk), as[i]? = some a → ts[i]? = some t → H a = some (.tup [wV t.1, .int t.2])
theorem TksAt.ex {H H' : Hp} {l : Addr} {ts : List Tk} (h : TksAt H l ts) (e : Evl.Ex H H') : TksAt H' l ts := by
  obtain ⟨as, h1, h2, h3⟩ := h
  exact ⟨as, e _ _ h1, h2, fun i a t x y => e _ _ (h3 i a t x y)⟩
section
variable {base : Heap} {mg : Str → Option Value} {K : PySem.W.Frag} {w : World} {P : Program}
end
end V2


namespace V2
open PySem L2
open PySem.Spec PyProof.Rows
inductive Deed
  | op (ks : List Int)
  | po (k a : Int)
  | sc (k p q : Int)
  | mv (k m p q : Int)
  | un (k m : Int)
def dD : Deed → PyData
  | .op ks => .tuple [.str "open", .list (ks.map .int)]
  | .po k a => .tuple [.str "pour", .int k, .int a]
  | .sc k p q => .tuple [.str "scoop", .int k, .tuple [.int p, .int q]]
  | .mv k m p q => .tuple [.str "move", .int k, .int m, .tuple [.int p, .int q]]
  | .un k m => .tuple [.str "unless", .int k, .int m]
def DAt (H : Hp) (a : Addr) : Deed → Prop
  | .op ks => ∃ l, H a = some (.tup [.str "open", .ref l]) ∧ Li H l ks
  | .po k x => H a = some (.tup [.str "pour", .int k, .int x])
  | .sc k p q => ∃ f, H a = some (.tup [.str "scoop", .int k, .ref f]) ∧ Fr H f p q
  | .mv k m p q => ∃ f, H a = some (.tup [.str "move", .int k, .int m, .ref f]) ∧ Fr H f p q
  | .un k m => H a = some (.tup [.str "unless", .int k, .int m])
theorem DAt.ex {H H' : Hp} {a : Addr} {d : Deed} (h : DAt H a d) (e : Evl.Ex H H') : DAt H' a d := by
  cases d with
  | op ks =>
    obtain ⟨l, h1, h2⟩ := h
    exact ⟨l, e _ _ h1, e _ _ h2⟩
  | po k x => exact e _ _ h
  | sc k p q =>
    obtain ⟨f, h1, h2⟩ := h
    exact ⟨f, e _ _ h1, e _ _ h2⟩
  | mv k m p q =>
    obtain ⟨f, h1, h2⟩ := h
    exact ⟨f, e _ _ h1, e _ _ h2⟩
  | un k m => exact e _ _ h
def Pt (p q : Int) : Prop := 0 ≤ p ∧ p ≤ q ∧ Qn p q
/-- a step that is right, for n tanks -/
def okD (n : Int) : Deed → Prop
  | .op ks => 2 ≤ ks.length ∧ ks.length ≤ 20 ∧ (∀ (i : Nat) (x y : Int), ks[i]? = some x → ks[i + 1]? = some y → x < y) ∧ ∀ k ∈ ks, 0 ≤ k ∧ k < n
  | .po k a => (0 ≤ k ∧ k < n) ∧ 0 ≤ a
  | .sc k p q => (0 ≤ k ∧ k < n) ∧ Pt p q
  | .mv k m p q => (0 ≤ k ∧ k < n) ∧ (0 ≤ m ∧ m < n) ∧ k ≠ m ∧ Pt p q
  | .un k m => (0 ≤ k ∧ k < n) ∧ (0 ≤ m ∧ m < n) ∧ k ≠ m
section
variable {base : Heap} {mg : Str → Option Value} {K : PySem.W.Frag} {w : World} {P : Program} {aT : Addr} {es : Array DictEntry} {nT : Nat} {t1 t2 t3 t4 t5 : Tok}
end
end V2


namespace V2
open PySem L2
open PySem.Spec PyProof.Rows
def DObj : HO → Prop
  | .lst _ => True
  | .tup _ => True
  | .dK _ => True
  | _ => False
mutual
theorem Dq.keep {H H' : Hp} (e : ∀ b o, DObj o → H b = some o → H' b = some o) : ∀ {d : PyData} {v : V}, Dq H v d → Dq H' v d
  | _, _, .non => .non
  | _, _, .bl b => .bl b
  | _, _, .int i => .int i
  | _, _, .str x => .str x
  | _, _, .lst h r => .lst (e _ _ trivial h) (DqAll.keep e r)
  | _, _, .tup h r => .tup (e _ _ trivial h) (DqAll.keep e r)
  | _, _, .dct h r => .dct (e _ _ trivial h) (Dq.keep e r)
theorem DqAll.keep {H H' : Hp} (e : ∀ b o, DObj o → H b = some o → H' b = some o) : ∀ {ds : List PyData} {vs : List V}, DqAll H vs ds → DqAll H' vs ds
  | _, _, .nil => .nil
  | _, _, .cons a b => .cons (Dq.keep e a) (DqAll.keep e b)
end
theorem keep_ins {H H' : Hp} {x C dx : Addr} {fs : List (Str × V)} (hx : H x = some (.ins C dx fs)) (b : But x H H') : ∀ c o, DObj o → H c = some o → H' c = some o := fun c o d h => b c o (fun z => by
  rw [z, hx] at h
  cases h
  exact d) h
/-- the steps that stand in a list -/
def DsAt (H : Hp) (l : Addr) (ds : List Deed) : Prop := ∃ as : List Addr, H l = some (.lst (as.map V.ref)) ∧ as.length = ds.length ∧ ∀ (i : Nat) (a : Addr) (d : Deed), as[i]? = some a → ds[i]? = some d → DAt H a d
theorem DsAt.ex {H H' : Hp} {l : Addr} {ds : List Deed} (h : DsAt H l ds) (e : Evl.Ex H H') : DsAt H' l ds := by
  obtain ⟨as, h1, h2, h3⟩ := h
  exact ⟨as, e _ _ h1, h2, fun i a t x y => (h3 i a t x y).ex e⟩
def scF (v u : V) : List (Str × V) := [("_tanks", v), ("_steps", u)]
section
variable {base : Heap} {mg : Str → Option Value} {K : PySem.W.Frag} {w : World} {P : Program} {C fI fT fS pT pS : Addr}
end
end V2


namespace V2
open PySem L2
open PySem.Spec PyProof.Rows
def CsAt (H : Hp) (l : Addr) (ns : List Int) : Prop := ∃ as : List Addr, H l = some (.lst (as.map V.ref)) ∧ as.length = ns.length ∧ ∀ (i : Nat) (a : Addr) (n : Int), as[i]? = some a → ns[i]? = some n → Li H a (cp n)
theorem CsAt.ex {H H' : Hp} {l : Addr} {ns : List Int} (h : CsAt H l ns) (e : Evl.Ex H H') : CsAt H' l ns := by
  obtain ⟨as, h1, h2, h3⟩ := h
  exact ⟨as, e _ _ h1, h2, fun i a t x y => e _ _ (h3 i a t x y)⟩
theorem CsAt.get {H : Hp} {l : Addr} {ns : List Int} (h : CsAt H l ns) {i : Nat} {n : Int} (hn : ns[i]? = some n) : ∃ (xs : List V) (a : Addr), H l = some (.lst xs) ∧ xs[i]? = some (.ref a) ∧ Li H a (cp n) := by
  obtain ⟨as, h1, h2, h3⟩ := h
  have hi : i < as.length := by
    have := (List.getElem?_eq_some_iff.mp hn).1
    omega
  have ha : as[i]? = some as[i] := List.getElem?_eq_getElem hi
  exact ⟨_, as[i], h1, by rw [List.getElem?_map, ha]; rfl, h3 i _ n ha hn⟩
/-- while the list at D is being made: i of them are there -/
def CsN (H : Hp) (D : Addr) (ns : List Int) (i : Nat) : Prop := ∃ as : List Addr, H D = some (.lst (as.map V.ref)) ∧ as.length = i ∧ ∀ (j : Nat) (a : Addr) (n : Int), as[j]? = some a → ns[j]? = some n → a ≠ D ∧ Li H a (cp n)
theorem CsN.start {H : Hp} {D : Addr} {ns : List Int} (h : H D = some (.lst [])) : CsN H D ns 0 := ⟨[], h, rfl, fun j a n h => by cases h⟩
theorem get_app {α : Type} {as : List α} {r a : α} {j : Nat} (h : (as ++ [r])[j]? = some a) : (as[j]? = some a ∧ j < as.length) ∨ (j = as.length ∧ a = r) := by
  by_cases hj : j < as.length
  · rw [List.getElem?_append_left hj] at h
    exact .inl ⟨h, hj⟩
  · rw [List.getElem?_append_right (by omega)] at h
    have h1 : j - as.length < 1 := (List.getElem?_eq_some_iff.mp h).1
    have h2 : j = as.length := by omega
    subst h2
    rw [Nat.sub_self] at h
    exact .inr ⟨rfl, (Option.some.inj h).symm⟩
theorem CsN.done {H : Hp} {D : Addr} {ns : List Int} (h : CsN H D ns ns.length) : CsAt H D ns := by
  obtain ⟨as, h1, h2, h3⟩ := h
  exact ⟨as, h1, h2, fun i a n x y => (h3 i a n x y).2⟩
/-- the widths, times what is below in the told one -/
def wid (u b : Int) (t : Tk) : Int := match t.1 with
  | none => u
  | some z => z * b
section
variable {base : Heap} {mg : Str → Option Value} {K : PySem.W.Frag} {w : World} {P : Program}
end
end V2


namespace V2
open PySem L2
open PySem.Spec PyProof.Rows
def pick (ns : List Int) (ks : List Int) : List Int := ks.map fun k => ns.getD k.toNat 0
/-- numbers of less than n bits -/
def Bn (n : Nat) (x : Int) : Prop := x.natAbs < 2 ^ n
theorem Bn.le {n m : Nat} {x : Int} (h : Bn n x) (l : n ≤ m) : Bn m x := Nat.lt_of_lt_of_le h (Nat.pow_le_pow_right (by decide) l)
/-- water: the amounts A by W -/
structure Wat (H : Hp) (t : Addr) (A : List Int) (W : Int) : Prop where
  at_ : ∃ la lw, H t = some (.tup [.ref la, .ref lw]) ∧ CsAt H la A ∧ Li H lw [W]
  pos : 0 < W
theorem Wat.ex {H H' : Hp} {t : Addr} {A : List Int} {W : Int} (h : Wat H t A W) (e : Evl.Ex H H') : Wat H' t A W := by
  obtain ⟨⟨la, lw, h1, h2, h3⟩, p⟩ := h
  exact ⟨⟨la, lw, e _ _ h1, h2.ex e, e _ _ h3⟩, p⟩
section
variable {base : Heap} {mg : Str → Option Value} {K : PySem.W.Frag} {w : World} {P : Program}
end
end V2


namespace V2
open PySem L2
open PySem.Spec PyProof.Rows
theorem fn_weak {P : Program} {w : World} {K : PySem.W.Frag} {mg : Str → Option Value} {base : Heap} {CX : CXT} {k : Nat} {f : Addr} {fd : FuncData} {ps : List Str} {sp sp' : Sp} (F : FnOk P w K mg base CX k f fd ps sp) (h : ∀ vs H Q E, sp' vs H Q E → sp vs H Q E) : FnOk P w K mg base CX k f fd ps sp' :=
  ⟨fun vs H Q E z => F.len vs H Q E (h _ _ _ _ z), fun A outer s H args us vs Q E hr e0 hb r z => F.run A outer s H args us vs Q E hr e0 hb r (h _ _ _ _ z)⟩
theorem Cal.weak {P : Program} {w : World} {K : PySem.W.Frag} {mg : Str → Option Value} {base : Heap} {k : Nat} {x : Str} {ps : List Str} {sp sp' : Sp} (c : Cal P w K mg base k x ps sp) (h : ∀ vs H Q E, sp' vs H Q E → sp vs H Q E) : Cal P w K mg base k x ps sp' := by
  obtain ⟨f, fd, F, a, b, d⟩ := c
  exact ⟨f, fd, fn_weak F h, a, b, d⟩
/-- the amounts behind a valve -/
def openA (A ws ks : List Int) : List Int := (List.range A.length).map fun (k : Nat) => if (k : Int) ∈ ks then (pick A ks).sum * ws.getD k 0 else A.getD k 0 * (pick ws ks).sum
section
variable {base : Heap} {mg : Str → Option Value} {K : PySem.W.Frag} {w : World} {P : Program}
end
end V2


namespace V2
open PySem L2
open PySem.Spec PyProof.Rows
def pourA (A : List Int) (W k a : Int) : List Int := (List.range A.length).map fun (j : Nat) => if (j : Int) = k then A.getD j 0 + a * W else A.getD j 0
/-- an element of a list of constants is not the list -/
theorem cs_ne {H : Hp} {l a : Addr} {as : List Addr} {i : Nat} {n : Int} (hl : H l = some (.lst (as.map V.ref))) (ha : as[i]? = some a) (h : Li H a (cp n)) : a ≠ l := by
  intro z
  have h : H a = some (.lst (iV (cp n))) := h
  rw [z, hl] at h
  injection h with h
  injection h with h
  have h2 := congrArg (fun x => x[i]?) h
  simp only [List.getElem?_map, ha] at h2
  have h2 : some (V.ref a) = (iV (cp n))[i]? := h2
  unfold iV at h2
  rw [List.getElem?_map] at h2
  cases e : (cp n)[i]? with
  | none =>
    rw [e] at h2
    cases h2
  | some x =>
    rw [e] at h2
    cases h2
section
variable {base : Heap} {mg : Str → Option Value} {K : PySem.W.Frag} {w : World} {P : Program}
end
end V2


namespace V2
open PySem L2
open PySem.Spec PyProof.Rows
/-- the amounts when p of q of tank k are taken, put into the tank o -/
def takeA (A : List Int) (k p q : Int) (o : Option Int) : List Int :=
  let B := (A.map (· * q)).set k.toNat (A.getD k.toNat 0 * (q - p))
  match o with
  | none => B
  | some m => B.set m.toNat (B.getD m.toNat 0 + A.getD k.toNat 0 * p)
section
variable {base : Heap} {mg : Str → Option Value} {K : PySem.W.Frag} {w : World} {P : Program}
end
end V2


namespace V2
open PySem L2
open PySem.Spec PyProof.Rows
/-- what a step does -/
def stepA (ws : List Int) (S : List Int × Int) : Deed → List Int × Int
  | .op ks => (openA S.1 ws ks, S.2 * (pick ws ks).sum)
  | .po k a => (pourA S.1 S.2 k a, S.2)
  | .sc k p q => (takeA S.1 k p q none, S.2 * q)
  | .mv k m p q => (takeA S.1 k p q (some m), S.2 * q)
  | .un _ _ => S
/-- the state of the water: amounts from 0 on, of at most N bits -/
structure OkW (N : Nat) (A : List Int) (W : Int) : Prop where
  nn : ∀ x ∈ A, 0 ≤ x
  bA : ∀ x ∈ A, Bn N x
  bW : Bn N W
  pos : 0 < W
def FmAt (H : Hp) (l : Addr) (fs : List (Int × Int)) : Prop := ∃ as : List Addr, H l = some (.lst (as.map V.ref)) ∧ as.length = fs.length ∧ ∀ (i : Nat) (a : Addr) (f : Int × Int), as[i]? = some a → fs[i]? = some f → ∃ x y, H a = some (.tup [.ref x, .ref y]) ∧ Li H x (cp f.1) ∧ Li H y [f.2]
section
variable {base : Heap} {mg : Str → Option Value} {K : PySem.W.Frag} {w : World} {P : Program}
end
end V2


namespace V2
open PySem L2
open PySem.Spec PyProof.Rows
/-- while the list of forms at D is being made -/
def FmN (H : Hp) (D : Addr) (fs : List (Int × Int)) (i : Nat) : Prop := ∃ as : List Addr, H D = some (.lst (as.map V.ref)) ∧ as.length = i ∧ ∀ (j : Nat) (a : Addr) (f : Int × Int), as[j]? = some a → fs[j]? = some f → ∃ x y, a ≠ D ∧ x ≠ D ∧ y ≠ D ∧ H a = some (.tup [.ref x, .ref y]) ∧ Li H x (cp f.1) ∧ Li H y [f.2]
theorem FmN.start {H : Hp} {D : Addr} {fs : List (Int × Int)} (h : H D = some (.lst [])) : FmN H D fs 0 := ⟨[], h, rfl, fun j a n h => by cases h⟩
theorem FmN.done {H : Hp} {D : Addr} {fs : List (Int × Int)} (h : FmN H D fs fs.length) : FmAt H D fs := by
  obtain ⟨as, h1, h2, h3⟩ := h
  exact ⟨as, h1, h2, fun i a f x y => let ⟨u, v, _, _, _, g⟩ := h3 i a f x y; ⟨u, v, g⟩⟩
section
variable {base : Heap} {mg : Str → Option Value} {K : PySem.W.Frag} {w : World} {P : Program}
end
end V2


namespace V2
open PySem L2
/-- behind all steps -/
def runA (ws : List Int) (S : List Int × Int) (ds : List Deed) : List Int × Int := ds.foldl (stepA ws) S
end V2


namespace V2
open PySem L2
open PySem.Spec PyProof.Rows
/-- pairs of ints that stand in a list, as tuples -/
def PrAt (H : Hp) (l : Addr) (fs : List (Int × Int)) : Prop := ∃ as : List Addr, H l = some (.lst (as.map V.ref)) ∧ as.length = fs.length ∧ ∀ (i : Nat) (a : Addr) (f : Int × Int), as[i]? = some a → fs[i]? = some f → Fr H a f.1 f.2
theorem PrAt.ex {H H' : Hp} {l : Addr} {fs : List (Int × Int)} (h : PrAt H l fs) (e : Evl.Ex H H') : PrAt H' l fs := by
  obtain ⟨as, h1, h2, h3⟩ := h
  exact ⟨as, e _ _ h1, h2, fun i a t x y => e _ _ (h3 i a t x y)⟩
/-- whether a step ends the script -/
def endB (ws : List Int) (A : List Int) : Deed → Bool
  | .un j m => decide (A.getD m.toNat 0 * ws.getD j.toNat 0 < A.getD j.toNat 0 * ws.getD m.toNat 0)
  | _ => false
section
variable {base : Heap} {mg : Str → Option Value} {K : PySem.W.Frag} {w : World} {P : Program}
end
end V2


namespace V2
open PySem L2
open PySem.Spec PyProof.Rows
/-- all but what stands at ps -/
def woL (ps : List Addr) (H : Hp) : Hp := fun b => if b ∈ ps then none else H b
theorem woL_ex {ps : List Addr} {H : Hp} : Evl.Ex (woL ps H) H := fun b o h => by
  unfold woL at h
  split at h
  · cases h
  · exact h
theorem woL_at {ps : List Addr} {b : Addr} {H : Hp} {o : HO} (n : b ∉ ps) (h : H b = some o) : woL ps H b = some o := by
  unfold woL
  rw [if_neg n]
  exact h
theorem woL_ne {ps : List Addr} {b : Addr} {H : Hp} {o : HO} (h : woL ps H b = some o) : b ∉ ps := fun z => by
  unfold woL at h
  rw [if_pos z] at h
  cases h
def ButL (ps : List Addr) (H H' : Hp) : Prop := ∀ b o, b ∉ ps → H b = some o → H' b = some o
theorem ButL.wo {ps qs : List Addr} {H H' : Hp} (h : ButL ps H H') (s : ∀ p ∈ ps, p ∈ qs) : Evl.Ex (woL qs H) (woL qs H') := fun b o z => woL_at (woL_ne z) (h b o (fun q => woL_ne z (s b q)) (woL_ex _ _ z))
theorem ButL.trans {ps : List Addr} {H H1 H2 : Hp} (a : ButL ps H H1) (b : ButL ps H1 H2) : ButL ps H H2 := fun c o n h => b c o n (a c o n h)
theorem ButL.of_ex {ps : List Addr} {H H' : Hp} (e : Evl.Ex H H') : ButL ps H H' := fun b o _ h => e b o h
theorem ButL.of_but {ps : List Addr} {p : Addr} {H H' : Hp} (h : But p H H') (m : p ∈ ps) : ButL ps H H' := fun b o n z => h b o (fun q => n (q ▸ m)) z
theorem ButL.mono {ps qs : List Addr} {H H' : Hp} (h : ButL ps H H') (s : ∀ p ∈ ps, p ∈ qs) : ButL qs H H' := fun b o n z => h b o (fun q => n (s b q)) z
/-- objects that are no part of water, widths or told widths -/
def Odd (H : Hp) (p : Addr) : Prop := (∃ ns : List Int, 2 ≤ ns.length ∧ H p = some (.lst (iV ns))) ∨ (∃ C dx fs, H p = some (.ins C dx fs)) ∨ ∃ ys c zs, H p = some (.lst (ys ++ [.ref c])) ∧ H c = some (.tup zs)
theorem Odd.get {H : Hp} {p : Addr} (k : Odd H p) : ∃ o, H p = some o := by
  rcases k with ⟨ns, n2, k⟩ | ⟨C, dx, fs, k⟩ | ⟨ys, c, zs, k, _⟩
  · exact ⟨_, k⟩
  · exact ⟨_, k⟩
  · exact ⟨_, k⟩
theorem Odd.ex {H H' : Hp} {p : Addr} (k : Odd H p) (e : Evl.Ex H H') : Odd H' p := by
  rcases k with ⟨ns, n2, k⟩ | ⟨C, dx, fs, k⟩ | ⟨ys, c, zs, k, k2⟩
  · exact .inl ⟨ns, n2, e _ _ k⟩
  · exact .inr (.inl ⟨_, _, _, e _ _ k⟩)
  · exact .inr (.inr ⟨_, _, _, e _ _ k, e _ _ k2⟩)
theorem Odd.but {H H' : Hp} {p x C dx : Addr} {fs : List (Str × V)} (k : Odd H p) (hx : H x = some (.ins C dx fs)) (b : But x H H') (n : p ≠ x) : Odd H' p := by
  rcases k with ⟨ns, n2, k⟩ | ⟨C, dx, fs, k⟩ | ⟨ys, c, zs, k, k2⟩
  · exact .inl ⟨ns, n2, b _ _ n k⟩
  · exact .inr (.inl ⟨_, _, _, b _ _ n k⟩)
  · exact .inr (.inr ⟨_, _, _, b _ _ n k, b _ _ (fun z => by rw [z, hx] at k2; cases k2) k2⟩)
theorem Odd.tup {H : Hp} {p q : Addr} {xs : List V} (k : Odd H p) (h : H q = some (.tup xs)) : q ≠ p := fun z => by
  rcases k with ⟨ns', n2, k⟩ | ⟨C, dx, fs, k⟩ | ⟨ys, c, zs, k, _⟩
  · rw [z, k] at h; cases h
  · rw [z, k] at h; cases h
  · rw [z, k] at h; cases h
theorem Odd.ints {H : Hp} {p q : Addr} {ns : List Int} (k : Odd H p) (h : Li H q ns) (l : ns.length ≤ 1) : q ≠ p := fun z => by
  have h : H q = some (.lst (iV ns)) := h
  rcases k with ⟨ns', n2, k⟩ | ⟨C, dx, fs, k⟩ | ⟨ys, c, zs, k, _⟩
  · rw [z, k] at h
    injection h with h
    injection h with h
    have := congrArg List.length h
    rw [iV_len, iV_len] at this
    omega
  · rw [z, k] at h; cases h
  · rw [z, k] at h
    injection h with h
    injection h with h
    have m : V.ref c ∈ iV ns := h ▸ List.mem_append_right _ (List.mem_singleton.mpr rfl)
    unfold iV at m
    obtain ⟨n, _, e⟩ := List.mem_map.mp m
    cases e
def bnF (lq g lw ls lt : Addr) (v : V) : List (Str × V) := [("_tanks", .ref lq), ("_width", .ref g), ("_widths", .ref lw), ("_steps", .ref ls), ("_waters", .ref lt), ("_ended", v)]
/-- the parts of a bench that stay as they are: tanks, widths, the water (now and ahead of each step), the steps -/
structure BnP (H : Hp) (lq g lw t : Addr) (ts : List Tk) (A ws : List Int) (W u b : Int) (as bs : List Addr) (ds : List Deed) (S : List (List Int × Int)) : Prop where
  q : TksAt H lq ts
  f : Fr H g u b
  c : CsAt H lw ws
  w : Wat H t A W
  d : ∀ (i : Nat) (a : Addr) (d : Deed), as[i]? = some a → ds[i]? = some d → DAt H a d
  ww : ∀ (i : Nat) (a : Addr) (s : List Int × Int), bs[i]? = some a → S[i]? = some s → Wat H a s.1 s.2
theorem BnP.ex {H H' : Hp} {lq g lw t : Addr} {ts : List Tk} {A ws : List Int} {W u b : Int} {as bs : List Addr} {ds : List Deed} {S : List (List Int × Int)} (h : BnP H lq g lw t ts A ws W u b as bs ds S) (e : Evl.Ex H H') : BnP H' lq g lw t ts A ws W u b as bs ds S :=
  ⟨h.q.ex e, e _ _ h.f, h.c.ex e, h.w.ex e, fun i a d x y => (h.d i a d x y).ex e, fun i a s x y => (h.ww i a s x y).ex e⟩
/-- a bench with the lists that it changes; s: the sack; ds: its steps; S: the water ahead of each; A by W: the water now -/
structure BnAt (C s : Addr) (H : Hp) (x ls lt : Addr) (ts : List Tk) (ds : List Deed) (S : List (List Int × Int)) (A ws : List Int) (W u b : Int) (v : V) : Prop where
  ex : ∃ (dx lq g lw t : Addr) (as bs : List Addr), H x = some (.ins C dx (bnF lq g lw ls lt v)) ∧ H ls = some (.lst (as.map V.ref)) ∧ as.length = ds.length ∧ H lt = some (.lst (bs.map V.ref ++ [.ref t])) ∧ bs.length = S.length ∧ BnP (woL [s, x, ls, lt] H) lq g lw t ts A ws W u b as bs ds S
  ne : ls ≠ lt ∧ ls ≠ s ∧ lt ≠ s ∧ x ≠ s
  nv : v = .non ∨ ∃ i, v = .int i
  len : S.length = ds.length
theorem BnAt.sep {C s : Addr} {H : Hp} {x ls lt : Addr} {ts : List Tk} {ds : List Deed} {S : List (List Int × Int)} {A ws : List Int} {W u b : Int} {v : V} (h : BnAt C s H x ls lt ts ds S A ws W u b v) {H' : Hp} (e : Evl.Ex (woL [s] H) (woL [s] H')) : BnAt C s H' x ls lt ts ds S A ws W u b v := by
  obtain ⟨⟨dx, lq, g, lw, t, as, bs, h1, h2, h3, h4, h5, h6⟩, ⟨n1, n2, n3, n4⟩, nv, ln⟩ := h
  have w : ∀ {p : Addr} {o : HO}, p ≠ s → H p = some o → H' p = some o := fun hn hp => woL_ex _ _ (e _ _ (woL_at (fun z => hn (List.mem_singleton.mp z)) hp))
  refine ⟨⟨dx, lq, g, lw, t, as, bs, w n4 h1, w n2 h2, h3, w n3 h4, h5, h6.ex fun p o z => ?_⟩, ⟨n1, n2, n3, n4⟩, nv, ln⟩
  have nm := woL_ne z
  exact woL_at nm (w (fun q => nm (q ▸ List.mem_cons_self)) (woL_ex _ _ z))
theorem BnAt.go {C s : Addr} {H : Hp} {x ls lt : Addr} {ts : List Tk} {ds : List Deed} {S : List (List Int × Int)} {A ws : List Int} {W u b : Int} {v : V} (h : BnAt C s H x ls lt ts ds S A ws W u b v) {H' : Hp} (e : Evl.Ex H H') : BnAt C s H' x ls lt ts ds S A ws W u b v := h.sep fun p o z => woL_at (woL_ne z) (e _ _ (woL_ex _ _ z))
theorem TksAt.dq {H : Hp} {l : Addr} {ts : List Tk} (h : TksAt H l ts) : Dq H (.ref l) (.list (ts.map tkD)) := by
  obtain ⟨as, h1, h2, h3⟩ := h
  refine .lst h1 ?_
  have go : ∀ (as : List Addr) (ts : List Tk), as.length = ts.length → (∀ (i : Nat) (a : Addr) (t : Tk), as[i]? = some a → ts[i]? = some t → H a = some (.tup [wV t.1, .int t.2])) → DqAll H (as.map V.ref) (ts.map tkD) := by
    intro as
    induction as with
    | nil =>
      intro ts hl _
      cases ts with
      | nil => exact .nil
      | cons t r => cases hl
    | cons a r ih =>
      intro ts hl hi
      cases ts with
      | nil => cases hl
      | cons t q =>
        refine .cons (.tup (hi 0 a t rfl rfl) (.cons ?_ (.cons (.int _) .nil))) (ih q (by simpa using hl) fun i a' t' h1 h2 => hi (i + 1) a' t' h1 h2)
        cases t.1 with
        | none => exact .non
        | some z => exact .int z
  exact go as ts h2 h3
theorem TksAt.but {H H' : Hp} {x l : Addr} {ts : List Tk} {C dx : Addr} {fs : List (Str × V)} (h : TksAt H l ts) (hx : H x = some (.ins C dx fs)) (b : But x H H') : TksAt H' l ts := by
  obtain ⟨as, h1, h2, h3⟩ := h
  have w : ∀ {p : Addr} {o : HO}, H p = some o → DObj o → H' p = some o := fun hp hd => keep_ins hx b _ _ hd hp
  exact ⟨as, w h1 trivial, h2, fun i a t y z => w (h3 i a t y z) trivial⟩
theorem OkW.le {N M : Nat} {A : List Int} {W : Int} (h : OkW N A W) (l : N ≤ M) : OkW M A W := ⟨h.nn, fun x hx => (h.bA x hx).le l, h.bW.le l, h.pos⟩
theorem dqi {H : Hp} : ∀ ns : List Int, DqAll H (iV ns) (ns.map .int)
  | [] => .nil
  | n :: ns => .cons (.int _) (dqi ns)
theorem dat_dq {H : Hp} {a : Addr} {d : Deed} (h : DAt H a d) : Dq H (.ref a) (dD d) := by
  cases d with
  | op ks =>
    obtain ⟨l, h1, h2⟩ := h
    exact .tup h1 (.cons (.str _) (.cons (.lst h2 (dqi ks)) .nil))
  | po k x => exact .tup h (.cons (.str _) (.cons (.int _) (.cons (.int _) .nil)))
  | sc k p q =>
    obtain ⟨l, h1, h2⟩ := h
    exact .tup h1 (.cons (.str _) (.cons (.int _) (.cons (.tup h2 (.cons (.int _) (.cons (.int _) .nil))) .nil)))
  | mv k m p q =>
    obtain ⟨l, h1, h2⟩ := h
    exact .tup h1 (.cons (.str _) (.cons (.int _) (.cons (.int _) (.cons (.tup h2 (.cons (.int _) (.cons (.int _) .nil))) .nil))))
  | un k m => exact .tup h (.cons (.str _) (.cons (.int _) (.cons (.int _) .nil)))
section
variable {base : Heap} {mg : Str → Option Value} {K : PySem.W.Frag} {w : World} {P : Program} {C fI fC fL fW fE pE : Addr}
end
end V2


namespace V2
open PySem L2
open PySem.Spec PyProof.Rows
section
variable {X : Cx} {CX : CXT} {k : Nat} {f C : Addr} {fd : FuncData} {ps : List Str} {sp : Sp} {E : L2.St → XK} {m : Str} {p q : Pos} {o e : Expr} {es : List Expr} {to : TE} {t : TA}
/-- what follows on the arguments of raise C(y) -/
theorem raise_in {K : PySem.W.Frag} {C g : Addr} {G : Hp} {y : V} {Q : XK} (T : EC K C g) (q : ∀ d G', G d = none → Evl.Ex G G' → G' d = some (.xd [("value", y)]) → Q (.ref C) (some d) G') :
    [y].length ≤ 1000 ∧ ∀ a, G a = none → spInit K (.ref a :: ([y] ++ [])) (upd G a (exo a C none)) (fun v G2 => v = .non ∧ ∃ (d : Addr) (fs : List (Str × V)), G2 a = some (exo a C (some d)) ∧ G2 d = some (exd d fs) ∧ G d = none ∧ Q (.ref C) (some d) (upd (del G2 a) d (.xd fs))) (fun _ _ _ => False) := by
  refine ⟨by show 1 ≤ 1000; decide, fun a ha => ⟨a, C, y, rfl, T.ox, T.noV, upd_same, fun dx hd hne => ⟨rfl, dx, [("value", y)], upd_same, Eq.trans (upd_ne hne) upd_same, ?_⟩⟩⟩
  have hd' : G dx = none := (upd_ne hne).symm.trans hd
  refine ⟨hd', q dx _ hd' (fun b o hb => ?_) upd_same⟩
  exact Eq.trans (upd_ne (ne_of_none hb hd')) (Eq.trans (del_ne (ne_of_none hb ha)) (Eq.trans (upd_ne (ne_of_none hb ha)) (Eq.trans (upd_ne (ne_of_none hb hd')) (Eq.trans (upd_ne (ne_of_none hb ha)) hb))))
end
end V2


namespace V2
open PySem L2
open PySem.Spec PyProof.Rows
theorem last_split {α : Type} {l : List α} (h : 0 < l.length) : ∃ a b, l = a ++ [b] := ⟨_, _, (List.dropLast_concat_getLast (List.length_pos_iff.mp h)).symm⟩
section
variable {base : Heap} {mg : Str → Option Value} {K : PySem.W.Frag} {w : World} {P : Program} {C fI fC fL fW fE pE : Addr}
end
end V2


namespace V2
open PySem L2
open PySem.Spec PyProof.Rows
theorem n200e : (2 : Nat) ^ 200 = 1606938044258990275541962092341162602522202993782792835301376 := by decide
/-- all but the object at p -/
def wo (p : Addr) (H : Hp) : Hp := fun b => if b = p then none else H b
theorem wo_ex {p : Addr} {H : Hp} : Evl.Ex (wo p H) H := fun b o h => by
  unfold wo at h
  split at h
  · cases h
  · exact h
theorem wo_at {p b : Addr} {H : Hp} {o : HO} (n : b ≠ p) (h : H b = some o) : wo p H b = some o := by
  unfold wo
  rw [if_neg n]
  exact h
theorem wo_ne {p b : Addr} {H : Hp} {o : HO} (h : wo p H b = some o) : b ≠ p := fun z => by
  unfold wo at h
  rw [if_pos z] at h
  cases h
theorem But.wo {p : Addr} {H H' : Hp} (h : But p H H') : Evl.Ex (wo p H) (V2.wo p H') := fun b o z => wo_at (wo_ne z) (h b o (wo_ne z) (wo_ex _ _ z))
theorem but_none {p q : Addr} {H H' : Hp} {n : Nat} (b : But p H H') (s : Sk H' p n) (h : H' q = none) : H q = none := by
  cases e : H q with
  | none => rfl
  | some o =>
    have h1 := b q o (sk_ne s h) e
    rw [h] at h1
    cases h1
theorem Sk.upd {H : Hp} {p l : Addr} {n : Nat} {o : HO} (s : Sk H p n) (h : l ≠ p) : Sk (L2.upd H l o) p n := by
  obtain ⟨a, b, c, h1, h2⟩ := s
  exact ⟨a, b, c, by rw [upd_ne h.symm]; exact h1, h2⟩
theorem ne_of_none' {H : Hp} {c l : Addr} {o : HO} (h : H c = some o) (hl : H l = none) : c ≠ l := fun z => by
  rw [z, hl] at h
  cases h
section
variable {base : Heap} {mg : Str → Option Value} {K : PySem.W.Frag} {w : World} {P : Program}
end
end V2


namespace V2
open PySem L2
open PySem.Spec PyProof.Rows
/-- numbers below i that are drawn: f and s are among them -/
structure AscI (f s : Int) (ks : List Int) (i : Nat) : Prop where
  asc : ∀ (j : Nat) (x y : Int), ks[j]? = some x → ks[j + 1]? = some y → x < y
  bd : ∀ x ∈ ks, 0 ≤ x ∧ x < (i : Int)
  hf : 0 ≤ f → f < (i : Int) → f ∈ ks
  hs : 0 ≤ s → s < (i : Int) → s ∈ ks
  len : ks.length ≤ i
theorem AscI.start (f s : Int) : AscI f s [] 0 := ⟨fun _ _ _ h => (by cases h), fun _ h => (by cases h), fun h h' => by omega, fun h h' => by omega, Nat.le_refl _⟩
section
variable {base : Heap} {mg : Str → Option Value} {K : PySem.W.Frag} {w : World} {P : Program}
end
end V2


namespace V2
open PySem L2
open PySem.Spec PyProof.Rows
theorem atI_mem {xs : List V} {r : Int} (h0 : 0 ≤ r) (h1 : r < xs.length) : ∃ v, v ∈ xs ∧ atI xs r = some v := by
  obtain ⟨j, rfl⟩ : ∃ j : Nat, r = (j : Int) := ⟨r.toNat, by omega⟩
  have hj : j < xs.length := by omega
  exact ⟨xs[j], List.getElem_mem hj, atI_nat (List.getElem?_eq_getElem hj)⟩
/-- [a, b, ..][coin(sack, many)] -/
theorem pick_read {K : PySem.W.Frag} {σ : L2.St} {H : Hp} {Q : VK} {t : TA} {xs : List V} {s : Addr} {n : Nat} {m : Int} (hm : m = (xs.length : Int)) (h0 : 0 < xs.length) (hl : xs.length ≤ 100) (i0 : σ[0]? = some (some (.ref s))) (hS : Sk H s n) (hn : n ≤ 99990)
    (ht : ∀ (H' : Hp) (Q' : List V → Hp → Prop), Q' xs H' → t σ H' Q') (k : ∀ (v : V) (H' : Hp), v ∈ xs → But s H H' → Sk H' s (n + 1) → Q v H') :
    tOp (rIxL K) (tLst t) (tCall spCoin [] E0 (tCons (tVar 0) (tCons (tC (.int m)) tNil))) σ H Q := by
  refine ht _ _ ⟨Nat.le_trans hl (by decide), fun p hp => ⟨_, i0, s, m, n, rfl, hS.ex (Evl.Ex.new hp), by omega, by omega, ?_, fun r H' r0 r1 b s' z => ?_⟩⟩
  · rw [n200e]
    omega
  · obtain ⟨v, hv, e⟩ := atI_mem (xs := xs) r0 (by omega)
    exact ⟨p, xs, r, v, rfl, rfl, SqL.of (b _ _ (sk_ne hS hp) upd_same), e, k v H' hv ((But.of_ex (Evl.Ex.new hp)).trans b) s'⟩
theorem ex_wo {p : Addr} {G G' : Hp} (e : Evl.Ex G G') : Evl.Ex (wo p G) (wo p G') := fun b o h => wo_at (wo_ne h) (e _ _ (wo_ex _ _ h))
theorem DsAt.take {H H' : Hp} {l l2 : Addr} {ds : List Deed} {xs : List V} (h : DsAt H l ds) (hl : H l = some (.lst xs)) (k : Nat) (e : Evl.Ex H H') (h2 : H' l2 = some (.lst (xs.take k))) : DsAt H' l2 (ds.take k) := by
  obtain ⟨as, h1, h3, h4⟩ := h
  rw [hl] at h1
  injection h1 with h1
  injection h1 with h1
  subst h1
  refine ⟨as.take k, by rw [h2, List.map_take], by rw [List.length_take, List.length_take, h3], fun i a d ha hd => ?_⟩
  rw [List.getElem?_take] at ha hd
  by_cases c : i < k
  · rw [if_pos c] at ha hd
    exact (h4 i a d ha hd).ex e
  · rw [if_neg c] at ha
    cases ha
section
variable {base : Heap} {mg : Str → Option Value} {K : PySem.W.Frag} {w : World} {P : Program}
end
end V2


namespace V2
open PySem L2
open PySem.Spec PyProof.Rows
/-- a script stands at x -/
def ScAt (H : Hp) (C x : Addr) (ts : List Tk) (ds : List Deed) : Prop := ∃ (dx : Addr) (fs : List (Str × V)) (v u : V), H x = some (.ins C dx fs) ∧ fs.lookup ("_tanks" : Str) = some v ∧ fs.lookup ("_steps" : Str) = some u ∧ Dq H v (.list (ts.map tkD)) ∧ Dq H u (.list (ds.map dD)) ∧ fs = scF v u
theorem ScAt.ex {H H' : Hp} {C x : Addr} {ts : List Tk} {ds : List Deed} (h : ScAt H C x ts ds) (e : Evl.Ex H H') : ScAt H' C x ts ds := by
  obtain ⟨dx, fs, v, u, h1, h2, h3, h4, h5, h6⟩ := h
  exact ⟨dx, fs, v, u, e _ _ h1, h2, h3, h4.go e, h5.go e, h6⟩
/-- where the water stands behind the first i steps -/
abbrev wAt (ts : List Tk) (ds : List Deed) (u b : Int) (i : Nat) : List Int × Int := runA (ts.map (wid u b)) (ts.map (·.2), 1) (ds.take i)
/-- the run ends behind the first n steps; e tells at which step -/
structure EndsAt (ts : List Tk) (ds : List Deed) (u b : Int) (n : Nat) (e : V) : Prop where
  le : n ≤ ds.length
  no : ∀ (j : Nat) (d : Deed), j < n → ds[j]? = some d → endB (ts.map (wid u b)) (wAt ts ds u b j).1 d = false
  at_ : (n = ds.length ∧ e = .non) ∨ ∃ d, ds[n]? = some d ∧ endB (ts.map (wid u b)) (wAt ts ds u b n).1 d = true ∧ e = .int (n : Int)
section
variable {base : Heap} {mg : Str → Option Value} {K : PySem.W.Frag} {w : World} {P : Program} {C fI fC fL fW fE pE : Addr}
end
end V2


namespace V2
open PySem L2
open PySem.Spec PyProof.Rows
theorem DpAll.of_get {K : PySem.W.Frag} {H : Hp} : ∀ {vs : List V} {ds : List PyData}, vs.length = ds.length → (∀ (i : Nat) (v : V) (d : PyData), vs[i]? = some v → ds[i]? = some d → Dp K H v d) → DpAll K H vs ds
  | [], [], _, _ => .nil
  | v :: vs, d :: ds, hl, h => .cons (h 0 v d rfl rfl) (DpAll.of_get (by simpa using hl) fun i v d x y => h (i + 1) v d x y)
  | [], _ :: _, hl, _ => by cases hl
  | _ :: _, [], hl, _ => by cases hl
theorem DqAll.of_get {H : Hp} : ∀ {vs : List V} {ds : List PyData}, vs.length = ds.length → (∀ (i : Nat) (v : V) (d : PyData), vs[i]? = some v → ds[i]? = some d → Dq H v d) → DqAll H vs ds
  | [], [], _, _ => .nil
  | v :: vs, d :: ds, hl, h => .cons (h 0 v d rfl rfl) (DqAll.of_get (by simpa using hl) fun i v d x y => h (i + 1) v d x y)
  | [], _ :: _, hl, _ => by cases hl
  | _ :: _, [], hl, _ => by cases hl
/-- while a list of steps is being made at D -/
def DsN (H : Hp) (D : Addr) (ds : List Deed) : Prop := ∃ as : List Addr, H D = some (.lst (as.map V.ref)) ∧ as.length = ds.length ∧ ∀ (i : Nat) (a : Addr) (d : Deed), as[i]? = some a → ds[i]? = some d → DAt (wo D H) a d
theorem DsN.start {H : Hp} {D : Addr} (h : H D = some (.lst [])) : DsN H D [] := ⟨[], h, rfl, fun i a f h => by cases h⟩
theorem DsN.done {H : Hp} {D : Addr} {ds : List Deed} (h : DsN H D ds) : DsAt H D ds := by
  obtain ⟨as, h1, h2, h3⟩ := h
  exact ⟨as, h1, h2, fun i a f x y => (h3 i a f x y).ex wo_ex⟩
/-- while a list of fractions is being made at D -/
def PrN (H : Hp) (D : Addr) (fs : List (Int × Int)) : Prop := ∃ as : List Addr, H D = some (.lst (as.map V.ref)) ∧ as.length = fs.length ∧ ∀ (i : Nat) (a : Addr) (f : Int × Int), as[i]? = some a → fs[i]? = some f → a ≠ D ∧ Fr H a f.1 f.2
theorem PrN.start {H : Hp} {D : Addr} (h : H D = some (.lst [])) : PrN H D [] := ⟨[], h, rfl, fun i a f h => by cases h⟩
theorem PrN.done {H : Hp} {D : Addr} {fs : List (Int × Int)} (h : PrN H D fs) : PrAt H D fs := by
  obtain ⟨as, h1, h2, h3⟩ := h
  exact ⟨as, h1, h2, fun i a f x y => (h3 i a f x y).2⟩
end V2


namespace V2
open PySem L2
open PySem.Spec PyProof.Rows
theorem DsAt.dq {H : Hp} {l : Addr} {ds : List Deed} (h : DsAt H l ds) : Dq H (.ref l) (.list (ds.map dD)) := by
  obtain ⟨as, h1, h2, h3⟩ := h
  refine .lst h1 (DqAll.of_get (by rw [List.length_map, List.length_map]; exact h2) fun i v d hv hd => ?_)
  rw [List.getElem?_map] at hv hd
  cases e1 : as[i]? with
  | none =>
    rw [e1] at hv
    cases hv
  | some a =>
    cases e2 : ds[i]? with
    | none =>
      rw [e2] at hd
      cases hd
    | some t =>
      rw [e1] at hv
      rw [e2] at hd
      cases hv
      cases hd
      exact dat_dq (h3 i a t e1 e2)
section
variable {base : Heap} {mg : Str → Option Value} {K : PySem.W.Frag} {w : World} {P : Program} {C fI fT fS pT pS : Addr}
end
end V2


namespace V2
open PySem L2
open PySem.Spec PyProof.Rows
def Bh (A : List Int) (W : Int) : List (Int × Int) := A.map fun x => fr x W
theorem PrN.keep {H H' : Hp} {D l : Addr} {fs : List (Int × Int)} {xs : List V} (h : PrN H D fs) (hl : H l = some (.lst xs)) (n : D ≠ l) (e : ∀ b o, b ≠ l → H b = some o → H' b = some o) : PrN H' D fs := by
  obtain ⟨as, h1, h2, h3⟩ := h
  refine ⟨as, e _ _ n h1, h2, fun i a f x y => ?_⟩
  obtain ⟨n1, z⟩ := h3 i a f x y
  exact ⟨n1, e _ _ (fun q => by
    have z : H a = some (.tup _) := z
    rw [q, hl] at z
    cases z) z⟩
theorem PrN.ex {H H' : Hp} {D : Addr} {fs : List (Int × Int)} (h : PrN H D fs) (e : Evl.Ex H H') : PrN H' D fs := by
  obtain ⟨as, h1, h2, h3⟩ := h
  exact ⟨as, e _ _ h1, h2, fun i a f x y => ⟨(h3 i a f x y).1, e _ _ (h3 i a f x y).2⟩⟩
end V2


namespace V2
open PySem L2
open PySem.Spec PyProof.Rows
mutual
/-- v is data; as: its lists, outer ones first -/
inductive TrD (H : Hp) : V → PyData → List Addr → Prop
  | non : TrD H .non .none []
  | bl (b : Bool) : TrD H (.bl b) (.bool b) []
  | int (i : Int) : TrD H (.int i) (.int i) []
  | str (x : Str) : TrD H (.str x) (.str x) []
  | lst {a : Addr} {xs : List V} {ds : List PyData} {as : List Addr} : H a = some (.lst xs) → TrA H xs ds as → TrD H (.ref a) (.list ds) (a :: as)
  | tup {a : Addr} {xs : List V} {ds : List PyData} {as : List Addr} : H a = some (.tup xs) → TrA H xs ds as → TrD H (.ref a) (.tuple ds) as
inductive TrA (H : Hp) : List V → List PyData → List Addr → Prop
  | nil : TrA H [] [] []
  | cons {v : V} {vs : List V} {d : PyData} {ds : List PyData} {as bs : List Addr} : TrD H v d as → TrA H vs ds bs → TrA H (v :: vs) (d :: ds) (as ++ bs)
end
mutual
theorem TrD.go {H H' : Hp} : ∀ {d : PyData} {v : V} {as : List Addr}, TrD H v d as → Evl.Ex H H' → TrD H' v d as
  | _, _, _, .non, _ => .non
  | _, _, _, .bl b, _ => .bl b
  | _, _, _, .int i, _ => .int i
  | _, _, _, .str x, _ => .str x
  | _, _, _, .lst h r, e => .lst (e _ _ h) (TrA.go r e)
  | _, _, _, .tup h r, e => .tup (e _ _ h) (TrA.go r e)
theorem TrA.go {H H' : Hp} : ∀ {ds : List PyData} {vs : List V} {as : List Addr}, TrA H vs ds as → Evl.Ex H H' → TrA H' vs ds as
  | _, _, _, .nil, _ => .nil
  | _, _, _, .cons a b, e => .cons (TrD.go a e) (TrA.go b e)
end
mutual
theorem TrD.dq {H : Hp} : ∀ {d : PyData} {v : V} {as : List Addr}, TrD H v d as → Dq H v d
  | _, _, _, .non => .non
  | _, _, _, .bl b => .bl b
  | _, _, _, .int i => .int i
  | _, _, _, .str x => .str x
  | _, _, _, .lst h r => .lst h (TrA.dq r)
  | _, _, _, .tup h r => .tup h (TrA.dq r)
theorem TrA.dq {H : Hp} : ∀ {ds : List PyData} {vs : List V} {as : List Addr}, TrA H vs ds as → DqAll H vs ds
  | _, _, _, .nil => .nil
  | _, _, _, .cons a b => .cons (TrD.dq a) (TrA.dq b)
end
mutual
/-- how many lists there are in data -/
def cntD : PyData → Nat
  | .list ds => 1 + cntA ds
  | .tuple ds => cntA ds
  | _ => 0
def cntA : List PyData → Nat
  | [] => 0
  | d :: ds => cntD d + cntA ds
end
mutual
/-- the data behind each of whose lists its rank was put, ranks from k on -/
def mkD : Nat → PyData → PyData
  | k, .list ds => .list (mkA (k + 1) ds ++ [.int (k : Int)])
  | k, .tuple ds => .tuple (mkA k ds)
  | _, d => d
def mkA : Nat → List PyData → List PyData
  | _, [] => []
  | k, d :: ds => mkD k d :: mkA (k + cntD d) ds
end
mutual
theorem TrD.cnt {H : Hp} : ∀ {d : PyData} {v : V} {as : List Addr}, TrD H v d as → as.length = cntD d
  | _, _, _, .non => rfl
  | _, _, _, .bl b => rfl
  | _, _, _, .int i => rfl
  | _, _, _, .str x => rfl
  | _, _, _, .lst h r => by
    have := TrA.cnt r
    simp only [cntD, List.length_cons]
    omega
  | _, _, _, .tup h r => by
    have := TrA.cnt r
    simpa only [cntD] using this
theorem TrA.cnt {H : Hp} : ∀ {ds : List PyData} {vs : List V} {as : List Addr}, TrA H vs ds as → as.length = cntA ds
  | _, _, _, .nil => rfl
  | _, _, _, .cons a b => by
    have h1 := TrD.cnt a
    have h2 := TrA.cnt b
    simp only [cntA, List.length_append]
    omega
end
theorem TrA.get {H : Hp} : ∀ {ds : List PyData} {vs : List V} {as : List Addr}, TrA H vs ds as → ∃ bss : List (List Addr), bss.length = vs.length ∧ as = bss.flatten ∧ ∀ (i : Nat) (x : V), vs[i]? = some x → ∃ d bs, ds[i]? = some d ∧ bss[i]? = some bs ∧ TrD H x d bs
  | _, _, _, .nil => ⟨[], rfl, rfl, fun _ _ h => by cases h⟩
  | _, _, _, @TrA.cons _ v vs d ds as bs a b => by
    obtain ⟨bss, h1, h2, h3⟩ := TrA.get b
    refine ⟨as :: bss, by rw [List.length_cons, List.length_cons, h1], by rw [List.flatten_cons, h2], fun i x hx => ?_⟩
    cases i with
    | zero =>
      cases hx
      exact ⟨d, as, rfl, rfl, a⟩
    | succ i => exact h3 i x hx
section
variable {base : Heap} {mg : Str → Option Value} {K : PySem.W.Frag} {w : World} {P : Program}
end
end V2


namespace V2
open PySem L2
open PySem.Spec PyProof.Rows
mutual
theorem TrD.lists {H : Hp} : ∀ {d : PyData} {v : V} {as : List Addr}, TrD H v d as → ∀ {n : Nat}, Cp n d → ∀ a ∈ as, ∃ xs, H a = some (.lst xs) ∧ xs.length ≤ 100
  | _, _, _, .non, _, _, _, m => by cases m
  | _, _, _, .bl b, _, _, _, m => by cases m
  | _, _, _, .int i, _, _, _, m => by cases m
  | _, _, _, .str x, _, _, _, m => by cases m
  | _, _, _, @TrD.lst _ a xs ds as h r, _, c, b, m => by
    cases c with
    | lst hl hc =>
      rcases List.mem_cons.mp m with rfl | m
      · exact ⟨xs, h, by rw [r.dq.len]; exact hl⟩
      · exact TrA.lists r hc b m
  | _, _, _, @TrD.tup _ a xs ds as h r, _, c, b, m => by
    cases c with
    | tup hl hc => exact TrA.lists r hc b m
theorem TrA.lists {H : Hp} : ∀ {ds : List PyData} {vs : List V} {as : List Addr}, TrA H vs ds as → ∀ {n : Nat}, (∀ d ∈ ds, Cp n d) → ∀ a ∈ as, ∃ xs, H a = some (.lst xs) ∧ xs.length ≤ 100
  | _, _, _, .nil, _, _, _, m => by cases m
  | _, _, _, .cons a b, _, c, q, m => by
    rcases List.mem_append.mp m with m | m
    · exact TrD.lists a (c _ List.mem_cons_self) q m
    · exact TrA.lists b (fun d hd => c d (List.mem_cons_of_mem _ hd)) q m
end
mutual
theorem Dq.tr {H : Hp} : ∀ {d : PyData} {v : V}, Dq H v d → ∀ {n : Nat}, Cp n d → ∃ as, TrD H v d as
  | _, _, .non, _, _ => ⟨_, .non⟩
  | _, _, .bl b, _, _ => ⟨_, .bl b⟩
  | _, _, .int i, _, _ => ⟨_, .int i⟩
  | _, _, .str x, _, _ => ⟨_, .str x⟩
  | _, _, .lst h r, _, c => by
    cases c with
    | lst hl hc =>
      obtain ⟨as, t⟩ := DqAll.tr r hc
      exact ⟨_, .lst h t⟩
  | _, _, .tup h r, _, c => by
    cases c with
    | tup hl hc =>
      obtain ⟨as, t⟩ := DqAll.tr r hc
      exact ⟨_, .tup h t⟩
  | _, _, .dct h r, _, c => nomatch c
theorem DqAll.tr {H : Hp} : ∀ {ds : List PyData} {vs : List V}, DqAll H vs ds → ∀ {n : Nat}, (∀ d ∈ ds, Cp n d) → ∃ as, TrA H vs ds as
  | _, _, .nil, _, _ => ⟨_, .nil⟩
  | _, _, .cons a b, _, c => by
    obtain ⟨as, t⟩ := Dq.tr a (c _ List.mem_cons_self)
    obtain ⟨bs, u⟩ := DqAll.tr b fun d hd => c d (List.mem_cons_of_mem _ hd)
    exact ⟨_, .cons t u⟩
end
section
variable {base : Heap} {mg : Str → Option Value} {K : PySem.W.Frag} {w : World} {P : Program}
end
end V2


namespace V2
open PySem L2
open PySem.Spec PyProof.Rows
/-- the law's state: waters, index, steps done -/
def StAt (H : Hp) (q : Addr) (ds : List Deed) (A : List Int) (W : Int) (v : V) : Prop := ∃ D L, H q = some (.tup [.ref D, v, .ref L]) ∧ PrAt H D (Bh A W) ∧ DsAt H L ds
theorem StAt.ex {H H' : Hp} {q : Addr} {ds : List Deed} {A : List Int} {W : Int} {v : V} (h : StAt H q ds A W v) (e : Evl.Ex H H') : StAt H' q ds A W v := by
  obtain ⟨D, L, h1, h2, h3⟩ := h
  exact ⟨D, L, e _ _ h1, h2.ex e, h3.ex e⟩
/-- objects that are no tuples -/
def Nt (ps : List Addr) (H : Hp) : Prop := ∀ p ∈ ps, (∃ o, H p = some o) ∧ ∀ xs, H p ≠ some (.tup xs)
theorem Nt.ex {ps : List Addr} {H H' : Hp} (h : Nt ps H) (e : Evl.Ex H H') : Nt ps H' := fun p hp => by
  obtain ⟨⟨o, h1⟩, h2⟩ := h p hp
  refine ⟨⟨o, e _ _ h1⟩, fun xs z => h2 xs ?_⟩
  rw [e _ _ h1] at z
  rw [h1, z]
theorem Nt.new {ps : List Addr} {H H' : Hp} {p : Addr} (h : Nt ps H) (e : Evl.Ex H H') (n : H' p = none) : p ∉ ps := fun hp => by
  obtain ⟨⟨o, h1⟩, _⟩ := h p hp
  rw [e _ _ h1] at n
  cases n
theorem Nt.tup {ps : List Addr} {H : Hp} {p : Addr} {xs : List V} (h : Nt ps H) (z : H p = some (.tup xs)) : p ∉ ps := fun hp => (h p hp).2 xs z
theorem woL_go {ps : List Addr} {H H' : Hp} (e : Evl.Ex H H') : Evl.Ex (woL ps H) (woL ps H') := fun b o z => woL_at (woL_ne z) (e _ _ (woL_ex _ _ z))
section
variable {base : Heap} {mg : Str → Option Value} {K : PySem.W.Frag} {w : World} {P : Program}
end
end V2


namespace V2
open PySem L2
open PySem.Spec PyProof.Rows
abbrev wEnd (ts : List Tk) (es : List Deed) (u b : Int) : List Int × Int := wAt ts es u b es.length
def hist (ts : List Tk) (es : List Deed) (u b : Int) : List (List Int × Int) := (List.range es.length).map fun j => wAt ts es u b j
theorem wAt_pre {ts : List Tk} {es fs : List Deed} {u b : Int} {j : Nat} (h : j ≤ es.length) : wAt ts (es ++ fs) u b j = wAt ts es u b j := by
  unfold wAt
  rw [List.take_append_of_le_length h]
theorem BnAt.ins {C s : Addr} {H : Hp} {x ls lt : Addr} {ts : List Tk} {ds : List Deed} {S : List (List Int × Int)} {A ws : List Int} {W u b : Int} {v : V} (h : BnAt C s H x ls lt ts ds S A ws W u b v) : ∃ dx fs, H x = some (.ins C dx fs) := by
  obtain ⟨⟨dx, lq, g, lw, t, as, bs, h1, _⟩, _, _, _⟩ := h
  exact ⟨_, _, h1⟩
end V2


namespace V2
open PySem L2
open PySem.Spec PyProof.Rows
theorem eqv_same {d : PyData} (h : SeqAt.shaped d = true) : PyData.eqv d d = true := by
  refine PySem.SeqAt.eqv_refl _ ?_
  unfold SeqAt.shaped at h
  exact (Bool.and_eq_true_iff.mp h).1
section
variable {base : Heap} {mg : Str → Option Value} {K : PySem.W.Frag} {w : World} {P : Program} {B gI gC gL gW gE qE CE fI : Addr}
end
end V2


namespace V2
open PySem L2 L2H
open PySem.Spec PyProof.Rows
/-- isinstance(e, c), e the error that is handled -/
def rIsP (K : PySem.W.Frag) (p : Addr × Obj) (C fI : Addr) : List V → Hp → VK → Prop := fun xs H Q => ∃ (d : Addr) (fs : List (Str × V)) (c : V) (cv : Value) (b : Bool), xs = [.ref p.1, c] ∧ p.2.dict = some d ∧ H d = some (.xd fs) ∧ EC K C fI ∧ (∀ u, RelV c u → u = cv) ∧ PySem.W.kitOne K (.ref C) cv = some b ∧ Q (.bl b) H
theorem inst_pin {P : Program} {w : World} {H : Hp} {h : Heap} {p : Addr × Obj} {C d : Addr} {fs : List (Str × V)} (hok : HOk P w H h) (hg : h.get? p.1 = some p.2) (hc : p.2.cls = .ref C) (hf : ∃ vs, p.2.data = .fields vs) (hd : p.2.dict = some d) (hx : H d = some (.xd fs)) : ∃ od, PySem.W.InstAt h p.1 p.2 C (some od) := by
  have z : ObjOk P w H h d (.xd fs) := hok d _ hx
  obtain ⟨mA, ⟨o, es, ep, e1, e2⟩, hr⟩ := z
  obtain ⟨vs, hv⟩ := hf
  exact ⟨o, hg, hc, by unfold PySem.W.notCls; rw [hv] <;> rfl, by rw [hd]; exact e1⟩
theorem call_isP {X : Cx} {p : Addr × Obj} {C fI : Addr} (G : EG X.K fI) (hp : p ∈ X.pn) (hc : p.2.cls = .ref C) (hf : ∃ vs, p.2.data = .fields vs) : CallR X (.builtin "isinstance") (rIsP X.K p C fI) := by
  intro pins s σ H xs us Q I r h
  obtain ⟨d, fs, c, cv, b, rfl, hd, hx, T, hcv, e, q⟩ := h
  cases r with
  | cons rx rr =>
    cases rr with
    | cons rt rr =>
      cases rr
      cases rx
      have ec := hcv _ rt
      subst ec
      obtain ⟨od, J⟩ := inst_pin I.hok (I.pin p (List.mem_append_left _ hp)).1 hc hf hd hx
      exact PySem.W.kia_one (PySem.W.kitx_exc T.hcl T.xf.ga T.xf.gg T.xf.exC T.ha G.hn G.ht T.hm) I.kIn J e (fun z => nomatch z) fun tk => ⟨.bl b, H, I.kept (t' := tk) fun _ _ z => z, rfl, q⟩
end V2


namespace V2
open PySem L2
open PySem.Spec PyProof.Rows
def tV1E (C : Addr) (a : Addr) (cls : Value) (d : Option Addr) (n : Nat) : TE := fun σ H Q => ∃ (dd : Addr) (fs : List (Str × V)) (v : V), σ[n]? = some (some (.ref a)) ∧ cls = .ref C ∧ d = some dd ∧ H dd = some (.xd fs) ∧ fs.lookup ("value" : Str) = some v ∧ Q v H
section
variable {X : Cx} {C fI a : Addr} {oe : Obj} {cls : Value} {d : Option Addr} {pn : List (Addr × Obj)} {n : Nat} {x : Str} {p1 p2 p3 pos : Pos}
theorem pe_v1E {K : PySem.W.Frag} (hK : X.K = K) (T : EC K C fI) (hz : Zc cls d oe) (hf : ∃ vs, oe.data = .fields vs) (he : PE (X.suite a ((a, oe) :: pn)) (.Name x p1) (tVar n))
    (hb : attributeBase (.Name x p1) "value" (X.suite a ((a, oe) :: pn)).env (eval (.Name x p1) (X.suite a ((a, oe) :: pn)).env) = eval (.Name x p1) (X.suite a ((a, oe) :: pn)).env := by rfl) :
    PE (X.suite a ((a, oe) :: pn)) (.Attribute (.Name x p1) "value" pos) (tV1E C a cls d n) := by
  subst hK
  refine ⟨fun pins s σ H Q I h => ?_⟩
  obtain ⟨dd, fs, v, h3, e1, e2, hx, hv, q⟩ := h
  exact (pe_xf (X := X) (a := a) (C := C) (oe := oe) (cls := cls) (d := d) (pn := pn) (pos := pos) (n := "value") T.xf T.noV hz hf he hb).run pins s σ H Q I ⟨_, h3, rfl, e1, dd, fs, v, e2, hx, hv, q⟩
end
section
variable {base : Heap} {mg : Str → Option Value} {K : PySem.W.Frag} {w : World} {P : Program} {B gI gC gL gW gE qE gU CE CN CT fI : Addr}
end
end V2


namespace V2
open PySem L2
open PySem.Spec PyProof.Rows
/-- a step as it may be wrong: nothing, a step of the right form, another word or length -/
inductive Bent where
  | nil
  | de (d : Deed)
  | bad (x : Str) (ds : List PyData)
def dB : Bent → PyData
  | .nil => .tuple []
  | .de d => dD d
  | .bad x ds => .tuple (.str x :: ds)
def BAt (H : Hp) (a : Addr) : Bent → Prop
  | .nil => H a = some (.tup [])
  | .de d => DAt H a d
  | .bad x ds => ∃ vs, H a = some (.tup (.str x :: vs)) ∧ DqAll H vs ds
/-- which word has which length -/
def thN (x : Str) : Option Nat := if x = "open" then some 2 else if x = "pour" then some 3 else if x = "scoop" then some 3 else if x = "move" then some 4 else if x = "unless" then some 3 else none
def badOk (x : Str) (ds : List PyData) : Prop := thN x ≠ some (ds.length + 1)
def BOk : Bent → Prop
  | .bad x ds => badOk x ds ∧ (thN x = none → x ∈ (["Open", "shut", "pours", "", "unles", "moves"] : List Str))
  | .de (.op ks) => ks.length ≤ 30
  | _ => True
section
variable {base : Heap} {mg : Str → Option Value} {K : PySem.W.Frag} {w : World} {P : Program} {aT : Addr} {es : Array DictEntry} {nT : Nat} {t1 t2 t3 t4 t5 : Tok}
end
end V2


namespace V2
open PySem L2
open PySem.Spec PyProof.Rows
def partD : Deed → Option (Int × Int)
  | .sc _ p q => some (p, q)
  | .mv _ _ p q => some (p, q)
  | _ => none
/-- how a step is refused, if it is -/
inductive Flt where
  | ok
  | step
  | tank (k : Int)
  | part (p q : Int)
theorem BAt.dq {H : Hp} {a : Addr} {d : Bent} (h : BAt H a d) : Dq H (.ref a) (dB d) := by
  cases d with
  | nil => exact .tup (show H a = some (.tup []) from h) .nil
  | de d => exact dat_dq h
  | bad x ds =>
    obtain ⟨vs, h1, h2⟩ := h
    exact .tup h1 (.cons (.str x) h2)
theorem BAt.ex {H H' : Hp} {a : Addr} {d : Bent} (h : BAt H a d) (e : Evl.Ex H H') : BAt H' a d := by
  cases d with
  | nil => exact e _ _ h
  | de d => exact DAt.ex h e
  | bad x ds =>
    obtain ⟨vs, h1, h2⟩ := h
    exact ⟨vs, e _ _ h1, DqAll.go h2 e⟩
def PBn (d : Bent) : Prop := match d with
  | .de d => ∀ p q, partD d = some (p, q) → Bn 50 p ∧ Bn 50 q
  | _ => True
/-- the error of class C with the value y -/
def Rz (C : Addr) (H : Hp) (y : V) (E : XK) : Prop := ∀ (e : Addr) (H' : Hp), H e = none → Evl.Ex H H' → H' e = some (.xd [("value", y)]) → E (.ref C) (some e) H'
section
variable {base : Heap} {mg : Str → Option Value} {K : PySem.W.Frag} {w : World} {P : Program} {CS CT CF fI : Addr}
end
end V2


namespace PySem
section
variable {prog : Program} {w : World} {A : Around} {E : Value → Shared → Prop} {s : Shared}
end
mutual
/-- what may be shown so -/
def WideD : PyData → Prop
  | .none => True
  | .bool _ => True
  | .int n => n.natAbs < 10 ^ 4300
  | .str _ => True
  | .list ds => WideA ds
  | .tuple ds => WideA ds
  | _ => False
def WideA : List PyData → Prop
  | [] => True
  | d :: ds => WideD d ∧ WideA ds
end
section
variable {prog : Program} {w : World} {h₀ : Heap} {K : PySem.W.Frag}
end
end PySem
namespace V2
open PySem L2
open PySem.Spec PyProof.Rows
end V2


namespace V2
open PySem L2
open PySem.Spec PyProof.Rows
def ShX (d : PyData) : Prop := WideD d ∧ d.depth ≤ 60 ∧ d.shown.length ≤ sizeLine
section
variable {base : Heap} {mg : Str → Option Value} {K : PySem.W.Frag} {w : World} {P : Program}
end
end V2


namespace V2
open PySem L2
open PySem.Spec PyProof.Rows
structure Sx (n B : Nat) (d : PyData) : Prop where
  s : WideD d
  dp : d.depth ≤ n
  l : d.shown.length ≤ B
theorem Sx.le {n m B C : Nat} {d : PyData} (h : Sx n B d) (a : n ≤ m) (b : B ≤ C) : Sx m C d := ⟨h.s, Nat.le_trans h.dp a, Nat.le_trans h.l b⟩
theorem Sx.sh {n B : Nat} {d : PyData} (h : Sx n B d) (a : n ≤ 60) (b : B ≤ 10000000) : ShX d := ⟨h.s, Nat.le_trans h.dp a, Nat.le_trans h.l (Nat.le_trans b (by decide))⟩
theorem sx_int {B : Nat} {n : Int} (h : n.natAbs < 2 ^ B) (b0 : 0 < B) (b1 : B ≤ 12900) : Sx 1 (B + 1) (.int n) := by
  have h4 := PySem.Flt.log2_lt_of b0 h
  refine ⟨?_, by simp [PyData.depth], ?_⟩
  · have h5 : (2 : Nat) ^ B ≤ 2 ^ 12900 := Nat.pow_le_pow_right (by decide) b1
    show n.natAbs < 10 ^ 4300
    exact Nat.lt_of_lt_of_le (Nat.lt_of_lt_of_le h h5) PyProof.Rows.pow_lo
  · show (Str.ofString (toString n)).length ≤ _
    rw [PySem.ofString_length]
    exact int_text_length_le b0 h4
theorem sx_non : Sx 1 10 .none := ⟨trivial, by simp [PyData.depth], by decide⟩
theorem sx_str {x : Str} (h : (PyData.shown (.str x)).length ≤ 10) : Sx 1 10 (.str x) := ⟨trivial, by simp [PyData.depth], h⟩
theorem sx_all {n B : Nat} : ∀ xs : List PyData, (∀ d ∈ xs, Sx n B d) → WideA xs ∧ PyData.depthAll xs ≤ n ∧ ((PyData.shownAll xs).map (·.length)).sum ≤ xs.length * B
  | [], _ => ⟨trivial, by simp [PyData.depthAll], by simp [PyData.shownAll]⟩
  | d :: r, h => by
    obtain ⟨a1, a2, a3⟩ := sx_all r fun x hx => h x (List.mem_cons_of_mem _ hx)
    obtain ⟨b1, b2, b3⟩ := h d List.mem_cons_self
    refine ⟨⟨b1, a1⟩, by simp [PyData.depthAll]; omega, ?_⟩
    simp only [PyData.shownAll, List.map_cons, List.sum_cons, List.length_cons, Nat.succ_mul]
    omega
theorem sx_list {n B : Nat} {xs : List PyData} (h : ∀ d ∈ xs, Sx n B d) : Sx (n + 1) (xs.length * B + 2 * xs.length + 3) (.list xs) := by
  obtain ⟨h1, h2, h3⟩ := sx_all xs h
  have h4 := listText_len_le (PyData.shownAll xs)
  have h5 := PyData.shownAll_length xs
  refine ⟨h1, by simp [PyData.depth]; omega, ?_⟩
  simp only [PyData.shown]
  omega
theorem sx_tup {n B : Nat} {xs : List PyData} (h : ∀ d ∈ xs, Sx n B d) : Sx (n + 1) (xs.length * B + 2 * xs.length + 3) (.tuple xs) := by
  obtain ⟨h1, h2, h3⟩ := sx_all xs h
  have h4 := tupleText_len_le (PyData.shownAll xs)
  have h5 := PyData.shownAll_length xs
  refine ⟨h1, by simp [PyData.depth]; omega, ?_⟩
  simp only [PyData.shown]
  omega
theorem sx_i50 {n : Int} (h : n.natAbs < 2 ^ 50) : Sx 1 60 (.int n) := (sx_int h (by decide) (by decide)).le (Nat.le_refl _) (by decide)
def eD : V → PyData
  | .int i => .int i
  | _ => .none
end V2


namespace V2
open PySem L2
open PySem.Spec PyProof.Rows
theorem Cp.up {n : Nat} {d : PyData} (h : Cp n d) : Cp (n + 1) d := by
  induction h with
  | non => exact .non
  | bl b => exact .bl b
  | int i => exact .int i
  | str x => exact .str x
  | lst h1 h2 ih => exact .lst h1 ih
  | tup h1 h2 ih => exact .tup h1 ih
section
variable {base : Heap} {mg : Str → Option Value} {K : PySem.W.Frag} {w : World} {P : Program} {B gI gC gL gW gE qE gS gN C fI fT fS pT pS : Addr}
end
end V2


namespace V2
open PySem L2
open PySem.Spec PyProof.Rows
section
variable {base : Heap} {mg : Str → Option Value} {K : PySem.W.Frag} {w : World} {P : Program}
end
theorem DqAll.take {H : Hp} : ∀ {vs : List V} {ds : List PyData} (n : Nat), DqAll H vs ds → DqAll H (vs.take n) (ds.take n)
  | _, _, 0, _ => .nil
  | _, _, _ + 1, .nil => .nil
  | _, _, n + 1, .cons a b => .cons a (DqAll.take n b)
section
variable {base : Heap} {mg : Str → Option Value} {K : PySem.W.Frag} {w : World} {P : Program}
end
end V2


namespace V2
open PySem L2
open PySem.Spec PyProof.Rows
mutual
theorem Dq.dp {K : PySem.W.Frag} {H : Hp} : ∀ {n : Nat} {d : PyData} {v : V}, Dq H v d → Cp n d → Dp K H v d
  | _, _, _, .non, _ => .non
  | _, _, _, .bl b, _ => .bl b
  | _, _, _, .int i, _ => .int i
  | _, _, _, .str x, _ => .str x
  | _, _, _, .lst h r, .lst _ c => .lst (SqL.of h) (DqAll.dp r c)
  | _, _, _, .tup h r, .tup _ c => .tup (SqT.of h) (DqAll.dp r c)
theorem DqAll.dp {K : PySem.W.Frag} {H : Hp} : ∀ {n : Nat} {ds : List PyData} {vs : List V}, DqAll H vs ds → (∀ d ∈ ds, Cp n d) → DpAll K H vs ds
  | _, _, _, .nil, _ => .nil
  | _, _, _, .cons a b, c => .cons (Dq.dp a (c _ List.mem_cons_self)) (DqAll.dp b fun d h => c d (List.mem_cons_of_mem _ h))
end
def g5 : Deed → Bool
  | .po _ a => decide (0 ≤ a)
  | .mv k m _ _ => decide (k ≠ m)
  | .un k m => decide (k ≠ m)
  | _ => true
section
variable {base : Heap} {mg : Str → Option Value} {K : PySem.W.Frag} {w : World} {P : Program}
end
end V2


namespace V2
open PySem L2
open PySem.Spec PyProof.Rows
inductive Lw : List Nat → PyData → Prop
  | non {l : List Nat} : Lw l .none
  | int {l : List Nat} {i : Int} : i.natAbs < 2 ^ 50 → Lw l (.int i)
  | str {l : List Nat} {x : Str} : (PyData.shown (.str x)).length ≤ 10 → Lw l (.str x)
  | lst {L : Nat} {l : List Nat} {ds : List PyData} : ds.length ≤ L → (∀ d ∈ ds, Lw l d) → Lw (L :: l) (.list ds)
  | tup {L : Nat} {l : List Nat} {ds : List PyData} : ds.length ≤ L → (∀ d ∈ ds, Lw l d) → Lw (L :: l) (.tuple ds)
def LwB : List Nat → Nat
  | [] => 60
  | L :: l => L * LwB l + 2 * L + 60
def LwC : List Nat → Nat
  | [] => 0
  | L :: l => 1 + L * LwC l
theorem lwB_60 : ∀ l, 60 ≤ LwB l
  | [] => Nat.le_refl _
  | L :: l => Nat.le_add_left _ _
theorem Lw.sx {l : List Nat} {d : PyData} (h : Lw l d) : Sx (l.length + 1) (LwB l) d := by
  induction h with
  | @non l => exact sx_non.le (by omega) (Nat.le_trans (by decide) (lwB_60 l))
  | @int l i h => exact (sx_i50 h).le (by omega) (lwB_60 l)
  | @str l x h => exact (sx_str h).le (by omega) (Nat.le_trans (by decide) (lwB_60 l))
  | @lst L l ds h1 h2 ih => exact (sx_list ih).le (Nat.le_refl _) (by
      have := Nat.mul_le_mul_right (LwB l) h1
      show _ ≤ L * LwB l + 2 * L + 60
      omega)
  | @tup L l ds h1 h2 ih => exact (sx_tup ih).le (Nat.le_refl _) (by
      have := Nat.mul_le_mul_right (LwB l) h1
      show _ ≤ L * LwB l + 2 * L + 60
      omega)
theorem Lw.cp {l : List Nat} {d : PyData} (h : Lw l d) (hl : ∀ L ∈ l, L ≤ 100) : Cp l.length d := by
  induction h with
  | non => exact .non
  | int h => exact .int _
  | str h => exact .str _
  | lst h1 h2 ih => exact .lst (Nat.le_trans h1 (hl _ List.mem_cons_self)) fun d hd => ih d hd fun L hL => hl L (List.mem_cons_of_mem _ hL)
  | tup h1 h2 ih => exact .tup (Nat.le_trans h1 (hl _ List.mem_cons_self)) fun d hd => ih d hd fun L hL => hl L (List.mem_cons_of_mem _ hL)
theorem cntA_le {n : Nat} : ∀ {ds : List PyData}, (∀ d ∈ ds, cntD d ≤ n) → cntA ds ≤ ds.length * n
  | [], _ => by simp [cntA]
  | d :: r, h => by
    have h1 := h d List.mem_cons_self
    have h2 := cntA_le (ds := r) fun x hx => h x (List.mem_cons_of_mem _ hx)
    simp only [cntA, List.length_cons, Nat.succ_mul]
    omega
theorem Lw.cnt {l : List Nat} {d : PyData} (h : Lw l d) : cntD d ≤ LwC l := by
  induction h with
  | non => simp [cntD]
  | int h => simp [cntD]
  | str h => simp [cntD]
  | @lst L l ds h1 h2 ih =>
    have h3 := cntA_le ih
    have := Nat.mul_le_mul_right (LwC l) h1
    show cntD (.list ds) ≤ 1 + L * LwC l
    simp only [cntD]
    omega
  | @tup L l ds h1 h2 ih =>
    have h3 := cntA_le ih
    have := Nat.mul_le_mul_right (LwC l) h1
    show cntD (.tuple ds) ≤ 1 + L * LwC l
    simp only [cntD]
    omega
theorem mkA_len2 : ∀ (ds : List PyData) (k : Nat), (mkA k ds).length = ds.length
  | [], _ => by simp [mkA]
  | d :: r, k => by simp [mkA, mkA_len2 r]
theorem mkA_all {C : PyData → Prop} {N : Nat} : ∀ {ds : List PyData} {k : Nat}, (∀ d ∈ ds, ∀ k, k + cntD d ≤ N → C (mkD k d)) → k + cntA ds ≤ N → ∀ x ∈ mkA k ds, C x
  | [], k, _, _, x, hx => by simp [mkA] at hx
  | d :: r, k, h, hk, x, hx => by
    simp only [cntA] at hk
    simp only [mkA, List.mem_cons] at hx
    rcases hx with rfl | hx
    · exact h d List.mem_cons_self k (by omega)
    · exact mkA_all (fun d hd => h d (List.mem_cons_of_mem _ hd)) (by omega) x hx
theorem Lw.mk {l : List Nat} {d : PyData} (h : Lw l d) : ∀ k, k + cntD d ≤ 100000 → Lw (l.map (· + 1)) (mkD k d) := by
  induction h with
  | non => exact fun k _ => by simp only [mkD]; exact .non
  | int h => exact fun k _ => by simp only [mkD]; exact .int h
  | str h => exact fun k _ => by simp only [mkD]; exact .str h
  | @lst L l ds h1 h2 ih =>
    intro k hk
    simp only [cntD] at hk
    simp only [mkD]
    refine .lst ?_ fun x hx => ?_
    · rw [List.length_append, mkA_len2]
      show ds.length + 1 ≤ L + 1
      omega
    · rcases List.mem_append.mp hx with hx | hx
      · exact mkA_all ih (by omega) x hx
      · rw [List.mem_singleton.mp hx]
        exact .int (Nat.lt_of_le_of_lt (show ((k : Int)).natAbs ≤ 100000 by omega) (by decide))
  | @tup L l ds h1 h2 ih =>
    intro k hk
    simp only [cntD] at hk
    simp only [mkD]
    refine .tup ?_ fun x hx => mkA_all ih (by omega) x hx
    rw [mkA_len2]
    show ds.length ≤ L + 1
    omega
/-- what is compared by the law's right -/
abbrev lwR : List Nat := [2, 2, 5, 31]
theorem Lw.rt {d : PyData} (h : Lw lwR d) : Cp 4 d ∧ ShX d ∧ ShX (mkD 0 d) ∧ cntD d ≤ 1000 := by
  have hc : cntD d ≤ LwC lwR := h.cnt
  have hn : LwC lwR ≤ 1000 := by decide
  refine ⟨h.cp (by decide), h.sx.sh (by decide) (by decide), (h.mk 0 (by omega)).sx.sh (by decide) (by decide), by omega⟩
section
variable {p : Addr} {σ : L2.St} {H : Hp} {K : PySem.W.Frag}
end
/-- what is known of a step as it may be wrong -/
structure GB (bd : Bent) : Prop where
  ok : BOk bd
  lw : Lw [5, 31] (dB bd)
  pb : PBn bd
  sh : SeqAt.shaped (dB bd) = true
theorem GB.cp {bd : Bent} (g : GB bd) : Cp 2 (dB bd) := g.lw.cp (by decide)
end V2


namespace V2
open PySem L2
open PySem.Spec PyProof.Rows
theorem TksAt.set {H H' : Hp} {l q : Addr} {ts : List Tk} {t : Tk} {j : Nat} (h : TksAt H l ts) (hq : H q = some (.tup [wV t.1, .int t.2])) (he : ∀ c o, c ≠ l → H c = some o → H' c = some o) (hl : ∀ as : List Addr, H l = some (.lst (as.map V.ref)) → H' l = some (.lst ((as.map V.ref).set j (.ref q)))) : TksAt H' l (ts.set j t) := by
  obtain ⟨as, h1, h2, h3⟩ := h
  refine ⟨as.set j q, by rw [hl as h1, List.map_set], by rw [List.length_set, List.length_set, h2], fun i a t' ha ht => ?_⟩
  have nl : ∀ {a : Addr} {xs : List V}, H a = some (.tup xs) → a ≠ l := fun h z => by rw [z, h1] at h; cases h
  rw [List.getElem?_set] at ha ht
  split at ha
  · rename_i c
    rw [if_pos c] at ht
    split at ha
    · split at ht
      · cases ha
        cases ht
        exact he _ _ (nl hq) hq
      · cases ht
    · cases ha
  · rename_i c
    rw [if_neg c] at ht
    have := h3 i a t' ha ht
    exact he _ _ (nl this) this
theorem TrD.new {H H' : Hp} {n : Nat} {v : V} {d : PyData} {as : List Addr} (h : TrD (Nw H H') v d as) (hc : Cp n d) : ∀ a ∈ as, H a = none := fun a ha => by
  obtain ⟨xs, z, _⟩ := h.lists hc a ha
  exact nw_none z
section
variable {base : Heap} {mg : Str → Option Value} {K : PySem.W.Frag} {w : World} {P : Program}
end
end V2


namespace V2
open PySem L2
open PySem.Spec PyProof.Rows
theorem sq_ex_but {K : PySem.W.Frag} {H H1 H2 : Hp} {a q : Addr} {xs : List V} (h : SqL K H a xs) (hq : H q = none) (e : Evl.Ex H H1) (b : But q H1 H2) : SqL K H2 a xs := by
  rcases h with h | h
  · left
    have go : ∀ o, H a = some o → H2 a = some o := fun o ho => b a o (ne_of_none ho hq) (e a o ho)
    rcases h with h | ⟨o, h⟩
    · exact .inl (go _ h)
    · exact .inr ⟨o, go _ h⟩
  · exact .inr h
def spLaw (K : PySem.W.Frag) : Sp := fun vs H Q _ => ∃ (a : Addr) (ns : List Int), vs = [.ref a] ∧ SqL K H a (iV ns) ∧ ns.length ≤ 63 ∧ ∀ H', Q (.bl true) H'
structure T6 (mg : Str → Option Value) : Prop where
  rng : mg "range" = none
  len : mg "len" = none
  max : mg "max" = none
  min : mg "min" = none
def Lay (K : PySem.W.Frag) (mg : Str → Option Value) (x : Str) (st : Stmt) (ps : List Str) : Prop := ∃ (f : Addr) (fd : FuncData), Fun K x x st f fd ∧ mg x = some (.ref f) ∧ PySem.W.keepIn K (.ref f) = true ∧ Binds K fd ps []
theorem lay_of {h : Heap} {mg : Str → Option Value} {K : PySem.W.Frag} {w : World} {L : Lk} (X : K.In h) (G : h.Ns mainGlobals mg) (c : L.seen K = L.due w) (i j : Nat) {x : Str} {st : Stmt} {ps : List Str}
    (hi : L.ds[i]? = some ⟨fun K => He.ga K x, x, x, st⟩) (hj : L.fb[j]? = some (bGlo x))
    (hb : ∀ (kV doc pm : Value) (an : Option Addr) (cdv ct : Value) (us : List Value), us.length = ps.length → bindArgs (PySem.W.fnOf x x (defArgs st) (defBody st) (defScope st) .none kV doc pm an cdv ct) ⟨us, []⟩ = pure (ps.zip us)) : Lay K mg x st ps := by
  obtain ⟨fd, F⟩ := Lk.df c i hi
  exact ⟨_, fd, F, He.glo_ok X G (Lk.fact c j hj), F.kp, Fun.binds F hb⟩
/-- a method, a getter -/
def LayM (K : PySem.W.Frag) (x y : Str) (st : Stmt) (f : Addr) (ps : List Str) : Prop := ∃ fd : FuncData, Fun K x y st f fd ∧ Binds K fd ps []
theorem laym_of {K : PySem.W.Frag} {w : World} {L : Lk} (c : L.seen K = L.due w) (i : Nat) {x y : Str} {st : Stmt} {a : PySem.W.Frag → Addr} {ps : List Str} (hi : L.ds[i]? = some ⟨a, x, y, st⟩)
    (hb : ∀ (kV doc pm : Value) (an : Option Addr) (cdv ct : Value) (us : List Value), us.length = ps.length → bindArgs (PySem.W.fnOf x y (defArgs st) (defBody st) (defScope st) .none kV doc pm an cdv ct) ⟨us, []⟩ = pure (ps.zip us)) : LayM K x y st (a K) ps := by
  obtain ⟨fd, F⟩ := Lk.df c i hi
  exact ⟨fd, F, Fun.binds F hb⟩
section
variable {base : Heap} {mg : Str → Option Value} {K : PySem.W.Frag} {w : World} {P : Program}
theorem Lay.cal {x : Str} {st : Stmt} {ps : List Str} {k : Nat} {sp : Sp} (L : Lay K mg x st ps) (h : ∀ f fd, Fun K x x st f fd → FnOk P w K mg base CX0 k f fd ps sp) : Cal P w K mg base k x ps sp := by
  obtain ⟨f, fd, F, m, kp, b⟩ := L
  exact ⟨f, fd, h f fd F, m, kp, b⟩
end
end V2


namespace V2
open PySem L2
open PySem.Spec PyProof.Rows
def nT (n : Int) : Str := Str.ofString (toString n)
/-- a whole number from 0 on, below 10 ** 64 -/
def spShI : Sp := fun vs H Q _ => ∃ n : Int, vs = [.int n] ∧ n.natAbs ≤ 999999999 ∧ Evl.RetV (.str (nT n)) H Q
theorem join_one (a x : Str) : Txt.join a [x] = x := by rw [TL.join_eq]; rfl
theorem tl_inj1 {x y : Str} (h : TL.tl x = TL.tl y) : x = y := by
  have := TL.map_tl_inj (l := [x]) (m := [y]) (by rw [List.map_cons, List.map_cons, h])
  cases this
  rfl
theorem str_app (x : Str) : ("" : Str) ++ x = x := tl_inj1 (by rw [TL.tl_append]; rfl)
section
variable {base : Heap} {mg : Str → Option Value} {K : PySem.W.Frag} {w : World} {P : Program}
theorem tl_nT_nat (k : Nat) : TL.tl (nT (k : Int)) = TL.numL k := TL.tl_num k
theorem tl_nT_neg (k : Nat) : TL.tl (nT (Int.negSucc k)) = 45 :: TL.numL (k + 1) := by
  have e : nT (Int.negSucc k) = Str.ofString ("-" ++ toString ((k + 1 : Nat) : Int)) := rfl
  rw [e, TL.tl_ofString, String.toList_append, List.map_append, ← TL.tl_ofString, ← TL.tl_ofString, TL.tl_num]
  rfl
theorem nT_neg {n : Int} (h : n < 0) : ("-" : Str) ++ nT (-n) = nT n := by
  obtain ⟨k, rfl⟩ : ∃ k : Nat, n = Int.negSucc k := ⟨(-n - 1).toNat, by omega⟩
  refine tl_inj1 ?_
  rw [TL.tl_append, tl_nT_neg]
  have e : -(Int.negSucc k) = ((k + 1 : Nat) : Int) := rfl
  rw [e, tl_nT_nat]
  rfl
theorem nT_len {n : Int} (h : n.natAbs ≤ 999999999) : (nT n).length ≤ 10 := by
  rw [TL.len_tl]
  have e9 : (10 : Nat) ^ 9 = 1000000000 := by decide
  cases n with
  | ofNat k =>
    have h : k ≤ 999999999 := h
    have := TL.numL_len (n := k) (k := 9) (by decide) (by omega)
    show (TL.tl (nT (k : Int))).length ≤ 10
    rw [tl_nT_nat]; omega
  | negSucc k =>
    have h : k + 1 ≤ 999999999 := h
    have := TL.numL_len (n := k + 1) (k := 9) (by decide) (by omega)
    rw [tl_nT_neg, List.length_cons]; omega
theorem ok_show_integer {f : Addr} {fd : FuncData} (F : Fun K "show_integer" "show_integer" s_show_integer f fd) (mAb : mg "abs" = none) (mS : mg "str" = none) : FnOk P w K mg base CX0 1 f fd p_show_integer spShI := by
  refine F.ok sc_show_integer (fun vs H Q E h => ?_) (fun cdv A outer s H vs Q E hr h => ?_)
  · obtain ⟨n, rfl, _⟩ := h
    rfl
  · obtain ⟨n, rfl, n1, k⟩ := h
    have nd := sc_show_integer.nd
    have one : 1 ≤ sizeLine := by show 1 ≤ sizeLine; decide
    have w64 : CPowX 10 64 := pow_ok (k := 4) (n := 64) (by decide) (by decide)
    refine ⟨_, pss_cons (ps_par (i := 1) (j := 2) rfl nd rfl rfl (by decide) rfl rfl (pa_cons (pe_callB call_abs (by rfl) mAb (by decide +kernel) (pa_cons (pv 0) pa_nil)) (pa_cons (pe_lst pa_nil) pa_nil)) (by rfl))
      (pss_cons (ps_while PassesOwn.never (pt_cmpR op_ge (pv 1) (pe_op op_powX pe_int pe_int) (nomark _)) (pss_cons ps_never
      (pss_one ps_never)))
      (pss_one (ps_ret (pe_op op_add_str (pe_ifExp (pt_cmpR op_lt (pv 0) pe_int (nomark _)) pe_str pe_str) (pe_join pe_str (pe_op op_cat (pe_lst (pa_cons (pe_callTy call_str_int (by rfl) mS (by decide +kernel) (pa_cons (pv 1) pa_nil)) pa_nil)) (pv 2))))))), ?_⟩
    obtain ⟨m, hm, m0, m1⟩ : ∃ m : Int, m = (if n < 0 then -n else n) ∧ 0 ≤ m ∧ m ≤ 999999999 := ⟨_, rfl, by split <;> omega, by split <;> omega⟩
    refine ⟨_, rfl, _, rfl, Nat.zero_le _, fun l hl => ⟨_, _, rfl, ?_⟩⟩
    rw [← hm]
    have e1 := Evl.Ex.new (o := .lst []) hl
    have g1 := upd_same (H := H) (a := l) (o := .lst [])
    generalize upd H l (.lst []) = H1 at e1 g1
    refine ⟨fun _ σ H' => H' = H1 ∧ σ = [some (.int n), some (.int m), some (.ref l), none], ⟨0, rfl, rfl⟩, ?_⟩
    rintro m' σ H' ⟨rfl, rfl⟩
    have e64 : (10 : Int) ^ (64 : Int).toNat = 10000000000000000000000000000000000000000000000000000000000000000 := by decide
    refine ⟨_, rfl, 10, 64, rfl, rfl, w64, _, _, rfl, rfl, _, rfl, if_f (decide_eq_false (by rw [e64]; omega)) ?_⟩
    have lm : (nT m).length ≤ 10 := nT_len (by omega)
    have l0 : (("" : Str)).length = 0 := rfl
    have l1 : (("-" : Str)).length = 1 := rfl
    have em : ∀ sg : Str, (sg = "-" ∧ n < 0) ∨ (sg = "" ∧ ¬ n < 0) → sg ++ nT m = nT n := by
      rintro sg (⟨rfl, h⟩ | ⟨rfl, h⟩)
      · rw [hm, if_pos h]; exact nT_neg h
      · rw [hm, if_neg h]; exact str_app _
    by_cases hn : n < 0
    · refine ⟨_, rfl, _, _, rfl, rfl, _, rfl, if_t (decide_eq_true hn) ⟨⟨_, rfl⟩, ?_⟩⟩
      have es := em _ (.inl ⟨rfl, hn⟩)
      refine ⟨_, rfl, m, rfl, ?_, one, fun b hb => ?_⟩
      · have hb20 : m.natAbs < 2 ^ 30 := Nat.lt_of_le_of_lt (show m.natAbs ≤ 999999999 by omega) (by decide)
        exact Nat.lt_of_lt_of_le (PySem.Flt.log2_lt_of (by decide) hb20) (by decide)
      have e2 := Evl.Ex.new (o := .lst [.str (nT m)]) hb
      have g2 := upd_same (H := H') (a := b) (o := .lst [.str (nT m)])
      refine ⟨_, rfl, b, l, _, _, rfl, rfl, g2, e2 _ _ g1, by show 1 ≤ sizeLine; decide, fun c hc => ?_⟩
      have e3 := Evl.Ex.new (o := .lst [.str (nT m)]) hc
      refine ⟨"", c, [nT m], rfl, rfl, .inl (SqL.of upd_same), ?_, ?_⟩
      · show (nT m).length + 0 + 1 * (("" : Str)).length ≤ 16777216
        omega
      refine ⟨_, _, rfl, rfl, ?_, ?_⟩
      · rw [join_one]
        refine Nat.le_trans (m := 11) ?_ (by decide)
        omega
      rw [join_one, es]
      exact k _ ((e1.trans e2).trans e3)
    · refine ⟨_, rfl, _, _, rfl, rfl, _, rfl, if_f (decide_eq_false hn) ⟨⟨_, rfl⟩, ?_⟩⟩
      have es := em _ (.inr ⟨rfl, hn⟩)
      refine ⟨_, rfl, m, rfl, ?_, one, fun b hb => ?_⟩
      · have hb20 : m.natAbs < 2 ^ 30 := Nat.lt_of_le_of_lt (show m.natAbs ≤ 999999999 by omega) (by decide)
        exact Nat.lt_of_lt_of_le (PySem.Flt.log2_lt_of (by decide) hb20) (by decide)
      have e2 := Evl.Ex.new (o := .lst [.str (nT m)]) hb
      have g2 := upd_same (H := H') (a := b) (o := .lst [.str (nT m)])
      refine ⟨_, rfl, b, l, _, _, rfl, rfl, g2, e2 _ _ g1, by show 1 ≤ sizeLine; decide, fun c hc => ?_⟩
      have e3 := Evl.Ex.new (o := .lst [.str (nT m)]) hc
      refine ⟨"", c, [nT m], rfl, rfl, .inl (SqL.of upd_same), ?_, ?_⟩
      · show (nT m).length + 0 + 1 * (("" : Str)).length ≤ 16777216
        omega
      refine ⟨_, _, rfl, rfl, ?_, ?_⟩
      · rw [join_one]
        refine Nat.le_trans (m := 11) ?_ (by decide)
        omega
      rw [join_one, es]
      exact k _ ((e1.trans e2).trans e3)
end
end V2


namespace V2
open PySem L2
open PySem.Spec PyProof.Rows
/-- what stands in a step -/
inductive Thg where
  | str (x : Str)
  | lst (ks : List Int)
  | fr (p q : Int)
  | int (n : Int)
def thT : Thg → Str
  | .str x => x
  | .lst ks => Txt.join "," (ks.map nT)
  | .fr p q => Txt.join "/" [nT p, nT q]
  | .int n => nT n
section
variable {base : Heap} {mg : Str → Option Value} {K : PySem.W.Frag} {w : World} {P : Program}
end
end V2


namespace V2
open PySem L2
open PySem.Spec PyProof.Rows
abbrev rJoin (K : PySem.W.Frag) : V → List V → Hp → VK → Prop := fun x xs H Q => ∃ a p, ∃ ys : List Str, x = .str a ∧ xs = [.ref p] ∧ (SqL K H p (ys.map V.str) ∨ SqT K H p (ys.map V.str)) ∧ (ys.map (·.length)).sum + ys.length * a.length ≤ 16777216 ∧ Q (.str (Txt.join a ys)) H
theorem lc_strs {K : PySem.W.Frag} {a D : Addr} {xs : List V} {j : Nat} {te : TE} {σ : L2.St} {H1 : Hp} {Qd : Hp → Prop} (ys : List Str) (el : ys.length = xs.length) (sz : ys.length ≤ 100000) (hD : H1 D = none) (ha : H1 a = some (.lst xs))
    (hw : ∀ x : V, wipe ((wipe σ [j]).set j (some x)) [j] = wipe σ [j])
    (hs : ∀ (i : Nat) (x : V) (y : Str) (H' : Hp) (Q : VK), xs[i]? = some x → ys[i]? = some y → Evl.Ex H1 H' → (∀ H2, Evl.Ex H' H2 → Q (.str y) H2) → te ((wipe σ [j]).set j (some x)) H' Q)
    (hd : ∀ H', Evl.Ex H1 H' → H' D = some (.lst (ys.map V.str)) → Qd H') :
    ∃ W : Nat → Nat → Hp → Prop, (∃ m, W 0 m (upd H1 D (.lst []))) ∧ ∀ i m H, W i m H →
      ((Itl K a).stop i H ∧ Qd H) ∨ ((Itl K a).go i H ∧ ∃ Nx : Hp → Prop, (∀ H', Nx H' → ∃ m', m' < m ∧ W (i + 1) m' H') ∧ ∀ x H', (Itl K a).yld i H x H' → gName j x (wipe σ [j]) H' fun σ2 H2 => wipe σ2 [j] = wipe σ [j] ∧ tYes σ2 H2 fun b H3 =>
        if b = true then te σ2 H3 fun y H4 => ∃ acc, H4 D = some (.lst acc) ∧ acc.length < sizeLine ∧ Nx (upd H4 D (.lst (acc ++ [y]))) else Nx H3) := by
  refine lc_list (xs := xs) (fun i H' => Evl.Ex H1 H' ∧ H' D = some (.lst ((ys.take i).map V.str))) ⟨Evl.Ex.new hD, upd_same⟩ (fun i H' _ q => SqL.of (q.1 _ _ ha)) ?_ ?_
  · rintro i x H' hi ⟨e1, h1⟩
    refine ⟨hw x, ?_⟩
    have li : i < xs.length := by
      by_cases h : i < xs.length
      · exact h
      · rw [List.getElem?_eq_none (by omega)] at hi; cases hi
    obtain ⟨y, hy⟩ : ∃ y, ys[i]? = some y := ⟨_, List.getElem?_eq_getElem (by omega)⟩
    refine hs i x y H' _ hi hy e1 fun H2 e2 => ⟨_, e2 _ _ h1, ?_, Evl.Ex.mut (e1.trans e2) hD, ?_⟩
    · rw [List.length_map, List.length_take]
      exact Nat.lt_of_le_of_lt (show min i ys.length ≤ 100000 by omega) (by decide)
    · rw [upd_same, List.take_add_one, hy, List.map_append]
      rfl
  · rintro H' ⟨e1, h1⟩
    rw [← el, List.take_length] at h1
    exact hd H' e1 h1
def dTh : Deed → List Thg
  | .op ks => [.str "open", .lst ks]
  | .po k a => [.str "pour", .int k, .int a]
  | .sc k p q => [.str "scoop", .int k, .fr p q]
  | .mv k m p q => [.str "move", .int k, .int m, .fr p q]
  | .un k m => [.str "unless", .int k, .int m]
def dT (d : Deed) : Str := Txt.join " " ((dTh d).map thT)
theorem len_app (x y : Str) : (x ++ y).length = x.length + y.length := by rw [TL.len_tl, TL.tl_append, List.length_append, ← TL.len_tl, ← TL.len_tl]
theorem joinL_len (y : List Nat) : ∀ ps : List (List Nat), (TL.joinL y ps).length ≤ (ps.map List.length).sum + ps.length * y.length
  | [] => Nat.zero_le _
  | [p] => by
    show p.length ≤ _
    simp only [List.map_cons, List.map_nil, List.sum_cons, List.sum_nil, List.length_cons, List.length_nil]
    omega
  | p :: q :: ps => by
    have ih := joinL_len y (q :: ps)
    show (p ++ (y ++ TL.joinL y (q :: ps))).length ≤ _
    rw [List.length_append, List.length_append]
    simp only [List.map_cons, List.sum_cons, List.length_cons] at ih ⊢
    have e : (ps.length + 1 + 1) * y.length = (ps.length + 1) * y.length + y.length := by rw [Nat.succ_mul]
    omega
theorem join_len (y : Str) (ps : List Str) : (Txt.join y ps).length ≤ (ps.map (·.length)).sum + ps.length * y.length := by
  rw [TL.join_eq, TL.len_tl, TL.tl_join]
  have := joinL_len (TL.tl y) (ps.map TL.tl)
  rw [List.length_map, List.map_map] at this
  have e : (ps.map (List.length ∘ TL.tl)) = ps.map (·.length) := List.map_congr_left fun p _ => (TL.len_tl p).symm
  rw [e, ← TL.len_tl] at this
  exact this
theorem sum_le {B : Nat} : ∀ {ps : List Str}, (∀ p ∈ ps, p.length ≤ B) → (ps.map (·.length)).sum ≤ ps.length * B
  | [], _ => Nat.zero_le _
  | p :: ps, h => by
    have h1 := sum_le (ps := ps) fun q hq => h q (List.mem_cons_of_mem _ hq)
    have h2 := h p List.mem_cons_self
    simp only [List.map_cons, List.sum_cons, List.length_cons]
    rw [Nat.succ_mul]
    omega
section
variable {base : Heap} {mg : Str → Option Value} {K : PySem.W.Frag} {w : World} {P : Program} {C fI fT fS pT pS : Addr}
end
end V2


namespace V2
open PySem L2
open PySem.Spec PyProof.Rows
def pT (ns : List Int) : Str := if ns = [] then "0" else Txt.join " " (ns.map nT)
def spShP (K : PySem.W.Frag) : Sp := fun vs H Q _ => ∃ (a : Addr) (ns : List Int), vs = [.ref a] ∧ H a = some (.lst (iV ns)) ∧ ns.length ≤ 4000 ∧ (∀ n ∈ ns, n.natAbs ≤ 999999999) ∧ Evl.RetV (.str (pT ns)) H Q
theorem log_sm {n : Int} (h : n.natAbs ≤ 999999999) : n.natAbs.log2 < 1920 := by
  have h30 : n.natAbs < 2 ^ 30 := Nat.lt_of_le_of_lt h (by decide)
  exact Nat.lt_of_lt_of_le (PySem.Flt.log2_lt_of (by decide) h30) (by decide)
theorem sum_nT' : ∀ {ks : List Int}, (∀ k ∈ ks, k.natAbs ≤ 999999999) → ((ks.map nT).map (·.length)).sum ≤ 10 * ks.length
  | [], _ => Nat.zero_le _
  | k :: ks, h => by
    have h1 := sum_nT' fun x hx => h x (List.mem_cons_of_mem _ hx)
    have h2 := nT_len (n := k) (h k List.mem_cons_self)
    show (nT k).length + ((ks.map nT).map (·.length)).sum ≤ 10 * (ks.length + 1)
    omega
section
variable {base : Heap} {mg : Str → Option Value} {K : PySem.W.Frag} {w : World} {P : Program} {C fI fT fS pT pS : Addr}
theorem ok_show_polynomial {f : Addr} {fd : FuncData} (F : Fun K "show_polynomial" "show_polynomial" s_show_polynomial f fd) (cI : Cal P w K mg base 1 "show_integer" p_show_integer spShI) : FnOk P w K mg base CX0 2 f fd p_show_polynomial (spShP K) := by
  refine F.ok sc_show_polynomial (fun vs H Q E h => ?_) (fun cdv A outer s H vs Q E hr h => ?_)
  · obtain ⟨a, ns, rfl, _⟩ := h
    rfl
  · obtain ⟨a, ns, rfl, ha, len, sm, k⟩ := h
    have nd := sc_show_polynomial.nd
    have r1 : Room 1 _ := hr.mono (by decide)
    refine ⟨_, pss_one (ps_ret (pe_ifExp (pt_truth (pv 0) (by intro _; rfl)) (pe_join pe_str (pe_lc (own := [("number", 1)]) (g := gName 1) (tt := tYes) (te := (tCall spShI [] E0 (tCons (tVar 1) tNil))) rfl nd (pi_list (pv 0)) (blkOk_by (N := n_show_polynomial) (sc := defScope s_show_polynomial) (by decide +kernel)) (fun _ _ _ _ _ => pg_name (i := 1) nd rfl (Or.inl rfl)) (fun _ _ _ _ _ => pts_nil) (fun _ _ _ _ _ => pe_c cI r1 (pa_cons (pv 1) pa_nil)))) pe_str)), ?_⟩
    refine ⟨_, rfl, _, .inl ⟨_, SqL.of ha, rfl⟩, ?_⟩
    cases ns with
    | nil => exact if_f rfl (k _ (Evl.Ex.refl _))
    | cons n ns =>
      refine if_t rfl ⟨⟨_, rfl⟩, _, rfl, a, rfl, ⟨_, SqL.of ha⟩, fun D hD => lc_strs ((n :: ns).map nT) (by rw [List.length_map, iV_len]) (by rw [List.length_map]; omega) hD ha (fun _ => rfl) (fun i y z H2 Q' hi hz e2 k' => ?_) (fun H2 e2 h2 => ?_)⟩
      · obtain ⟨m, hm, rfl⟩ := iV_get hi
        rw [List.getElem?_map, hm] at hz
        cases hz
        exact ⟨_, rfl, m, rfl, sm m (List.mem_of_getElem? hm), k'⟩
      refine ⟨" ", D, (n :: ns).map nT, rfl, rfl, .inl (SqL.of h2), ?_, k _ e2⟩
      have h1 := sum_nT' sm
      have l3 : ((" " : Str)).length = 1 := rfl
      rw [List.length_map, l3]
      omega
end
end V2


namespace V2
open PySem L2
open PySem.Spec PyProof.Rows
theorem tl_size (x : Str) : x.cps.size = (TL.tl x).length := by rw [← TL.len_tl]; rfl
theorem starts1 (x : Str) (c : Nat) : Txt.startswith x ⟨#[c]⟩ = decide ((TL.tl x).head? = some c) := by
  have h := PySem.StrLaws.subAt_one x c 0
  have e : Txt.startswith x ⟨#[c]⟩ = true ↔ x.cps.toList[0]? = some c := by
    rw [← h]
    unfold Txt.startswith
    rw [Bool.and_eq_true, decide_eq_true_eq]
  have e2 : (TL.tl x).head? = x.cps.toList[0]? := by rw [List.head?_eq_getElem?]
  rw [e2]
  by_cases hc : x.cps.toList[0]? = some c
  · rw [decide_eq_true hc, e.mpr hc]
  · rw [decide_eq_false hc]
    cases hs : Txt.startswith x ⟨#[c]⟩ with
    | false => rfl
    | true => exact absurd (e.mp hs) hc
theorem cut1_tl (x : Str) : TL.tl (cutS x (some 1) none) = (TL.tl x).drop 1 := by
  show ((x.cps.toList.drop (HT.sIx x.length 0 (some ((1 : Nat) : Int)))).take (HT.sIx x.length x.length none - HT.sIx x.length 0 (some ((1 : Nat) : Int)))) = (TL.tl x).drop 1
  rw [HT.sIx_nat, HT.sIx_none]
  have hl : x.length = x.cps.toList.length := by rw [Array.length_toList]; rfl
  show (x.cps.toList.drop (min 1 x.length)).take (x.length - min 1 x.length) = x.cps.toList.drop 1
  by_cases h : 1 ≤ x.length
  · rw [Nat.min_eq_left h]
    exact List.take_of_length_le (by rw [List.length_drop, hl]; exact Nat.le_refl _)
  · have : x.cps.toList = [] := List.eq_nil_of_length_eq_zero (by omega)
    rw [this]; simp
/-- the digits of a number's text, its sign left out -/
def dgs (x : Str) : List Nat := if (TL.tl x).head? = some 45 then (TL.tl x).drop 1 else TL.tl x
def NumB (x : Str) : Bool := decide (dgs x ≠ []) && decide ((dgs x).length ≤ 9) && (dgs x).all (fun c => decide (48 ≤ c ∧ c ≤ 57)) && (decide ((dgs x).head? ≠ some 48) || decide (TL.tl x = [48]))
theorem numL_val_inv {l : List Nat} (h : NumText.AllDigits l) (h0 : l ≠ []) (hz : l.head? ≠ some 48 ∨ l = [48]) : TL.numL (NumText.digitsVal l) = l := by
  have hh : l.length - 1 = 0 ∨ ∃ c r, l = c :: r ∧ 49 ≤ c := by
    cases l with
    | nil => exact absurd rfl h0
    | cons c r =>
      rcases hz with hz | hz
      · refine .inr ⟨c, r, rfl, ?_⟩
        have := h.head
        have : c ≠ 48 := fun e => hz (by rw [e]; rfl)
        omega
      · rw [hz]; exact .inl rfl
  have hlen : l.length = (l.length - 1) + 1 := by
    have : l.length ≠ 0 := fun e => h0 (List.eq_nil_of_length_eq_zero e)
    omega
  have := NumText.toDigits_digitsVal (l.length - 1) l hlen h hh
  unfold TL.numL
  rw [this, List.map_map]
  have e : ∀ c ∈ l, (Char.toNat ∘ Char.ofNat) c = c := fun c hc => by
    have := h c hc
    have key : ∀ d : Fin 58, (Char.ofNat d.1).toNat = d.1 := by decide
    exact key ⟨c, by omega⟩
  exact (List.map_congr_left e).trans (List.map_id' _)
theorem val_lt {l : List Nat} : ∀ (h : NumText.AllDigits l), NumText.digitsVal l < 10 ^ l.length := by
  intro h
  by_cases h0 : l = []
  · rw [h0]; decide
  · rcases List.eq_nil_or_concat l with e | ⟨r, c, e⟩
    · exact absurd e h0
    · subst e
      rw [List.concat_eq_append] at h ⊢
      rw [NumText.digitsVal_snoc, List.length_append]
      have ih := val_lt (l := r) fun d hd => h d (List.mem_append_left _ hd)
      have hc := h c (List.mem_append_right _ List.mem_cons_self)
      show _ < 10 ^ (r.length + 1)
      rw [Nat.pow_succ]
      omega
termination_by l.length
decreasing_by simp [e]
theorem numB_iff {x : Str} : NumB x = true ↔ ∃ n : Int, x = nT n ∧ n.natAbs ≤ 999999999 := by
  unfold NumB
  simp only [Bool.and_eq_true, Bool.or_eq_true, decide_eq_true_eq, List.all_eq_true]
  constructor
  · rintro ⟨⟨⟨h0, h9⟩, hd⟩, hz⟩
    have hd : NumText.AllDigits (dgs x) := fun c hc => hd c hc
    have hv := val_lt hd
    have h10 : (10 : Nat) ^ (dgs x).length ≤ 10 ^ 9 := Nat.pow_le_pow_right (by decide) h9
    have e9 : (10 : Nat) ^ 9 = 1000000000 := by decide
    have hz' : (dgs x).head? ≠ some 48 ∨ dgs x = [48] := by
      rcases hz with h | h
      · exact .inl h
      · refine .inr ?_
        unfold dgs
        rw [h]; rfl
    have inv := numL_val_inv hd h0 hz'
    by_cases hs : (TL.tl x).head? = some 45
    · have ed : dgs x = (TL.tl x).drop 1 := if_pos hs
      have ex : TL.tl x = 45 :: dgs x := by
        rw [ed]
        cases hx : TL.tl x with
        | nil => rw [hx] at hs; cases hs
        | cons c r => rw [hx] at hs; cases hs; rfl
      have hpos : 1 ≤ NumText.digitsVal (dgs x) := by
        rcases hz' with h | h
        · cases hx : dgs x with
          | nil => exact absurd hx h0
          | cons c r =>
            rw [hx] at h hd
            have := hd.head
            have : c ≠ 48 := fun e => h (by rw [e]; rfl)
            exact NumText.digitsVal_pos (by omega)
        · rcases hz with h1 | h1
          · rw [h] at h1; exact absurd rfl h1
          · rw [h1] at hs; cases hs
      refine ⟨Int.negSucc (NumText.digitsVal (dgs x) - 1), tl_inj1 ?_, ?_⟩
      · rw [tl_nT_neg, Nat.sub_add_cancel hpos, inv, ex]
      · show NumText.digitsVal (dgs x) - 1 + 1 ≤ 999999999
        omega
    · have ed : dgs x = TL.tl x := if_neg hs
      refine ⟨(NumText.digitsVal (dgs x) : Int), tl_inj1 ?_, ?_⟩
      · rw [tl_nT_nat, inv, ed]
      · show NumText.digitsVal (dgs x) ≤ 999999999
        omega
  · rintro ⟨n, rfl, hn⟩
    have e9 : (10 : Nat) ^ 9 = 1000000000 := by decide
    have no45 : ∀ k, (TL.numL k).head? ≠ some 45 := fun k h => by
      cases hk : TL.numL k with
      | nil => exact TL.numL_ne k hk
      | cons c r =>
        have := TL.numL_digits k
        rw [hk] at h this
        cases h
        have := this.head
        omega
    have z48 : ∀ k, (TL.numL k).head? = some 48 → k = 0 := fun k h => by
      cases hk : TL.numL k with
      | nil => exact absurd hk (TL.numL_ne k)
      | cons c r =>
        rw [hk] at h
        cases h
        by_cases hr : r = []
        · have := TL.numL_val k
          rw [hk, hr] at this
          exact this.symm
        · exfalso
          have hv := TL.numL_val k
          rw [hk] at hv
          have hv2 : NumText.digitsVal r = k := hv
          have hd := TL.numL_digits k
          rw [hk] at hd
          -- the same value, one digit less
          have h1 := val_lt hd.tail
          have : 10 ^ r.length ≤ k := by
            have e1 : (TL.numL k).length ≤ r.length ∨ 10 ^ r.length ≤ k := by
              by_cases hlt : k < 10 ^ r.length
              · exact .inl (TL.numL_len (List.length_pos_iff.mpr hr) hlt)
              · exact .inr (by omega)
            rcases e1 with e1 | e1
            · rw [hk, List.length_cons] at e1; omega
            · exact e1
          omega
    cases n with
    | ofNat k =>
      have hn : k ≤ 999999999 := hn
      have ex : TL.tl (nT (Int.ofNat k)) = TL.numL k := tl_nT_nat k
      have ed : dgs (nT (Int.ofNat k)) = TL.numL k := by
        unfold dgs
        rw [ex, if_neg (no45 k)]
      rw [ed, ex]
      refine ⟨⟨⟨TL.numL_ne k, TL.numL_len (by decide) (by omega)⟩, fun c hc => TL.numL_digits k c hc⟩, ?_⟩
      by_cases h : (TL.numL k).head? = some 48
      · right
        rw [z48 k h]
        rfl
      · exact .inl h
    | negSucc k =>
      have hn : k + 1 ≤ 999999999 := hn
      have ex : TL.tl (nT (Int.negSucc k)) = 45 :: TL.numL (k + 1) := tl_nT_neg k
      have ed : dgs (nT (Int.negSucc k)) = TL.numL (k + 1) := by
        unfold dgs
        rw [ex]
        exact if_pos rfl
      rw [ed]
      refine ⟨⟨⟨TL.numL_ne _, TL.numL_len (by decide) (by omega)⟩, fun c hc => TL.numL_digits _ c hc⟩, .inl fun h => ?_⟩
      have := z48 _ h
      omega
theorem nT_reads {n : Int} (h : n.natAbs ≤ 999999999) : intText? (nT n) = some n := by
  have hl := nT_len h
  cases n with
  | ofNat k =>
    have ex : (nT (Int.ofNat k)).cps.toList = TL.numL k := tl_nT_nat k
    have e := PySem.intText_digits (x := nT (Int.ofNat k)) (by rw [ex]; exact TL.numL_digits k) (by rw [ex]; exact TL.numL_ne k) (by omega)
    rw [ex, TL.numL_val] at e
    exact e
  | negSucc k =>
    have ex : (nT (Int.negSucc k)).cps.toList = 45 :: TL.numL (k + 1) := tl_nT_neg k
    have e := PySem.intText_neg (x := nT (Int.negSucc k)) ex (TL.numL_digits _) (TL.numL_ne _) (by omega)
    rw [TL.numL_val] at e
    exact e
theorem nT_inj {m n : Int} (h : nT m = nT n) (hm : m.natAbs ≤ 999999999) (hn : n.natAbs ≤ 999999999) : m = n := by
  have e1 := nT_reads hm
  rw [h, nT_reads hn] at e1
  cases e1
  rfl
end V2


namespace V2
open PySem L2
open PySem.Spec PyProof.Rows
def rInSign : V → V → Hp → VK → Prop := fun x y H Q => ∃ (c : Nat) (z : Str), x = .str ⟨#[c]⟩ ∧ y = .str z ∧ Q (.bl (decide (c ∈ z.cps.toList))) H
/-- over a text -/
theorem lc_str {x : Str} {g : TG} {tt : TT} {te : TE} {vs : List Nat} {σ : L2.St} {H1 : Hp} {D : Addr} {Qd : Hp → Prop} (Pv : Nat → Hp → Prop) (h0 : Pv 0 (upd H1 D (.lst [])))
    (hs : ∀ (i c : Nat) H, (TL.tl x)[i]? = some c → Pv i H → g (.str ⟨#[c]⟩) (wipe σ vs) H fun σ2 H2 => wipe σ2 vs = wipe σ vs ∧ tt σ2 H2 fun b H3 =>
      if b = true then te σ2 H3 fun y H4 => ∃ acc, H4 D = some (.lst acc) ∧ acc.length < sizeLine ∧ Pv (i + 1) (upd H4 D (.lst (acc ++ [y]))) else Pv (i + 1) H3) (hd : ∀ H, Pv (TL.tl x).length H → Qd H) :
    ∃ W : Nat → Nat → Hp → Prop, (∃ m, W 0 m (upd H1 D (.lst []))) ∧ ∀ i m H, W i m H →
      ((Its x).stop i H ∧ Qd H) ∨ ((Its x).go i H ∧ ∃ Nx : Hp → Prop, (∀ H', Nx H' → ∃ m', m' < m ∧ W (i + 1) m' H') ∧ ∀ z H', (Its x).yld i H z H' → g z (wipe σ vs) H' fun σ2 H2 => wipe σ2 vs = wipe σ vs ∧ tt σ2 H2 fun b H3 =>
        if b = true then te σ2 H3 fun y H4 => ∃ acc, H4 D = some (.lst acc) ∧ acc.length < sizeLine ∧ Nx (upd H4 D (.lst (acc ++ [y]))) else Nx H3) := by
  have hl : x.cps.size = (TL.tl x).length := tl_size x
  refine ⟨fun i m H => m = (TL.tl x).length - i ∧ i ≤ (TL.tl x).length ∧ Pv i H, ⟨(TL.tl x).length, by simp, Nat.zero_le _, h0⟩, ?_⟩
  rintro i m H ⟨rfl, hi, p⟩
  by_cases hlt : i < (TL.tl x).length
  · refine .inr ⟨by show i < x.cps.size; omega, Pv (i + 1), fun H' p' => ⟨(TL.tl x).length - (i + 1), by omega, rfl, hlt, p'⟩, fun z H' y => ?_⟩
    obtain ⟨e, c, hc, hv⟩ := y
    subst e hv
    exact hs i c _ (by rw [← hc]; exact Array.getElem?_toList ..) p
  · have e : i = (TL.tl x).length := by omega
    subst e
    exact .inl ⟨by show x.cps.size ≤ _; omega, hd H p⟩
/-- a number's text, or none -/
def spRdI (CU : Addr) : Sp := fun vs H Q E => ∃ x : Str, vs = [.str x] ∧ x.length ≤ 4000 ∧ (∀ n : Int, x = nT n → n.natAbs ≤ 999999999 → Evl.RetV (.int n) H Q) ∧ (NumB x = false → ∀ H1, Evl.Ex H H1 → Rz CU H1 (.str x) E)
theorem dig10 (c : Nat) : decide (c ∈ (("0123456789" : Str)).cps.toList) = decide (48 ≤ c ∧ c ≤ 57) := by
  have e : (("0123456789" : Str)).cps.toList = [48, 49, 50, 51, 52, 53, 54, 55, 56, 57] := by decide +kernel
  rw [e]
  by_cases h : 48 ≤ c ∧ c ≤ 57
  · rw [decide_eq_true h, decide_eq_true]
    simp only [List.mem_cons, List.not_mem_nil, or_false]
    omega
  · rw [decide_eq_false h, decide_eq_false]
    simp only [List.mem_cons, List.not_mem_nil, or_false]
    omega
section
variable {base : Heap} {mg : Str → Option Value} {K : PySem.W.Frag} {w : World} {P : Program} {CU eI0 : Addr}
end
end V2


namespace PySem
namespace HandSPX
section
variable {M : Model} {A : Around} {E : Value → Shared → Prop} {s : Shared} {Z : Obj → Prop} {base : Heap} {env : Env} {outer l : List Env} {L L0 e : Addr}
/-- the frame alone decides what is noted -/
theorem frameOf_by {e1 e2 : Env} (h : e1.frame = e2.frame) : frameOf e1 = frameOf e2 := by
  unfold frameOf
  rw [h]
theorem noteFrame_by {x : Value} {e1 e2 : Env} (h : e1.frame = e2.frame) : noteFrame x e1 = noteFrame x e2 := by
  unfold noteFrame
  rw [frameOf_by h, h]
/-- an exception that another frame's place holds is noted here -/
theorem looks_heldZ {Q : Unit → Shared → Prop} (hZ : PXN.Steady1 Z) (hfr : A.frames = some (env :: outer)) (hf : env.frame = some L) (hne : L0 ≠ L) (hh : HeldZ base (env :: outer) e Z L0 s.heap)
    (hQ : ∀ h', HeldZ base (env :: outer) e Z L h' → s.heap.UpToSlots h' → Q () { s with heap := h' }) : wpAny M A (noteFrame (.ref e) env) Q E s := by
  obtain ⟨kb, en, fl, oe, vs, T, oT, ts, ge, z, de, v1, nT, Te, gT, dT, t3⟩ := hh
  have nraw : ¬ ((rawInt L0 == rawInt L) = true) := by
    intro q
    have q := eq_of_beq q
    unfold rawInt at q
    injection q with q
    exact hne (Int.ofNat.inj q)
  have away : ∀ b, b ≠ T → (s.heap.update T (Obj.mapFields (·.setIfInBounds 3 Value.none))).get? b = s.heap.get? b := fun b q => Heap.get?_update_other _ _ (Ne.symm q)
  have apart : ∀ b o, s.heap.get? b = some o → (∀ us, o.data ≠ .fields us) → b ≠ T := fun b o gb nf q => by
    subst q
    rw [gT] at gb
    cases gb
    exact nf ts dT
  unfold noteFrame
  simp only [hf]
  refine wpAny_bind (wpAny_field ge de v1 ?_)
  rw [if_pos (by simp : (Value.ref T != Value.none) = true)]
  refine wpAny_bind (wpAny_field gT dT t3 ?_)
  rw [if_neg nraw]
  refine wpAny_bind (wpAny_setField gT dT (Array.getElem?_eq_some_iff.mp t3).1 ?_)
  refine PXN.wpAny_entryZ hZ hfr (fl.of_keeps fun b o gb nf => ⟨o, by rw [away b (apart b o gb nf)]; exact gb, rfl⟩) hf (by rw [away e (Ne.symm Te)]; exact ge) (fun b o gb => ?_) en de (Array.getElem?_eq_some_iff.mp v1).1 z fun h' ⟨n1, n2, n3, n4⟩ => hQ h' ⟨n1, en, n2, n3⟩ fun b o gb nf => n4 b o (by rw [away b (apart b o gb nf)]; exact gb) nf
  rw [away b (fun q => by rw [q, nT] at gb; cases gb)]
  exact kb b o gb
end
end HandSPX
end PySem
namespace PySem
open Sem (wp)
/-- what stands behind a comprehension's block, an exception with its frame told -/
def cpX (M : Model) (A : Around) (E : Value → Shared → Prop) (use : Option (Value → Sem Unit)) (Q : Value → Shared → Prop) (acc : Value) (C : Addr) (fr : Option Addr) (r : Result) (s' : Shared) : Prop :=
  match r with
  | .ok f => compPost M A E use Q acc C (.ok f) s'
  | .error x => ∃ m, s'.heap.Ns C m ∧ ∀ h', Heap.SameBut C s'.heap h' → ∀ ce : Env, ce.locals = C → ce.frame = fr → wpAny M A (passOn "comprehension.variables-let-go" x ce : Sem Value) (fun _ _ => False) E { s' with heap := h' }
theorem comp_framed {M : Model} {A : Around} {E : Value → Shared → Prop} {s : Shared} {env : Env} {e : Expr} {scope : Scope} {pos : Pos} {newAcc first : Sem Value} {g : Comprehension} {gs : List Comprehension} {cl : List (Str × Addr)} {use : Option (Value → Sem Unit)} {Q : Value → Shared → Prop}
    (c1 : clausesOf e = g :: gs) (c2 : ∀ x, foldedSetIterable g.iter env x = pure x) (c3 : closureFor scope env = pure cl) (c4 : scope.kind = .function) (c5 : ∀ x ∈ scope.names, x.2 = .local → scope.names.lookup x.1 = some .local)
    (h : wpAny M A first (fun x t1 => wpAny M A (pyIter x) (fun it t2 => wpAny M A newAcc (fun acc t3 => wpAny M A (newFunctionEnv scope env.globals cl [] env.qual none .none (some env)) (fun ce t4 =>
      codeAny M A (.compStart e 0 it acc { ce with scope := relabel scope env }) (cpX M A E use Q acc ce.locals ce.frame) t4) E t3) E t2) E t1) E s) : wpAny M A (comprehension e scope env pos newAcc false first use) Q E s := by
  have same : ∀ {α : Type} {P : α → Shared → Prop} {t : Sem α} {u : Shared} {P' : α → Shared → Prop}, wpAny M A t P E u → (∀ a v, P a v → P' a v) → wpAny M A t P' E u := fun z k => wpAny_mono z k fun _ _ q => q
  unfold comprehension
  rw [c3, c1]
  refine wpAny_bind (same h fun x t1 h1 => wpAny_bind (wpAny_standAt (wpAny_bind (wpAny_of_eq (c2 x) (wpAny_bind (wpAny_holding (same h1 fun it t2 h2 => wpAny_standIf (wpAny_bind (same h2 fun acc t3 h3 => wpAny_bind (wpAny_pure (wpAny_bind (same h3 fun ce t4 h4 => ?_))))))))))))
  dsimp only
  have loc : ∀ x ∈ (scope.names.filter fun x => (x.2 == .local || x.2 == .cell) && x.1 != (".0" : Str)).reverse, x.2 = .local → Env.kindOf { ce with scope := relabel scope env } x.1 = some .local := fun x hx hl => lookup_relabel_local (c5 x (List.mem_filter.mp (List.mem_reverse.mp hx)).1 hl)
  refine wpAny_holding (wpAny_bind (wpAny_attempt (wpAny_holding (wpAny_run (codeAny_mono h4 fun r s' hr => ?_)))))
  cases r with
  | ok f =>
    have hr : compPost M A E use Q acc ce.locals (.ok f) s' := hr
    cases use with
    | none =>
      obtain ⟨m, hn, hk⟩ := hr
      exact wpAny_bind (wpAny_holding (wpAny_comp_letGo (cenv := { ce with scope := relabel scope env }) c4 _ s' m loc hn fun h' m' _ hs => wpAny_pure (hk h' hs)))
    | some u =>
      have loc2 : ∀ x ∈ (scope.names.filter fun x => (x.2 == .local || x.2 == .cell) && x.1 != (".0" : Str)).reverse.drop 1 ++ (scope.names.filter fun x => (x.2 == .local || x.2 == .cell) && x.1 != (".0" : Str)).reverse.take 1, x.2 = .local → Env.kindOf { ce with scope := relabel scope env } x.1 = some .local := fun x hx hl => (List.mem_append.mp hx).elim (fun q => loc x (List.mem_of_mem_drop q) hl) fun q => loc x (List.mem_of_mem_take q) hl
      refine wpAny_bind (wpAny_rule (wpAny_bind (wpAny_holding (same hr fun _ s2 ⟨m, hn, hk⟩ => ?_))))
      exact wpAny_bind (wpAny_comp_letGo (cenv := { ce with scope := relabel scope env }) c4 _ s2 m loc2 hn fun h' m' _ hs => wpAny_pure (hk h' hs))
  | error x =>
    obtain ⟨m, hn, hk⟩ := hr
    exact wpAny_bind (wpAny_holding (wpAny_comp_letGo (cenv := { ce with scope := relabel scope env }) c4 _ s' m loc hn fun h' m' _ hs => wpAny_mono (hk h' hs _ rfl rfl) (fun _ _ f => f.elim) fun _ _ y => y))
end PySem
namespace L2
open PySem PySem.Spec PyProof.Rows
/-- noted at this frame, wherever it stood -/
theorem Sky.noted {M : Model} {A : Around} {E₁ : Value → Shared → Prop} {s : Shared} {B : Heap} {env : Env} {outer : List Env} {L L0 a : Addr} {Z : Obj → Prop} {Q : Unit → Shared → Prop} (hZ : PXN.Steady1 Z) (hfr : A.frames = some (env :: outer)) (hf : env.frame = some L)
    (x : Sky B (env :: outer) a Z L0 s.heap) (hQ : ∀ h', HandSPX.HeldZ B (env :: outer) a Z L h' → s.heap.UpToSlots h' → Q () { s with heap := h' }) : wpAny M A (noteFrame (.ref a) env) Q E₁ s := by
  rcases x with ⟨hB, hn, hl, oe, vs, he, hz, hd, h1⟩ | fl | hh
  · exact PXN.look_newZ hZ hfr hl hf he hB hn hd h1 hz hQ
  · exact PXN.looks_onZ hZ hfr hf fl hQ
  · by_cases q : L0 = L
    · subst q
      exact HandSPX.againZ hf hh.2.2.2 (hQ s.heap hh (Heap.UpToSlots.refl _))
    · exact HandSPX.looks_heldZ hZ hfr hf q hh hQ
end L2


namespace L2
open PySem PySem.Spec PyProof.Rows
theorem held_but {B h h' : Heap} {l : List Env} {a L C : Addr} {Z : Obj → Prop} {m : Str → Option Value} (hh : HandSPX.HeldZ B l a Z L h) (hC : C ∉ frs l) (hn : h.Ns C m) (sb : Heap.SameBut C h h') :
    HandSPX.HeldZ (PySem.W.hideAll B [C]) l a Z L h' := by
  obtain ⟨k1, k2, k3, oe, vs, T, oT, ts, ga, hz, hd, v1, nT, Ta, gT, dT, t3⟩ := hh
  obtain ⟨oC, es, ep, gC, dC, _⟩ := hn
  have away : ∀ b o us, h.get? b = some o → o.data = .fields us → b ≠ C := fun b o us e d q => by
    subst q
    rw [gC] at e; cases e
    rw [dC] at d; cases d
  have hid : ∀ b, B.get? b = none → (PySem.W.hideAll B [C]).get? b = none := fun b e => by
    cases q : (PySem.W.hideAll B [C]).get? b with
    | none => rfl
    | some o =>
      have z := PySem.W.of_hideAll _ q
      rw [e] at z; cases z
  have all : ∀ (l : List Env), C ∉ frs l → h.FunFrames B l → h'.FunFrames (PySem.W.hideAll B [C]) l := by
    intro l
    induction l with
    | nil => exact fun _ _ => trivial
    | cons env r ih =>
      rintro nc ⟨q1, ⟨L', o, q2, q3, q4, q5⟩, q6⟩
      have nL : L' ≠ C := fun q => nc (List.mem_filterMap.mpr ⟨env, List.mem_cons_self, by rw [q2, q]⟩)
      refine ⟨q1, ⟨L', o, q2, hid _ q3, (sb.2 L' nL).trans q4, q5⟩, ih (fun hm => ?_) q6⟩
      obtain ⟨e, he, z⟩ := List.mem_filterMap.mp hm
      exact nc (List.mem_filterMap.mpr ⟨e, List.mem_cons_of_mem _ he, z⟩)
  refine ⟨fun b o e => ?_, hid _ k2, all l hC k3, oe, vs, T, oT, ts, (sb.2 a (away a oe vs ga hd)).trans ga, hz, hd, v1, hid _ nT, Ta, (sb.2 T (away T oT ts gT dT)).trans gT, dT, t3⟩
  have bc : b ≠ C := fun q => by
    subst q
    rw [PySem.W.hideAll_none _ (List.mem_singleton.mpr rfl)] at e
    cases e
  exact (sb.2 b bc).trans (k1 b o (PySem.W.of_hideAll _ e))
/-- an exception in the air of X, what is kept of its object being Zf -/
def XEg (Zf : Value → Option Addr → Obj → Prop) (X : Cx) (W : WX) (u : Value) (t : Shared) : Prop :=
  ∃ (a : Addr) (B : Heap) (sI : Shared) (pins : List (Addr × Obj)) (σ : St) (H : Hp) (cls : Value) (d : Option Addr), u = .ref a ∧ Inv X pins σ H sI ∧
    (∀ b o, sI.heap.get? b = some o → b ∉ frs X.stack → B.get? b = some o) ∧ sI.heap.UpToSlots t.heap ∧ Sky B X.stack a (Zf cls d) X.env.locals t.heap ∧ H a = none ∧ t.os = sI.os ∧ AllBare t.gens ∧ W cls d σ H
def TkG (Zf : Value → Option Addr → Obj → Prop) (X : Cx) (W : WX) : Prop := ∀ u t, XEg Zf X W u t → X.xe u t
theorem Takes.g {X : Cx} {W : WX} (t : L2.Takes X W) : TkG Zc X W := t
theorem TakesN.g {X : Cx} {W : WX} (t : L2N.Takes X W) : TkG L2N.Zn X W := t
theorem Zc.st {c : Value} {d : Option Addr} : PXN.Steady1 (Zc c d) := fun o v h => Zc.steady o _ h
section
variable {Zf : Value → Option Addr → Obj → Prop} {X : Cx} {pins : List (Addr × Obj)} {σ : St} {H : Hp} {s : Shared} {W : WX}
theorem Inv.trTo {xe : Value → Shared → Prop} (I : Inv X pins σ H s) : Inv (X.tr X.pn xe) pins σ H s := ⟨I.ok.toTry _ _, I.os, I.bare, I.base, I.loc, I.cell, I.free, I.freeC, I.pin, I.hok, I.len⟩
theorem Inv.trOf {xe : Value → Shared → Prop} (I : Inv (X.tr X.pn xe) pins σ H s) : Inv X pins σ H s := ⟨I.ok.ofTry, I.os, I.bare, I.base, I.loc, I.cell, I.free, I.freeC, I.pin, I.hok, I.len⟩
/-- what leaves a comprehension's block is taken where the comprehension stands -/
theorem comp_takes {scope : Scope} {fp : List Addr} {s3 : Shared} {H3 : Hp} {ce : Env} {use : Option (Value → Sem Unit)} {Q : Value → Shared → Prop} {acc : Value} (hs : X.stack = X.env :: X.outer) (hf : X.env.frame = some X.env.locals) (hZ : ∀ c d, PXN.Steady1 (Zf c d)) (tk : TkG Zf X W)
    (I3 : Inv X pins σ H3 s3) (f3 : ∀ b ∈ fp, FpOk X pins H3 b ∧ b < s3.heap.objs.size) (cL : ce.locals = s3.heap.objs.size) (cF : ce.frame = X.env.frame) :
    TkG Zf ((X.blk s3 H3 scope ce fp).tr [] (notedBy (model X.prog X.w) X.A ce fun e s' => cpX (model X.prog X.w) X.A X.xe use Q acc ce.locals ce.frame (.error e) s')) (fun cls d _ H' => W cls d σ H') := by
  rintro u s' ⟨a, B, sI, pins', σ', H', cls, d, rfl, I, nb, up, sky, na, os, ag, w⟩
  show wpAny _ _ (noteFrame (.ref a) ce) _ _ _
  have hfr : X.A.frames = some (X.env :: X.outer) := by rw [I3.ok.frames, hs]
  have J : Inv X pins σ H' sI := I3.call' (ch := fp) I.os I.base I.hok I.bare fun b hb =>
    let z := (f3 b hb).1
    ⟨z.2.2.2.1, z.2.1, z.2.2.2.2.1, z.2.2.2.2.2⟩
  have nC : H' s3.heap.objs.size = none := by
    have z : H' ce.locals = none := I.free
    rw [cL] at z
    exact z
  have FC : FpOk X pins H' s3.heap.objs.size := I3.fpOk (Nat.le_refl _) nC
  have nCf : s3.heap.objs.size ∉ frs X.stack := fun hm => by
    rcases List.mem_cons.mp (I3.stkSub _ hm) with z | z
    · exact FC.2.1 z
    · exact FC.2.2.1 z
  obtain ⟨m, hn, _⟩ := id I.loc
  have hn : sI.heap.Ns ce.locals m := hn
  rw [HandSPX.noteFrame_by cF]
  refine Sky.noted (B := B) (L0 := ce.locals) (hZ cls d) hfr hf (by rw [← hs]; exact sky) fun h1 hh up1 => ?_
  refine ⟨m, up1.ns (up.ns hn), fun h2 sb ce' hl hfm => ?_⟩
  have hh2 := held_but hh (by rw [← hs, cL]; exact nCf) (up1.ns (up.ns hn)) sb
  obtain ⟨oe, vs, T, oT, ts, ga, hz, hd, v1, nT, Ta, gT, dT, t3⟩ := id hh2.2.2.2
  unfold PySem.passOn
  refine wpAny_bind (wpAny_field ga hd v1 ?_)
  rw [if_neg (show ¬ ((Value.ref T == Value.none) = true) from by simp)]
  have last : wpAny (model X.prog X.w) X.A (setFlight (.ref a) ce'.frame) (fun _ s4 => wpAny (model X.prog X.w) X.A (throw (.ref a) : Sem Value) (fun _ _ => False) X.xe s4) X.xe { s' with heap := h2 } := by
    rw [hfm, cF, hf]
    refine HandSPX.setFlight_onZ hh2 fun h4 hh4 up4 => wpAny_throw (tk _ _ ?_)
    rw [cL] at hh4 sb
    obtain ⟨f0, f1, f2, f3', f4, f5⟩ := FC
    have hb' : ∀ (G : Heap) b o, (PySem.W.hideAll G [s3.heap.objs.size]).get? b = some o → b ≠ s3.heap.objs.size := fun G b o e q => by
      rw [q, PySem.W.hideAll_none _ (List.mem_singleton.mpr rfl)] at e
      cases e
    refine ⟨a, PySem.W.hideAll B [s3.heap.objs.size], { sI with heap := PySem.W.hideAll sI.heap [s3.heap.objs.size] }, pins, σ, H', cls, d, rfl,
      J.turned (t' := sI.toks) (fun b o hb e => PySem.W.hideAll_get _ e (by simpa using hb)) f0 f1 f3' f4 f5, fun b o e hb => ?_, fun b o e hnf => ?_, .inr (.inr (by rw [hs]; exact hh4)), na, os, ag, w⟩
    · exact PySem.W.hideAll_get _ (nb b o (PySem.W.of_hideAll _ e) hb) (by simpa using hb' _ b o e)
    · have bc := hb' _ b o e
      obtain ⟨sl, e1⟩ := (up.trans up1) b o (PySem.W.of_hideAll _ e) hnf
      obtain ⟨sl2, e2⟩ := up4 b _ ((sb.2 b bc).trans e1) hnf
      exact ⟨sl2, e2⟩
  first
    | exact wpAny_bind (wpAny_pure (wpAny_bind last))
    | exact wpAny_bind last
end
end L2


namespace L2
open PySem PySem.Spec PyProof.Rows
section
variable {Zf : Value → Option Addr → Obj → Prop} {X : Cx} {W : WX}
/-- what the element's context is: the block, its exceptions told -/
abbrev Cx.blx (X : Cx) (scope : Scope) (s : Shared) (H : Hp) (C : Addr) (cl : List (Str × Addr)) (fp : List Addr) (xe : Value → Shared → Prop) : Cx := (X.blk s H scope (compEnvC scope cl C X.env) fp).tr [] xe
/-- [elt for target in iter if ..], an exception of elt going on: te by what may go out -/
def tLcX (W : WX) (wi : TI) (g : TG) (tt : TT) (te : XK → TE) (vs : List Nat) : TE := fun σ => tLc wi g tt (te fun cls d H' => W cls d σ H') vs σ
theorem lc_coreX {pins : List (Addr × Obj)} {s : Shared} {σ : St} {H : Hp} {Q : VK} {elt tg iter : Expr} {ifs : List Expr} {scope : Scope} {own : List (Str × Nat)} {pos pos' : Pos} {wi : TI} {g : TG} {tt : TT} {te : XK → TE} {use : Option (Value → Sem Unit)} {Qf : Value → Shared → Prop}
    (hst : X.stack = X.env :: X.outer) (hf : X.env.frame = some X.env.locals) (hZ : ∀ c d, PXN.Steady1 (Zf c d)) (tk : TkG Zf X W) (hc : X.calm = true) (hN : X.N.Nodup) (I : Inv X pins σ H s) (hi : PI X tg iter wi) (ok : BlkOk X.N X.env.scope scope own)
    (hg : ∀ s H C cl fp, PG (X.blk s H scope (compEnvC scope cl C X.env) fp) tg g) (ht : ∀ s H C cl fp, PTs (X.blk s H scope (compEnvC scope cl C X.env) fp) ifs tt)
    (he : ∀ s H C cl fp (E : XK) xe, TkG Zf (X.blx scope s H C cl fp xe) (fun cls d _ H' => E cls d H') → PE (X.blx scope s H C cl fp xe) elt (te E)) (hs : ∀ x, foldedSetIterable iter X.env x = pure x)
    (h : tLcX W wi g tt te (own.map (·.2)) σ H Q)
    (back : ∀ D C s' m H', Inv X pins σ H' s' → Q (.ref D) H' → s'.heap.Ns C m → FpOk X pins H' C → compPost (model X.prog X.w) X.A X.xe use Qf (.ref D) C (.ok .next) s') :
    wpAny (model X.prog X.w) X.A (comprehension (.ListComp elt [⟨tg, iter, ifs, 0⟩] scope pos) scope X.env pos' (newList []) false (eval iter X.env) use) Qf X.xe s := by
  have free : ∀ y ∈ scope.names, y.2 = .free → ∃ c, X.env.cells.lookup y.1 = some c := fun y hy e =>
    (ok.free y hy e).elim (fun k => I.ok.has _ (.inl k)) fun k => I.ok.has _ (.inr k)
  refine comp_framed (use := use) rfl hs (closure_ok free) ok.kind (fun y hy e => by rw [ok.uniq y hy, e]) (thn (hi.run pins s σ H _ I h) fun xv s1 hx => thn hx fun itv s2 h2 => ?_)
  obtain ⟨it, fp, tn, J, H2, rfl, I2, T, z2, f2, q⟩ := h2
  refine wpAny_newObj_type (newEnv_comp ?_) (by show 0 ≤ sizeLine; decide)
  generalize eD : s2.heap.objs.size = D
  obtain ⟨P, ⟨m0, p0⟩, turn⟩ := q D (I2.hok.fresh (Nat.le_of_eq eD))
  generalize e3 : ({ s2 with heap := s2.heap.push { cls := .type "list", data := .seq ([] : List Value).toArray } } : Shared) = s3
  have h3 : s3.heap = s2.heap.push { cls := .type "list", data := .seq ([] : List Value).toArray } := e3 ▸ rfl
  have I3 : Inv X pins σ (upd H2 D (.lst [])) s3 := by
    subst e3
    refine I2.laid (t' := s2.toks) (fun b o e => Heap.get?_push_of_some _ e) (Nat.le_of_eq eD) ⟨Nat.zero_le _, [], 0, .nil, ?_⟩
    subst eD
    exact Heap.get?_push_size _ rfl
  have f3 : ∀ b ∈ fp, FpOk X pins (upd H2 D (.lst [])) b ∧ b < s3.heap.objs.size := fun b hb => by
    obtain ⟨o, e, _⟩ := T.obj _ _ z2 b hb
    have lt := Heap.lt_size e
    refine ⟨⟨?_, (f2 b hb).2⟩, by rw [h3, Heap.size_push]; exact Nat.lt_succ_of_lt lt⟩
    rw [upd_ne (eD ▸ Nat.ne_of_lt lt)]
    exact (f2 b hb).1
  have z3 : tn 0 s3.heap := T.keep _ _ _ z2 fun b _ o e => by rw [h3]; exact Heap.get?_push_of_some _ e
  have I4 := block_start I3 ok hN f3
  generalize ecl : cellsFrom (s3.heap.objs.size + 1) scope.names (cloFrom X.env.cells scope.names []) = cl at I4
  have cF : (compEnvC scope cl s3.heap.objs.size X.env).frame = X.env.frame := rfl
  have tk' := comp_takes (scope := scope) (use := use) (Q := Qf) (acc := .ref D) hst hf hZ tk I3 f3 (ce := compEnvC scope cl s3.heap.objs.size X.env) rfl cF
  have pg := hg s3 (upd H2 D (.lst [])) s3.heap.objs.size cl fp
  have pt := ht s3 (upd H2 D (.lst [])) s3.heap.objs.size cl fp
  have pe : PE ((X.blk s3 (upd H2 D (.lst [])) scope (compEnvC scope cl s3.heap.objs.size X.env) fp).tr [] _) elt (te fun cls d H' => W cls d σ H') := he s3 (upd H2 D (.lst [])) s3.heap.objs.size cl fp (fun cls d H' => W cls d σ H') _ tk'
  show codeAny _ _ (.compStart (.ListComp elt [⟨tg, iter, ifs, 0⟩] scope pos) 0 (.ref it) (.ref D) (compEnvC scope cl s3.heap.objs.size X.env))
    (cpX (model X.prog X.w) X.A X.xe use Qf (.ref D) (compEnvC scope cl s3.heap.objs.size X.env).locals (compEnvC scope cl s3.heap.objs.size X.env).frame)
    { s3 with heap := pushCells (s3.heap.push { cls := .type "dict", data := .dict #[] }) scope.names }
  have n3 : ∀ b ∈ fp, (upd H2 D (.lst [])) b = none := fun b hb => (f3 b hb).1.1
  have cL : (compEnvC scope cl s3.heap.objs.size X.env).locals = s3.heap.objs.size := rfl
  generalize ece : compEnvC scope cl s3.heap.objs.size X.env = ce at I4 pg pt pe cF cL tk' ⊢
  generalize eH : upd H2 D (.lst []) = H3 at I3 I4 pg pt pe tk' p0 n3 f3
  generalize e4 : ({ s3 with heap := pushCells (s3.heap.push { cls := .type "dict", data := .dict #[] }) scope.names } : Shared) = s4 at I4 ⊢
  have z4 : tn 0 s4.heap := T.keep _ _ _ z3 fun b _ o e => by
    subst e4
    exact pushCells_keeps _ _ _ _ (Heap.get?_push_of_some _ e)
  have stat : ∀ {σ' : St} {H' : Hp} {s' : Shared}, Inv (X.blk s3 H3 scope ce fp) [] σ' H' s' → (∀ b ∈ fp, H' b = none) → ∀ b ∈ fp, FpOk (X.blk s3 H3 scope ce fp) [] H' b := fun {σ' H' s'} J n b hb =>
    ⟨n b hb, (J.ok.exf b hb).1, J.ok.exfs b hb, .inl hb, fun x c e => (J.ok.exf b hb).2 x c e, fun p hp => absurd (show p ∈ ([] : List (Addr × Obj)) from hp) List.not_mem_nil⟩
  have loop : codeAny (model X.prog X.w) X.A (.compLoop (.ListComp elt [⟨tg, iter, ifs, 0⟩] scope pos) 0 (.ref it) (.ref D) ce) (cpX (model X.prog X.w) X.A X.xe use Qf (.ref D) ce.locals ce.frame) s4 := by
    refine compLoop_any (fun n s' => ∃ i H', Inv (X.blk s3 H3 scope ce fp) [] (wipe σ (own.map (·.2))) H' s' ∧ tn i s'.heap ∧ (∀ b ∈ fp, H' b = none) ∧ P i n H') ?_ m0 ⟨0, H3, I4, z4, n3, p0⟩
    rintro n s5 ⟨i, H5, I5, z5, n5, p5⟩
    rcases turn i n H5 p5 with ⟨stop, qq⟩ | ⟨go, Nx, less, step⟩
    · refine thnF (T.done (X.blk s3 H3 scope ce fp) rfl rfl rfl hc i [] s5 _ H5 (fun _ _ => False) I5 (stat I5 n5) z5 stop) ?_
      rintro r s6 ⟨rfl, I6⟩
      have I7 : Inv X pins σ H5 s6 := I3.call' (ch := fp) I6.os I6.base I6.hok I6.bare fun b hb =>
        let z := (f3 b hb).1
        ⟨z.2.2.2.1, z.2.1, z.2.2.2.2.1, z.2.2.2.2.2⟩
      have nC : H5 ce.locals = none := I6.free
      obtain ⟨m, hn, _⟩ := I6.loc
      have hn : s6.heap.Ns ce.locals m := hn
      show compPost _ _ _ use Qf (.ref D) ce.locals (.ok .next) s6
      exact back D ce.locals s6 m H5 I7 qq hn (I3.fpOk (Nat.le_of_eq cL.symm) nC)
    · refine thnF (T.item (X.blk s3 H3 scope ce fp) rfl rfl rfl hc i [] s5 _ H5 (fun _ _ => False) I5 (stat I5 n5) z5 go) ?_
      rintro r s6 ⟨u, rfl, h6⟩
      refine thnF h6 fun _ s7 ⟨x, H7, I7, r7, y7, z7, n7⟩ => ?_
      refine thnF (pg.run _ s7 _ H7 x u _ (I7.pinned (stat I7 n7) (T.obj _ _ z7)) r7 (step x H7 y7)) fun _ s8 ⟨σ8, H8, I8, w8, q8⟩ => thnF (pt.run _ s8 σ8 H8 _ I8 q8) fun b s9 ⟨H9, I9, q9⟩ => ?_
      have next : ∀ {s' : Shared} {H' : Hp}, Inv (X.blk s3 H3 scope ce fp) ([] ++ pinsAt fp s7.heap) σ8 H' s' → Nx H' → ∃ m, m < n ∧ ∃ i H', Inv (X.blk s3 H3 scope ce fp) [] (wipe σ (own.map (·.2))) H' s' ∧ tn i s'.heap ∧ (∀ b ∈ fp, H' b = none) ∧ P i m H' := fun {s' H'} J nx => by
        obtain ⟨m', lt, p'⟩ := less H' nx
        have pin : ∀ b ∈ fp, ∀ o, s7.heap.get? b = some o → s'.heap.get? b = some o ∧ H' b = none := fun b hb o e =>
          let z := J.pin (b, o) (List.mem_append_right _ (List.mem_append_right _ (mem_pinsAt hb e)))
          ⟨z.1, z.2.1⟩
        refine ⟨m', lt, i + 1, H', (J.unpinned (pins := [])).weak (by rw [← w8, wipe_length]) (fun j v e => (wipe_some (w8.symm ▸ e)).1), T.keep _ _ _ z7 fun b hb o e => (pin b hb o e).1, fun b hb => ?_, p'⟩
        obtain ⟨o, e, _⟩ := T.obj _ _ z7 b hb
        exact (pin b hb o e).2
      cases b with
      | false => exact next I9 q9
      | true =>
        refine wpAny_mono (pe.run _ s9 σ8 H9 _ (Inv.trTo I9) q9) (fun z s10 ⟨yv, H10, I10, r10, acc, gD, lD, nx⟩ => ?_) fun _ _ z => z
        exact app_ok (X := X.blk s3 H3 scope ce fp) (Inv.trOf I10) gD lD r10 fun s11 I11 => next I11 nx
  exact codeAny_compStart_list loop (T.self X.A 0 _ _ _ z4 loop)
theorem pe_lcX {elt tg iter : Expr} {ifs : List Expr} {scope : Scope} {own : List (Str × Nat)} {pos : Pos} {wi : TI} {g : TG} {tt : TT} {te : XK → TE}
    (hst : X.stack = X.env :: X.outer) (hf : X.env.frame = some X.env.locals) (hZ : ∀ c d, PXN.Steady1 (Zf c d)) (tk : TkG Zf X W) (hc : X.calm = true) (hN : X.N.Nodup) (hi : PI X tg iter wi) (ok : BlkOk X.N X.env.scope scope own)
    (hg : ∀ s H C cl fp, PG (X.blk s H scope (compEnvC scope cl C X.env) fp) tg g) (ht : ∀ s H C cl fp, PTs (X.blk s H scope (compEnvC scope cl C X.env) fp) ifs tt)
    (he : ∀ s H C cl fp (E : XK) xe, TkG Zf (X.blx scope s H C cl fp xe) (fun cls d _ H' => E cls d H') → PE (X.blx scope s H C cl fp xe) elt (te E)) (hs : ∀ x, foldedSetIterable iter X.env x = pure x := by intro _; rfl) :
    PE X (.ListComp elt [⟨tg, iter, ifs, 0⟩] scope pos) (tLcX W wi g tt te (own.map (·.2))) := by
  refine ⟨fun pins s σ H Q I h => ?_⟩
  rw [eval_ListComp]
  refine lc_coreX hst hf hZ tk hc hN I hi ok hg ht he hs h fun D C s' m H' J q hn f => ⟨m, hn, fun h2 sb => ⟨.ref D, H', ?_, rfl, q⟩⟩
  exact J.turned (t' := s'.toks) (fun b o hb e => (sb.2 b hb).trans e) f.1 f.2.1 f.2.2.2.1 f.2.2.2.2.1 f.2.2.2.2.2
theorem ps_setLcX {i : Nat} {y : Str} {py : Pos} {elt tg iter : Expr} {ifs : List Expr} {scope : Scope} {own : List (Str × Nat)} {pos spos : Pos} {wi : TI} {g : TG} {tt : TT} {te : XK → TE}
    (hst : X.stack = X.env :: X.outer) (hf : X.env.frame = some X.env.locals) (hZ : ∀ c d, PXN.Steady1 (Zf c d)) (tk : TkG Zf X W) (hc : X.calm = true) (hN : X.N.Nodup) (hy : X.N[i]? = some y) (hyl : X.env.scope.names.lookup y = some .local)
    (hsw : swapsWith (.ListComp elt [⟨tg, iter, ifs, 0⟩] scope pos) (some (.Name y py)) spos.line X.env = pure true) (hi : PI X tg iter wi) (ok : BlkOk X.N X.env.scope scope own)
    (hg : ∀ s H C cl fp, PG (X.blk s H scope (compEnvC scope cl C X.env) fp) tg g) (ht : ∀ s H C cl fp, PTs (X.blk s H scope (compEnvC scope cl C X.env) fp) ifs tt)
    (he : ∀ s H C cl fp (E : XK) xe, TkG Zf (X.blx scope s H C cl fp xe) (fun cls d _ H' => E cls d H') → PE (X.blx scope s H C cl fp xe) elt (te E)) (hs : ∀ x, foldedSetIterable iter X.env x = pure x := by intro _; rfl) :
    PS X (.Assign [.Name y py] (.ListComp elt [⟨tg, iter, ifs, 0⟩] scope pos) spos) (tAsg (tLcX W wi g tt te (own.map (·.2))) (gName i)) := by
  refine ⟨fun pins s σ H D I h => ?_⟩
  rw [exec_Assign_Name_used _ _ _ _ hsw]
  refine wpAny_bind (wpAny_standAt (wpAny_bind ?_))
  show wpAny _ X.A (do let _ ← comprehension (.ListComp elt [⟨tg, iter, ifs, 0⟩] scope pos) scope X.env (firstIterPos [⟨tg, iter, ifs, 0⟩] pos) (newList []) false (eval iter X.env) (some (assign (.Name y py) X.env))) _ _ s
  have h : tLcX W wi g tt te (own.map (·.2)) σ H (fun x H1 => gName i x σ H1 D.nx) := h
  refine wpAny_bind (thn (lc_coreX (Qf := fun _ s' => SP X pins D .next s') hst hf hZ tk hc hN I hi ok hg ht he hs h fun L C s' m H' J q hn f => ?_) fun _ s' hq => wpAny_pure (wpAny_pure hq))
  show wpAny _ _ (assign (.Name y py) X.env (.ref L)) _ _ _
  refine wpAny_assign_Name (store_ok2 (v := V.ref L) J hN hy (.inl hyl) rfl (fun s2 J2 ⟨a, sb, ha⟩ => ?_) (.inr hyl))
  have apart : C ≠ a := ha.elim (fun z => z ▸ f.2.1) fun z e => f.2.2.2.2.1 y a z e.symm
  refine ⟨m, hn.sameBut sb apart, fun h3 sb3 => ⟨_, H', ?_, q⟩⟩
  exact J2.turned (t' := s2.toks) (fun b o hb e => (sb3.2 b hb).trans e) f.1 f.2.1 f.2.2.2.1 f.2.2.2.2.1 f.2.2.2.2.2
end
end L2




namespace V2
open PySem L2
open PySem.Spec PyProof.Rows
section
variable {P : Program} {w : World} {K : PySem.W.Frag} {mg : Str → Option Value} {base : Heap}
/-- as Fun.okX, whatever the context of exceptions -/
theorem okC (CX : CXT) {x qual : Str} {st : Stmt} {f : Addr} {fd : FuncData} {N ps : List Str} {k : Nat} {sp : Sp} (F : Fun K x qual st f fd) (S : FnScope N ps (defScope st)) (len : ∀ vs H Q E, sp vs H Q E → vs.length = ps.length)
    (hb : ∀ (cdv : Value) (A : Around) (outer : List Env) (s : Shared) (H : Hp) (vs : List V) (Q : VK) (E : XK), Room k (A.deeper (envOfC qual (defScope st) s.heap.objs.size f cdv)) → sp vs H Q E →
      ∃ t, PSs (cxOf CX P w K mg base N qual (defScope st) f cdv A outer s H E) (defBody st) t ∧ t { nx := fun _ H' => Q .non H', rt := Q } (L2.start N vs) H) : FnOk P w K mg base CX (k + 1) f fd ps sp := by
  obtain ⟨oc, od, kV, doc, pm, an, cdv, ct, osl, rfl, lk, hcd⟩ := F.ex
  exact fn_of lk hcd S len (hb cdv)
/-- .. and while an exception is handled -/
theorem okH {CX : CXT} {x qual : Str} {st : Stmt} {f : Addr} {fd : FuncData} {N ps : List Str} {k : Nat} {sp : Sp} (F : Fun K x qual st f fd) (S : FnScope N ps (defScope st)) (len : ∀ vs H Q E, sp vs H Q E → vs.length = ps.length)
    (hb : ∀ (cdv : Value) (A : Around) (outer : List Env) (s : Shared) (H : Hp) (vs : List V) (Q : VK) (E : XK) (p : Addr × Obj), L2H.Hot1 A p → L2H.RoomH k (A.deeper (envOfC qual (defScope st) s.heap.objs.size f cdv)) → sp vs H Q E →
      ∃ t, PSs (L2H.cxH CX P w K mg base N qual (defScope st) f cdv A outer s H E p) (defBody st) t ∧ t { nx := fun _ H' => Q .non H', rt := Q } (L2.start N vs) H) : L2H.FnH P w K mg base CX (k + 1) f fd ps sp := by
  obtain ⟨oc, od, kV, doc, pm, an, cdv, ct, osl, rfl, lk, hcd⟩ := F.ex
  exact L2H.fn_ofH lk hcd S len (hb cdv)
theorem ok_TE_initH {f : Addr} {fd : FuncData} (F : Fun K "__init__" "TankError.__init__" s_TE_init f fd) : L2H.FnH P w K mg base CX0 1 f fd p_TE_init (spInit K) := by
  refine okH F sc_TE_init (fun vs H Q E h => ?_) (fun cdv A outer s H vs Q E p hp hr h => ?_)
  · obtain ⟨a, C, y, rfl, _⟩ := h
    rfl
  · obtain ⟨a, C, y, rfl, T, hno, ha, k⟩ := h
    exact ⟨_, pss_one (ps_ost (pv 0) (pv 1)), _, rfl, _, rfl, a, C, rfl, T, hno, .inl ⟨ha, fun dx hd hn => k dx hd hn⟩⟩
def CalN (P : Program) (w : World) (K : PySem.W.Frag) (mg : Str → Option Value) (base : Heap) (k : Nat) (x : Str) (ps : List Str) (sp : Sp) : Prop :=
  ∃ (f : Addr) (fd : FuncData), FnOk P w K mg base (L2N.CX P w) k f fd ps sp ∧ mg x = some (.ref f) ∧ PySem.W.keepIn K (.ref f) = true ∧ Binds K fd ps []
theorem pe_cn {X : Cx} {k : Nat} {x : Str} {ps : List Str} {sp : Sp} {E : XK} {W : WX} {e : Expr} {es : List Expr} {t : TA} {p pos : Pos} (c : CalN X.prog X.w X.K X.mg X.base k x ps sp) (hr : Room k X.A) (tk : L2N.Takes X W) (hW : ∀ cls d σ H, E cls d H → W cls d σ H) (ha : PA X (e :: es) t) (hg : Gl X x := by rfl)
    (he : starEach (e :: es) X.env = (false, eval e X.env) :: starEach es X.env := by rfl) (hpl : (backTo pos (starEach es X.env)).any (fun z => z.1) = false := by rfl) (hdb : (x == ("__debug__" : Str)) = false := by decide) : PE X (.Call (.Name x p) (e :: es) [] pos) (tCall sp [] E t) := by
  obtain ⟨f, fd, F, hm, hk, hb⟩ := c
  exact pe_call F hr hg hm hk hb .nil (L2N.passes_call tk hW) ha hdb he hpl
/-- C(e, ..), its context told -/
theorem pmkN_oex {X : Cx} {CX : CXT} {x : Str} {e : Expr} {es : List Expr} {ta : TA} {p pos : Pos} {C fI : Addr} {k : Nat} {fd : FuncData} {ps : List Str} {sp : Sp} (T : OexC X.K C) (iC : PySem.W.findIn X.K (.ref C) "__init__" = some (some (.ref fI))) (tI : PySem.W.typeIn X.K (.ref fI) = some (.type "function"))
    (F1 : FnOk X.prog X.w X.K X.mg X.base CX k fI fd ps sp) (hr : Room (k + 1) X.A) (hb : Binds X.K fd ps []) (hx : Passes CX X (fun _ _ _ => False)) (hg : Gl X x) (hm : X.mg x = some (.ref C)) (ha : PA X (e :: es) ta)
    (hdb : (x == ("__debug__" : Str)) = false := by decide) (he : starEach (e :: es) X.env = (false, eval e X.env) :: starEach es X.env := by rfl) (hpl : (backTo pos (starEach es X.env)).any (fun z => z.1) = false := by rfl) :
    L2N.PMk X (.Call (.Name x p) (e :: es) [] pos) (tMkO C sp [] ta) := by
  intro pins s σ H Q I h
  obtain ⟨nm, q, N, bs, bm, sn, sub, ab, col, dd, k0, k1, k2, k3, k5, gC, cB⟩ := T.cls
  refine wpAny_Call_Name_kw (ld_glob I hg hm ?_ hdb)
  refine PySem.W.callWith_K (h₀ := X.base) I.ok.mod.kin T.kC (thn (ha.run pos pins s σ H _ I h) fun us t ⟨vs, G, J, rv, lz, q1⟩ => ⟨J.kIn, ?_⟩) he hpl
  show wpAny _ _ (call (.ref C) us) _ _ _
  obtain ⟨hp, gn, dw, tk, os⟩ := t
  generalize ea : hp.objs.size + 1 = a
  have le : hp.objs.size ≤ a := by rw [← ea]; exact Nat.le_succ _
  have hq := q1 a (J.hok.fresh le)
  rw [List.append_nil] at hq
  have ga : ((hp.push (PySem.W.kdv_tup us)).push (PySem.HandSPX.excO C hp.objs.size)).get? a = some (PySem.HandSPX.excO C hp.objs.size) := by rw [← ea]; heap_get
  have keep : ∀ b o, hp.get? b = some o → ((hp.push (PySem.W.kdv_tup us)).push (PySem.HandSPX.excO C hp.objs.size)).get? b = some o := fun b o e => Heap.get?_push_of_some _ (Heap.get?_push_of_some _ e)
  have J2 : Inv X pins σ (upd G a (exo a C none)) ⟨(hp.push (PySem.W.kdv_tup us)).push (PySem.HandSPX.excO C hp.objs.size), gn, dw, tk, os⟩ :=
    J.laid (t' := tk) (a := a) (o := exo a C none) (h' := (hp.push (PySem.W.kdv_tup us)).push (PySem.HandSPX.excO C hp.objs.size)) keep le (exo_ok ga)
  have rv2 : Vals (V.ref a :: vs) (Value.ref a :: us) := .cons rfl rv
  have el : (Value.ref a :: us).length = ps.length := by rw [← F1.len _ _ _ _ hq]; exact rv2.length.symm
  have lus : us.length ≤ sizeLine := by
    have z := Paired.length rv
    rw [sizeLine_eq]
    omega
  have bd := hb ⟨(hp.push (PySem.W.kdv_tup us)).push (PySem.HandSPX.excO C hp.objs.size), gn, dw, tk, os⟩ (Value.ref a :: us) J2.kIn (by rw [List.append_nil]; exact el)
  rw [List.append_nil] at bd
  refine wpAny_call (PySem.HandSPX.call_own F.excBase_ValueError (fun Y => PySem.HandSPX.refsVE_contains Y bm cB) (J.kIn _ _ gC) (PySem.W.looks_findIn J.kIn iC) (fun self => PySem.W.bind_fn J.kIn self tI) lus ?_)
  rw [ea]
  refine codeAny_mono (F1.run _ X.stack _ _ ⟨Value.ref a :: us, []⟩ (Value.ref a :: us) _ _ (fun _ _ _ => False) (hr.make C us []) (J2.env0.make C us []) bd rv2 hq) fun r t' ht => ?_
  rcases r with er | fl
  · exact hx pins σ _ _ er t' J2 ht
  · cases fl with
    | ret u =>
      obtain ⟨v, G2, os2, bare2, un2, hok2, ru, rfl, d, fs, e1, e2, e3, q2⟩ := ht
      obtain ⟨h2, g2, d2, t2, os'⟩ := t'
      obtain ⟨t0, G', J', kG, nG, hoe, na⟩ := mk_end0 (d2 := d2) (t2 := t2) J le keep un2 hok2 os2 bare2 e1 e2 e3
      exact ⟨ru, a, _, _, ⟨G', g2, d2, t2, os'⟩, _, .ref C, some d, rfl, J', kG, nG, hoe, ⟨rfl, rfl, fun us hu => by cases hu; rfl⟩, rfl, rfl, na, rfl, bare2, raises_own T.exC T.tyC, q2⟩
    | next => exact False.elim ht
    | brk => exact False.elim ht
    | cont => exact False.elim ht
end
end V2


namespace V2
open PySem L2
open PySem.Spec PyProof.Rows
section
variable {base : Heap} {mg : Str → Option Value} {K : PySem.W.Frag} {w : World} {P : Program} {CU eI0 : Addr}
theorem ok_read_integerN {f : Addr} {fd fdI : FuncData} (F : Fun K "read_integer" "read_integer" s_read_integer f fd) (mL : mg "len" = none) (mAl : mg "all" = none) (mIn : mg "int" = none) (TU : EC K CU eI0) (G : EG K eI0) (mE : mg "Unreadable" = some (.ref CU)) (FI : FnOk P w K mg base CX0 1 eI0 fdI ["self", "value"] (spInit K)) (bI : Binds K fdI ["self", "value"] []) : FnOk P w K mg base (L2N.CX P w) 3 f fd p_read_integer (spRdI CU) := by
  refine okC (L2N.CX P w) F sc_read_integer (fun vs H Q E h => ?_) (fun cdv A outer s H vs Q E hr h => ?_)
  · obtain ⟨x, rfl, _⟩ := h
    rfl
  · obtain ⟨x, rfl, lx, k, kx⟩ := h
    have nd := sc_read_integer.nd
    have r2 : Room (1 + 1) _ := hr.mono (by decide)
    refine ⟨_, Evl.pss_cut (ps_set (i := 1) nd rfl (Or.inl rfl) (pe_ifExp (pt_val (pe_m1 PySem.F.slot_str_startswith PySem.F.type_str_startswith mt_startswith (pv 0) pe_str)) (pe_slice sl_str (pv 0) (po_some pe_int) po_none) (pv 0)))
      (pss_cons (ps_if (PW.pt (pw_or (pt_not (pt_truth (pv 1) (by intro _; rfl))) (pw_or (pt_cmpR op_gt (pe_callB call_len_str (by rfl) mL PySem.boot_len (pa_cons (pv 1) pa_nil)) pe_int (nomark _)) (pw_or1 (pt_not (pt_val (pe_callB (cr_all rfl) (by rfl) mAl (by decide +kernel) (pa_cons (pe_lc (own := [("sign", 2)]) (g := gName 2) (tt := tYes) (te := tOp rInSign (tVar 2) (tC (.str "0123456789"))) rfl nd (pi_str (pv 1)) (blkOk_by (N := n_read_integer) (sc := defScope s_read_integer) (by decide +kernel)) (fun _ _ _ _ _ => pg_name (i := 2) nd rfl (Or.inl rfl)) (fun _ _ _ _ _ => pts_nil) (fun _ _ _ _ _ => pe_cmpR op_in_sign (pv 2) pe_str (by rfl))) pa_nil)))))))) (pss_one (L2N.ps_raise rfl (L2N.takes_of rfl rfl rfl rfl) (pmkN_oex (k := 1) TU.ox TU.iC G.tI FI r2 bI pass0 (by rfl) mE (pa_cons (pv 0) pa_nil)))) pss_nil)
      (pss_cons (ps_if (PW.pt (pw_and (pt_val (pe_m1 PySem.F.slot_str_startswith PySem.F.type_str_startswith mt_startswith (pv 1) pe_str)) (pw_and1 (pt_cmpR op_ne (pv 0) pe_str (nomark _))))) (pss_one (L2N.ps_raise rfl (L2N.takes_of rfl rfl rfl rfl) (pmkN_oex (k := 1) TU.ox TU.iC G.tI FI r2 bI pass0 (by rfl) mE (pa_cons (pv 0) pa_nil)))) pss_nil)
      (pss_one (ps_ret (pe_callTy call_int_str (by rfl) mIn (by decide +kernel) (pa_cons (pv 0) pa_nil)))))), ?_⟩
    have l45 : (("-" : Str)) = ⟨#[45]⟩ := by decide +kernel
    have l48 : (("0" : Str)) = ⟨#[48]⟩ := by decide +kernel
    have szx : x.length ≤ sizeLine := Nat.le_trans lx (by decide)
    refine ⟨fun σ H' => H' = H ∧ ∃ y : Str, σ = [some (.str x), some (.str y), none] ∧ TL.tl y = dgs x, ?_, ?_⟩
    · refine ⟨_, rfl, ⟨_, rfl⟩, x, _, rfl, rfl, _, rfl, ?_⟩
      rw [l45, starts1]
      by_cases h45 : (TL.tl x).head? = some 45
      · refine if_t (decide_eq_true h45) ⟨_, rfl, 1, rfl, x, rfl, szx, rfl, _, rfl, ?_⟩
        rw [cut1_tl]
        unfold dgs
        rw [if_pos h45]
      · refine if_f (decide_eq_false h45) ⟨_, rfl, rfl, x, rfl, ?_⟩
        unfold dgs
        rw [if_neg h45]
    rintro σ H' ⟨rfl, y, rfl, hy⟩
    have ly : y.length = (dgs x).length := by rw [TL.len_tl, hy]
    have lyx : y.length ≤ 4000 := by
      rw [ly]
      have : (dgs x).length ≤ (TL.tl x).length := by
        unfold dgs
        split
        · rw [List.length_drop]; omega
        · exact Nat.le_refl _
      rw [← TL.len_tl] at this
      omega
    have szy : y.length ≤ sizeLine := Nat.le_trans lyx (by decide)
    have bad : ∀ {H1 : Hp}, Evl.Ex H' H1 → NumB x = false → [V.str x].length ≤ 1000 ∧ ∀ a, H1 a = none → spInit K (.ref a :: ([V.str x] ++ [])) (upd H1 a (exo a CU none)) (fun v G2 => v = .non ∧ ∃ (d : Addr) (fs : List (Str × V)), G2 a = some (exo a CU (some d)) ∧ G2 d = some (exd d fs) ∧ H1 d = none ∧ E (.ref CU) (some d) (upd (del G2 a) d (.xd fs))) (fun _ _ _ => False) := fun {H1} e1 hb => raise_in TU fun e G' he ee hx => kx hb H1 e1 e G' he ee hx
    have hNB : NumB x = (decide (dgs x ≠ []) && decide ((dgs x).length ≤ 9) && (dgs x).all (fun c => decide (48 ≤ c ∧ c ≤ 57)) && (decide ((dgs x).head? ≠ some 48) || decide (TL.tl x = [48]))) := rfl
    by_cases h0 : dgs x = []
    · refine ⟨_, rfl, _, ⟨szy, rfl⟩, if_t ?_ (if_t rfl ⟨_, rfl, bad (Evl.Ex.refl _) ?_⟩)⟩
      · rw [ly, h0]; rfl
      · rw [hNB, decide_eq_false (fun h => h h0)]; rfl
    have y0 : 0 < y.length := by
      rw [ly]; exact List.length_pos_iff.mpr h0
    refine ⟨_, rfl, _, ⟨szy, rfl⟩, if_f ?_ ?_⟩
    · have : ((y.length : Int) != 0) = true := bne_iff_ne.mpr (by omega)
      rw [this]; rfl
    by_cases h9 : ¬ (dgs x).length ≤ 9
    · refine ⟨_, rfl, y, rfl, szy, _, _, rfl, rfl, _, rfl, if_t (decide_eq_true (by omega)) (if_t rfl ⟨_, rfl, bad (Evl.Ex.refl _) ?_⟩)⟩
      rw [hNB, decide_eq_false h9, Bool.and_false]; rfl
    have h9 := Decidable.not_not.mp h9
    refine ⟨_, rfl, y, rfl, szy, _, _, rfl, rfl, _, rfl, if_f (decide_eq_false (by omega)) ?_⟩
    refine ⟨_, rfl, y, rfl, fun D hD => lc_str (fun i H2 => Evl.Ex H' H2 ∧ H2 D = some (.lst ((((dgs x).take i).map fun c => decide (48 ≤ c ∧ c ≤ 57)).map V.bl))) ⟨Evl.Ex.new hD, upd_same⟩ ?_ ?_⟩
    · rintro i c H2 hc ⟨e2, g2⟩
      rw [hy] at hc
      refine ⟨rfl, ?_⟩
      show tOp rInSign (tVar 2) (tC (.str "0123456789")) _ _ _
      refine ⟨_, rfl, c, _, rfl, rfl, _, g2, ?_, Evl.Ex.mut e2 hD, ?_⟩
      · rw [List.length_map, List.length_map, List.length_take]
        exact Nat.lt_of_le_of_lt (show min i (dgs x).length ≤ 9 by omega) (by decide)
      · rw [upd_same, dig10, List.take_add_one, hc, List.map_append, List.map_append]
        rfl
    rintro H2 ⟨e2, g2⟩
    rw [hy, List.take_length] at g2
    refine ⟨D, _, rfl, SqL.of g2, _, rfl, ?_⟩
    have eall : (((dgs x).map fun c => decide (48 ≤ c ∧ c ≤ 57)).all id) = (dgs x).all (fun c => decide (48 ≤ c ∧ c ≤ 57)) := by rw [List.all_map]; rfl
    rw [eall]
    by_cases ha : (dgs x).all (fun c => decide (48 ≤ c ∧ c ≤ 57)) = false
    · rw [ha]
      refine if_t rfl ⟨_, rfl, bad e2 ?_⟩
      rw [hNB, ha, Bool.and_false]; rfl
    have ha := Bool.not_eq_false _ |>.mp ha
    rw [ha]
    refine if_f rfl ⟨_, rfl, ⟨_, rfl⟩, y, _, rfl, rfl, _, rfl, ?_⟩
    rw [l48, starts1, hy]
    have fin : NumB x = true → ∃ n : Int, x = nT n ∧ intText? x = some n ∧ x.length ≤ 640 ∧ Q (.int n) H2 := fun hb => by
      obtain ⟨n, rfl, hn⟩ := numB_iff.mp hb
      exact ⟨n, rfl, nT_reads hn, Nat.le_trans (nT_len hn) (by decide), k n rfl hn _ e2⟩
    have n0 : decide (dgs x ≠ []) = true := decide_eq_true h0
    have n9 : decide ((dgs x).length ≤ 9) = true := decide_eq_true h9
    rw [n0, n9, ha] at hNB
    by_cases hh : (dgs x).head? = some 48
    · rw [decide_eq_true hh]
      refine if_t rfl ⟨_, rfl, rfl, ?_⟩
      by_cases hx : TL.tl x = [48]
      · have ex : x = ("0" : Str) := tl_inj1 (by rw [l48]; exact hx)
        obtain ⟨n, _, h1, h2, h3⟩ := fin (by rw [hNB, decide_eq_true hx, Bool.or_true]; rfl)
        exact ⟨_, rfl, if_f (by rw [ex]; rfl) ⟨_, rfl, x, n, rfl, h1, h2, h3⟩⟩
      · have ex : V.str x ≠ V.str ("0" : Str) := fun h => by
          injection h with h
          exact hx (by rw [h, l48])
        refine ⟨_, rfl, if_t (by rw [l48] at ex; rw [decide_eq_false ex]; rfl) ⟨_, rfl, bad e2 ?_⟩⟩
        rw [hNB, decide_eq_false hx, decide_eq_false (fun h => h hh)]; rfl
    · rw [decide_eq_false hh]
      obtain ⟨n, _, h1, h2, h3⟩ := fin (by rw [hNB, decide_eq_true hh]; rfl)
      exact if_f rfl ⟨_, rfl, x, n, rfl, h1, h2, h3⟩
end
end V2


namespace V2
open PySem L2
open PySem.Spec PyProof.Rows
abbrev rSpl : V → List V → Hp → VK → Prop := fun x xs H Q => ∃ a b, x = .str a ∧ xs = [.str b] ∧ (b.length == 0) = false ∧ a.length + 2 ≤ sizeLine ∧ rNewStrs (Txt.split a b) H Q
section
variable {base : Heap} {mg : Str → Option Value} {K : PySem.W.Frag} {w : World} {P : Program} {C CT fI fT fS pT pS : Addr}
end
end V2


namespace V2
open PySem L2
open PySem.Spec PyProof.Rows
/-- numbers that are gathered: two first ones, then unlike ones below i -/
structure NdI (x y : Int) (ks : List Int) (i : Nat) : Prop where
  hd : ∃ r, ks = x :: y :: r
  nd : ks.Nodup
  bd : ∀ z ∈ ks, z = x ∨ z = y ∨ (0 ≤ z ∧ z < (i : Int))
  len : ks.length ≤ i + 2
theorem NdI.start {x y : Int} (h : x ≠ y) : NdI x y [x, y] 0 := ⟨⟨[], rfl⟩, by simp [h], fun z hz => by
  simp only [List.mem_cons, List.not_mem_nil, or_false] at hz
  rcases hz with rfl | rfl
  · exact .inl rfl
  · exact .inr (.inl rfl), by simp⟩
section
variable {base : Heap} {mg : Str → Option Value} {K : PySem.W.Frag} {w : World} {P : Program}
end
end V2


namespace V2
open PySem L2
open PySem.Spec PyProof.Rows
def Sp8 (ns : List Int) : Prop := Pol ns ∧ ns.length ≤ 8 ∧ ∀ n ∈ ns, n.natAbs ≤ 1000000
theorem Sp8.pn {ns : List Int} (h : Sp8 ns) : Pn ns := by
  obtain ⟨h1, h2, h3⟩ := h
  have e : (2 : Int) ^ 64 = 18446744073709551616 := by decide
  exact ⟨h1, by omega, fun x hx => by
    have := h3 x hx
    rw [e]
    omega⟩
theorem dpI' {K : PySem.W.Frag} {H : Hp} : ∀ ns : List Int, DpAll K H (iV ns) (ns.map .int)
  | [] => .nil
  | n :: r => .cons (.int n) (dpI' r)
theorem shI (ns : List Int) : SeqAt.shaped (.list (ns.map .int)) = true := shaped_ints ns
section
variable {base : Heap} {mg : Str → Option Value} {K : PySem.W.Frag} {w : World} {P : Program} {C CT fI fT fS pT_ pS : Addr}
end
end V2


namespace V2
open PySem L2
open PySem.Spec PyProof.Rows
/-! ## texts of polynomials -/
def pcs (x : Str) : List Str := Txt.split x " "
theorem pcs_join (x : Str) : Txt.join " " (pcs x) = x := by
  rw [TL.join_eq]
  exact PySem.StrLaws.join_split x " "
theorem joinL_mem_le {y : List Nat} : ∀ {ps : List (List Nat)} {p : List Nat}, p ∈ ps → p.length ≤ (TL.joinL y ps).length
  | [q], p, h => by
    simp only [List.mem_cons, List.not_mem_nil, or_false] at h
    rw [h]
    exact Nat.le_refl _
  | q :: r :: ps, p, h => by
    show p.length ≤ (q ++ (y ++ TL.joinL y (r :: ps))).length
    rw [List.length_append, List.length_append]
    rcases List.mem_cons.mp h with h | h
    · rw [h]; omega
    · have := joinL_mem_le (y := y) h
      omega
theorem joinL_cnt {y : List Nat} (hy : 1 ≤ y.length) : ∀ ps : List (List Nat), ps.length ≤ (TL.joinL y ps).length + 1
  | [] => Nat.zero_le _
  | [_] => by simp
  | q :: r :: ps => by
    have := joinL_cnt hy (r :: ps)
    show (r :: ps).length + 1 ≤ (q ++ (y ++ TL.joinL y (r :: ps))).length + 1
    rw [List.length_append, List.length_append]
    omega
theorem split_mem_le {x y p : Str} (h : p ∈ Txt.split x y) : p.length ≤ x.length := by
  have e : Txt.join y (Txt.split x y) = x := by
    rw [TL.join_eq]
    exact PySem.StrLaws.join_split x y
  have z := joinL_mem_le (y := TL.tl y) (List.mem_map.mpr ⟨p, h, rfl⟩ : TL.tl p ∈ (Txt.split x y).map TL.tl)
  rw [← TL.tl_join, ← TL.join_eq, e, ← TL.len_tl, ← TL.len_tl] at z
  exact z
theorem split_cnt {x y : Str} (hy : 1 ≤ y.length) : (Txt.split x y).length ≤ x.length + 1 := by
  have e : Txt.join y (Txt.split x y) = x := by
    rw [TL.join_eq]
    exact PySem.StrLaws.join_split x y
  have z := joinL_cnt (y := TL.tl y) (by rw [← TL.len_tl]; exact hy) ((Txt.split x y).map TL.tl)
  rw [← TL.tl_join, ← TL.join_eq, e, ← TL.len_tl, List.length_map] at z
  exact z
theorem pcs_ne (x : Str) : pcs x ≠ [] := fun h => by
  have e := pcs_join x
  rw [h] at e
  subst e
  exact absurd h (by decide +kernel)
/-- x is the text of ns -/
def RdP (x : Str) (ns : List Int) : Prop := (x = "0" ∧ ns = []) ∨ (pcs x = ns.map nT ∧ (∀ n ∈ ns, n.natAbs ≤ 999999999) ∧ ns.getLast? ≠ some 0)
theorem rdP_show {x : Str} {ns : List Int} (h : RdP x ns) : pT ns = x := by
  rcases h with ⟨rfl, rfl⟩ | ⟨h, _, _⟩
  · rfl
  · have n0 : ns ≠ [] := fun e => pcs_ne x (by rw [h, e]; rfl)
    unfold pT
    rw [if_neg n0, ← h]
    exact pcs_join x
theorem rdP_sm {x : Str} {ns : List Int} (h : RdP x ns) : ∀ n ∈ ns, n.natAbs ≤ 999999999 := by
  rcases h with ⟨_, rfl⟩ | ⟨_, h, _⟩
  · intro n hn; cases hn
  · exact h
theorem rdP_len {x : Str} {ns : List Int} (h : RdP x ns) : ns.length ≤ x.length + 1 := by
  rcases h with ⟨_, rfl⟩ | ⟨h, _, _⟩
  · exact Nat.zero_le _
  · have := split_cnt (x := x) (y := " ") (by decide)
    have e := congrArg List.length h
    rw [List.length_map] at e
    unfold pcs at e
    omega
theorem nT_maps : ∀ {ms ns : List Int}, ms.map nT = ns.map nT → (∀ n ∈ ms, n.natAbs ≤ 999999999) → (∀ n ∈ ns, n.natAbs ≤ 999999999) → ms = ns
  | [], [], _, _, _ => rfl
  | m :: ms, n :: ns, h, h1, h2 => by
    simp only [List.map_cons, List.cons.injEq] at h
    rw [nT_inj h.1 (h1 m List.mem_cons_self) (h2 n List.mem_cons_self), nT_maps h.2 (fun x hx => h1 x (List.mem_cons_of_mem _ hx)) fun x hx => h2 x (List.mem_cons_of_mem _ hx)]
def spPolB : Sp := fun vs H Q _ => ∃ (a : Addr) (ns : List Int), vs = [.ref a] ∧ H a = some (.lst (iV ns)) ∧ ns.length ≤ 5000 ∧ Evl.RetV (.bl (decide (ns.getLast? ≠ some 0))) H Q
/-- the text read, or refused -/
def spRdX (CU : Addr) : Sp := fun vs H Q E => ∃ x : Str, vs = [.str x] ∧ x.length ≤ 3900 ∧ (∀ ns, RdP x ns → Evl.RetL (iV ns) H Q) ∧ ((∀ ns, ¬ RdP x ns) → ∀ H1, Evl.Ex H H1 → Rz CU H1 (.str x) E)
section
variable {base : Heap} {mg : Str → Option Value} {K : PySem.W.Frag} {w : World} {P : Program} {CT CU eI0 : Addr}
theorem ok_is_polynomialB {f : Addr} {fd : FuncData} (F : Fun K "is_polynomial" "is_polynomial" s_is_polynomial f fd) (mI : mg "isinstance" = none) (mLs : mg "list" = none) (mAl : mg "all" = none) (cI : Cal P w K mg base 1 "is_integer" p_is_integer spInt) : FnOk P w K mg base CX0 2 f fd p_is_polynomial spPolB := by
  refine F.ok sc_is_polynomial (fun vs H Q E h => ?_) (fun cdv A outer s H vs Q E hr h => ?_)
  · obtain ⟨a, ns, rfl, _⟩ := h
    rfl
  · obtain ⟨a, ns, rfl, ha, hp, k⟩ := h
    have nd := sc_is_polynomial.nd
    refine ⟨_, pss_cons (ps_if (PW.pt (pw_or (pt_not (pt_val (pe_callB call_isi (by rfl) mI (by decide +kernel) (pa_cons (pv 0) (pa_cons (pe_bltn (v := .ty "list") (by rfl) mLs (by decide +kernel) rfl) pa_nil)))))
        (pw_or1 (pt_not (pt_val (pe_callB (cr_all rfl) (by rfl) mAl (by decide +kernel) (pa_cons (pe_lc (own := [("number", 1)]) (g := gName 1) (tt := tYes) (te := tCall spInt [] E0 (tCons (tVar 1) tNil)) rfl nd (pi_list (pv 0)) (blkOk_by (N := n_is_polynomial) (sc := defScope s_is_polynomial) (by decide +kernel)) (fun _ _ _ _ _ => pg_name (i := 1) nd rfl (Or.inl rfl)) (fun _ _ _ _ _ => pts_nil)
          (fun _ _ _ _ _ => pe_c cI hr (pa_cons (pv 1) pa_nil))) pa_nil))))))) (pss_one (ps_ret pe_bl)) pss_nil)
      (pss_one (ps_ret (pe_or (pe_notT (pv 0)) (pe_one (pe_cmpR op_ne (pe_ix ix_list (pv 0) (pe_un un_neg pe_int) (fun _ _ => rfl)) pe_int (nomark _)))))), ?_⟩
    refine ⟨_, rfl, _, _, _, _, true, rfl, .ty "list", .base (.lst ha), kit_ty (by decide +kernel), true, rfl, if_f rfl ?_⟩
    refine ⟨_, rfl, a, rfl, ⟨_, SqL.of ha⟩, fun D hD => lc_list (xs := iV ns) (fun i H' => Evl.Ex H H' ∧ H' D = some (.lst (List.replicate i (.bl true)))) ⟨Evl.Ex.new hD, upd_same⟩ (fun i H' _ q => SqL.of (q.1 _ _ ha)) ?_ ?_⟩
    · rintro i x H' hi ⟨e1, h1⟩
      obtain ⟨n, hn, rfl⟩ := iV_get hi
      have hl : i < ns.length := (List.getElem?_eq_some_iff.mp hn).1
      refine ⟨rfl, ?_⟩
      show tCall spInt [] E0 (tCons (tVar 1) tNil) _ _ _
      refine ⟨_, rfl, n, rfl, fun H2 e2 => ⟨_, e2 _ _ h1, ?_, ?_, ?_⟩⟩
      · rw [List.length_replicate]; exact Nat.lt_of_lt_of_le (show i < 5000 by omega) (by decide)
      · exact Evl.Ex.mut (e1.trans e2) hD
      · rw [upd_same, rep_snoc]
    · rintro H' ⟨e1, h1⟩
      rw [iV_len] at h1
      refine ⟨D, List.replicate ns.length true, rfl, SqL.of (by rw [h1, List.map_replicate]), true, by simp, ?_⟩
      refine if_f rfl ?_
      by_cases h0 : ns = []
      · refine ⟨_, rfl, false, .inl ⟨_, SqL.of (e1 _ _ ha), by rw [h0]; rfl⟩, _, rfl, if_t rfl ?_⟩
        have z := k _ e1
        subst h0
        exact z
      · obtain ⟨x, hx, hx2⟩ := atI_end h0
        refine ⟨_, rfl, true, .inl ⟨_, SqL.of (e1 _ _ ha), by cases ns with | nil => exact absurd rfl h0 | cons _ _ => rfl⟩, _, rfl, if_f rfl ?_⟩
        refine ⟨_, rfl, _, rfl, a, _, _, _, rfl, rfl, SqL.of (e1 _ _ ha), hx2, rfl, ?_⟩
        have e : (!decide (V.int x = V.int 0)) = decide (ns.getLast? ≠ some 0) := by
          have l : ns.getLast? = some x := by
            rw [List.getLast?_eq_getElem?]
            exact hx
          rw [l]
          by_cases z : x = 0
          · simp [z]
          · simp [z]
        show Q (.bl (!decide (V.int x = V.int 0))) H'
        rw [e]
        exact k _ e1
theorem ok_read_polynomialX {f : Addr} {fd fdI : FuncData} (F : Fun K "read_polynomial" "read_polynomial" s_read_polynomial f fd) (mTE : mg "TankError" = some (.ref CT)) (cJ : CalN P w K mg base 3 "read_integer" p_read_integer (spRdI CU)) (cP : Cal P w K mg base 2 "is_polynomial" p_is_polynomial spPolB)
    (TU : EC K CU eI0) (G : EG K eI0) (mE : mg "Unreadable" = some (.ref CU)) (FI : FnOk P w K mg base CX0 1 eI0 fdI ["self", "value"] (spInit K)) (FH : L2H.FnH P w K mg base CX0 1 eI0 fdI ["self", "value"] (spInit K)) (bI : Binds K fdI ["self", "value"] []) (hUT : PySem.W.exmOne K (.ref CU) (.ref CT) = some true) :
    FnOk P w K mg base (L2.CX P w) 4 f fd p_read_polynomial (spRdX CU) := by
  refine F.okX sc_read_polynomial (fun vs H Q E h => ?_) (fun cdv A outer s H vs Q E hr h => ?_)
  · obtain ⟨x, rfl, _⟩ := h
    rfl
  · obtain ⟨x, rfl, lx, k, kx⟩ := h
    have nd := sc_read_polynomial.nd
    have r2 : Room 2 _ := hr.mono (by decide)
    have r3 : Room 3 _ := hr.mono (by decide)
    have szx : x.length + 2 ≤ sizeLine := Nat.le_trans (Nat.add_le_add_right lx 2) (by decide)
    refine ⟨_, pss_cons (ps_if (pt_cmpR op_eq (pv 0) pe_str (nomark _)) (pss_one (ps_ret (pe_lst pa_nil))) pss_nil)
      (pss_cons (L2H.ps_try_onlyX (tb := fun W => tAsg (tLcX W (iList K (tM1 rSpl (tVar 0) (tC (.str " ")))) (gName 2) tYes (fun E' => tCall (spRdI CU) [] E' (tCons (tVar 2) tNil)) [2]) (gName 1))
          (ts := fun _ _ _ _ σ H => tMkO CU (spInit K) [] (tCons (tVar 0) tNil) σ H fun cls d H' => E cls d H') (c := .ref CT) (Wout := fun cls d _ H => E cls d H) rfl rfl ⟨rfl, by decide, .inl mTE⟩ (fun hd => L2H.passesAt_of rfl hd) (takes_of rfl rfl rfl rfl)
          (fun W pn xe tk tk2 po => pss_one (ps_setLcX (Zf := L2N.Zn) (i := 1) (own := [("part", 2)]) (g := gName 2) (tt := tYes) (te := fun E' => tCall (spRdI CU) [] E' (tCons (tVar 2) tNil)) rfl rfl (fun _ _ => L2N.Zn.steady) tk rfl nd rfl rfl (sw_true rfl rfl rfl (by decide +kernel)) (pi_list (pe_split (pv 0) pe_str)) (blkOk_by (N := n_read_polynomial) (sc := defScope s_read_polynomial) (by decide +kernel))
            (fun _ _ _ _ _ => pg_name (i := 2) nd rfl (Or.inl rfl)) (fun _ _ _ _ _ => pts_nil) (fun _ _ _ _ _ E' xe' t => pe_cn cJ r3 t (fun _ _ _ _ h => h) (pa_cons (pv 2) pa_nil))))
          (fun a oe cls d pn hz hv tkS hot => pss_one (L2H.ps_raiseHN hot tkS (L2H.pmk5_oexH (k := 1) TU.ox TU.iC G.tI FH (L2H.roomH_mark r2 _) hot bI pass0 (by rfl) mE (pa_cons (pv 0) pa_nil)))))
      (pss_cons (ps_if (pt_not (pt_val (pe_c cP r2 (pa_cons (pv 1) pa_nil)))) (pss_one (ps_raise rfl (takes_of rfl rfl rfl rfl) (pmk_oex (k := 1) TU.ox TU.iC G.tI FI r2 bI .nil pass0 (by rfl) mE (pa_cons (pv 0) pa_nil)))) pss_nil)
      (pss_one (ps_ret (pv 1))))), ?_⟩
    have bad : ∀ {H1 : Hp}, Evl.Ex H H1 → (∀ ns, ¬ RdP x ns) → [V.str x].length ≤ 1000 ∧ ∀ a, H1 a = none → spInit K (.ref a :: ([V.str x] ++ [])) (upd H1 a (exo a CU none)) (fun v G2 => v = .non ∧ ∃ (d : Addr) (fs : List (Str × V)), G2 a = some (exo a CU (some d)) ∧ G2 d = some (exd d fs) ∧ H1 d = none ∧ E (.ref CU) (some d) (upd (del G2 a) d (.xd fs))) (fun _ _ _ => False) := fun {H1} e1 hb => raise_in TU fun e G' he ee hx => kx hb H1 e1 e G' he ee hx
    refine ⟨_, rfl, rfl, _, rfl, ?_⟩
    by_cases h0 : x = "0"
    · subst h0
      refine if_t (by decide +kernel) ⟨Nat.zero_le _, fun p hp => k [] (.inl ⟨rfl, rfl⟩) p _ hp (Evl.Ex.new hp) upd_same⟩
    have hne : V.str x ≠ V.str "0" := fun h => h0 (by injection h)
    refine if_f (decide_eq_false hne) ?_
    refine ⟨_, rfl, ⟨_, rfl⟩, _, _, rfl, rfl, rfl, szx, fun L hL => ?_⟩
    have e1 := Evl.Ex.new (o := .lst ((pcs x).map V.str)) hL
    have cnt : (pcs x).length ≤ x.length + 1 := split_cnt (by decide)
    refine ⟨L, rfl, ⟨_, SqL.of upd_same⟩, fun D hD => lc_list (xs := (pcs x).map V.str) (fun i H' => Evl.Ex (upd H L (.lst ((pcs x).map V.str))) H' ∧ ∃ ns : List Int, (pcs x).take i = ns.map nT ∧ (∀ n ∈ ns, n.natAbs ≤ 999999999) ∧ H' D = some (.lst (iV ns)))
      ⟨Evl.Ex.new hD, [], rfl, (fun _ h => nomatch h), upd_same⟩ (fun i H' _ q => SqL.of (q.1 _ _ upd_same)) ?_ ?_⟩
    · rintro i v H' hi ⟨e2, ns, hn, hs, hD'⟩
      rw [List.getElem?_map] at hi
      obtain ⟨p, hp, rfl⟩ := Option.map_eq_some_iff.mp hi
      refine ⟨rfl, ?_⟩
      refine ⟨_, rfl, p, rfl, ?_, fun n en sn H2 e3 => ⟨_, e3 _ _ hD', ?_, ?_⟩, fun nb H2 e3 e H3 ne e4 h4 => ?_⟩
      · have := split_mem_le (List.mem_of_getElem? hp)
        omega
      · rw [iV_len]
        have e := congrArg List.length hn
        rw [List.length_map, List.length_take] at e
        exact Nat.lt_of_le_of_lt (show ns.length ≤ 4000 by omega) (by decide)
      · refine ⟨Evl.Ex.mut (e2.trans e3) hD, ns ++ [n], ?_, fun m hm => ?_, ?_⟩
        · rw [List.take_add_one, hp, List.map_append, hn, en]
          rfl
        · rcases List.mem_append.mp hm with h | h
          · exact hs m h
          · rw [List.mem_singleton.mp h]; exact sn
        · rw [upd_same, ← iV_app]; rfl
      · refine ⟨true, hUT, fun _ a0 na => ⟨_, rfl, bad (((e1.trans e2).trans e3).trans e4) fun ms hm => ?_⟩, fun z => nomatch z⟩
        rcases hm with ⟨hx, _⟩ | ⟨hm, sm, _⟩
        · exact h0 hx
        · have hp' : p ∈ ms.map nT := by rw [← hm]; exact List.mem_of_getElem? hp
          obtain ⟨m, hm', rfl⟩ := List.mem_map.mp hp'
          rw [numB_iff.mpr ⟨m, rfl, sm m hm'⟩] at nb
          cases nb
    · rintro H' ⟨e2, ns, hn, hs, hD'⟩
      rw [List.length_map, List.take_length] at hn
      have cn := congrArg List.length hn
      rw [List.length_map] at cn
      refine ⟨_, rfl, D, ns, rfl, hD', by omega, fun H2 e3 => ?_⟩
      by_cases hl : ns.getLast? = some 0
      · refine ⟨_, rfl, if_t (by rw [hl]; rfl) ⟨_, rfl, bad ((e1.trans e2).trans e3) fun ms hm => ?_⟩⟩
        rcases hm with ⟨hx, _⟩ | ⟨hm, sm, hl'⟩
        · exact h0 hx
        · have e : ms = ns := nT_maps (hm.symm.trans hn) sm hs
          rw [e] at hl'
          exact hl' hl
      · refine ⟨_, rfl, if_f (by rw [decide_eq_true hl]; rfl) ?_⟩
        exact ⟨_, rfl, k ns (.inr ⟨hn, hs, hl⟩) D H2 (Evl.fresh_back e1 hD) ((e1.trans e2).trans e3) (e3 _ _ hD')⟩
end
end V2


namespace V2
open PySem L2
open PySem.Spec PyProof.Rows
/-- a != b, two lists one of which is empty -/
def rNe0 (K : PySem.W.Frag) : R2 := fun x y H Q => ∃ (a b : Addr) (xs ys : List V), x = .ref a ∧ y = .ref b ∧ SqL K H a xs ∧ SqL K H b ys ∧ ys = [] ∧ Q (.bl (!decide (xs = []))) H
theorem op_ne0 {X : Cx} (hu : X.A.units + 64 < cLine) : OpR X (compareOp .NotEq) (rNe0 X.K) := by
  intro pins s σ H x y v u Q I rx ry h
  obtain ⟨a, b, xs, ys, rfl, rfl, ha, hb, rfl, q⟩ := h
  cases (show v = Value.ref a from rx)
  cases (show u = Value.ref b from ry)
  obtain ⟨us, r1, p1, _⟩ := I.list ha
  obtain ⟨ws, r2, p2, _⟩ := I.list hb
  cases r2
  cases xs with
  | nil =>
    cases r1
    exact SeqAt.RcNeAt.lists (e := fun _ => true) p1.isList p2.isList rfl (by omega) (fun j h1 _ => absurd h1 (Nat.not_lt_zero _)) _ _ _ _ ⟨.bl _, H, I, rfl, q⟩
  | cons z zs =>
    cases r1
    exact SeqAt.RcNeAt.lists_lengths p1.isList p2.isList rfl (by omega) _ _ _ _ ⟨.bl _, H, I, rfl, q⟩
theorem cut01_tl (x : Str) : TL.tl (cutS x none (some 1)) = (TL.tl x).take 1 := by
  show ((x.cps.toList.drop (HT.sIx x.length 0 none)).take (HT.sIx x.length x.length (some ((1 : Nat) : Int)) - HT.sIx x.length 0 none)) = (TL.tl x).take 1
  rw [HT.sIx_nat, HT.sIx_none]
  have hl : x.length = x.cps.toList.length := by rw [Array.length_toList]; rfl
  show (x.cps.toList.drop 0).take (min 1 x.length - 0) = x.cps.toList.take 1
  rw [List.drop_zero, Nat.sub_zero]
  by_cases h : 1 ≤ x.length
  · rw [Nat.min_eq_left h]
  · have : x.cps.toList = [] := List.eq_nil_of_length_eq_zero (by omega)
    rw [this]; simp
theorem tl_ext {x y : Str} (h : TL.tl x = TL.tl y) : x = y := Str.ext' (Array.toList_inj.mp h)
theorem cut01_is (x : Str) : decide (V.str (cutS x none (some 1)) = V.str "-") = decide ((TL.tl x).head? = some 45) := by
  have l45 : TL.tl ("-" : Str) = [45] := by decide +kernel
  rw [decide_eq_decide]
  constructor
  · intro h
    injection h with h
    have e := cut01_tl x
    rw [h, l45] at e
    cases hx : TL.tl x with
    | nil => rw [hx] at e; cases e
    | cons c r =>
      rw [hx] at e
      simp at e
      rw [← e]; rfl
  · intro h
    congr 1
    apply tl_ext
    rw [cut01_tl, l45]
    cases hx : TL.tl x with
    | nil => rw [hx] at h; cases h
    | cons c r =>
      rw [hx] at h
      simp at h
      rw [h]; rfl
theorem dg_val {x : Str} (h0 : dgs x ≠ []) (h9 : (dgs x).length ≤ 9) (ha : (dgs x).all (fun c => decide (48 ≤ c ∧ c ≤ 57)) = true) : ∃ v : Int, intText? x = some v ∧ v.natAbs ≤ 999999999 := by
  have hd : NumText.AllDigits (dgs x) := fun c hc => of_decide_eq_true (List.all_eq_true.mp ha c hc)
  have hv := val_lt hd
  have hp : 10 ^ (dgs x).length ≤ 10 ^ 9 := Nat.pow_le_pow_right (by decide) h9
  have hv9 : NumText.digitsVal (dgs x) ≤ 999999999 := by
    have e : (10 : Nat) ^ 9 = 1000000000 := by decide
    omega
  by_cases h : (TL.tl x).head? = some 45
  · have ex : x.cps.toList = 45 :: dgs x := by
      unfold dgs
      rw [if_pos h]
      show TL.tl x = _
      cases hx : TL.tl x with
      | nil => rw [hx] at h; cases h
      | cons c r =>
        rw [hx] at h
        simp at h
        rw [h]; rfl
    have lx : x.length ≤ 10 := by
      rw [TL.len_tl]
      show x.cps.toList.length ≤ 10
      rw [ex, List.length_cons]
      omega
    exact ⟨_, PySem.intText_neg ex hd h0 (by omega), by omega⟩
  · have ex : x.cps.toList = dgs x := by
      unfold dgs
      rw [if_neg h]
    have lx : x.length ≤ 10 := by
      rw [TL.len_tl]
      show x.cps.toList.length ≤ 10
      rw [ex]
      omega
    exact ⟨_, PySem.intText_digits (by rw [ex]; exact hd) (by rw [ex]; exact h0) (by omega), by rw [ex]; omega⟩
theorem flt_take {α : Type} {p : α → Bool} {l : List α} {i : Nat} {c : α} (hc : l[i]? = some c) : (l.take (i + 1)).filter p = (l.take i).filter p ++ (if p c = true then [c] else []) := by
  rw [List.take_add_one, hc, List.filter_append]
  congr 1
  cases h : p c <;> simp [h]
def rNotSign : V → V → Hp → VK → Prop := fun x y H Q => ∃ (c : Nat) (z : Str), x = .str ⟨#[c]⟩ ∧ y = .str z ∧ Q (.bl (!decide (c ∈ z.cps.toList))) H
def spNumT : Sp := fun vs H Q _ => ∃ x : Str, vs = [.str x] ∧ x.length ≤ 4000 ∧ Evl.RetV (.bl (NumB x)) H Q
section
variable {base : Heap} {mg : Str → Option Value} {K : PySem.W.Frag} {w : World} {P : Program}
theorem ok_l_is_number {f : Addr} {fd : FuncData} (F : Fun K "_law_is_number" "_law_is_number" s_l_is_number f fd) (mL : mg "len" = none) (mIn : mg "int" = none) (mS : mg "str" = none) : FnOk P w K mg base CX0 1 f fd p_l_is_number spNumT := by
  refine F.ok sc_l_is_number (fun vs H Q E h => ?_) (fun cdv A outer s H vs Q E hr h => ?_)
  · obtain ⟨x, rfl, _⟩ := h
    rfl
  · obtain ⟨x, rfl, lx, k⟩ := h
    have nd := sc_l_is_number.nd
    have szx : x.length ≤ sizeLine := Nat.le_trans lx (by decide)
    refine ⟨_, Evl.pss_cut (ps_set (i := 1) nd rfl (Or.inl rfl) (pe_ifExp (pt_cmpR op_eq (pe_slice sl_str (pv 0) po_none (po_some pe_int)) pe_str (nomark _)) (pe_slice sl_str (pv 0) (po_some pe_int) po_none) (pv 0)))
      (pss_cons (ps_if (PW.pt (pw_or (pt_not (pt_chain op_lt op_lt pe_int (pe_callB call_len_str (by rfl) mL PySem.boot_len (pa_cons (pv 1) pa_nil)) pe_int)) (pw_or1 (pt_cmpR (op_ne0 hr.units) (pe_lc (own := [("sign_now", 2)]) (g := gName 2) (tt := tTest (tOp rNotSign (tVar 2) (tC (.str "0123456789")))) (te := tVar 2) rfl nd (pi_str (pv 1)) (blkOk_by (N := n_l_is_number) (sc := defScope s_l_is_number) (by decide +kernel)) (fun _ _ _ _ _ => pg_name (i := 2) nd rfl (Or.inl rfl)) (fun _ _ _ _ _ => pts_one (pt_cmpR op_notIn_sign (pv 2) pe_str (by rfl))) (fun _ _ _ _ _ => pv 2)) (pe_lst pa_nil) (nomark _))))) (pss_one (ps_ret pe_bl)) pss_nil)
      (pss_one (ps_ret (pe_cmpR op_eq (pe_callTy call_str_int (by rfl) mS (by decide +kernel) (pa_cons (pe_callTy call_int_str (by rfl) mIn (by decide +kernel) (pa_cons (pv 0) pa_nil)) pa_nil)) (pv 0) (nomark _))))), ?_⟩
    refine ⟨fun σ H' => H' = H ∧ ∃ y : Str, σ = [some (.str x), some (.str y), none] ∧ TL.tl y = dgs x, ?_, ?_⟩
    · refine ⟨_, rfl, 1, rfl, x, rfl, szx, rfl, _, rfl, ?_⟩
      rw [cut01_is]
      by_cases h45 : (TL.tl x).head? = some 45
      · refine if_t (decide_eq_true h45) ⟨_, rfl, 1, rfl, x, rfl, szx, rfl, _, rfl, ?_⟩
        rw [cut1_tl]
        unfold dgs
        rw [if_pos h45]
      · refine if_f (decide_eq_false h45) ⟨_, rfl, rfl, x, rfl, ?_⟩
        unfold dgs
        rw [if_neg h45]
    rintro σ H' ⟨rfl, y, rfl, hy⟩
    have ly : y.length = (dgs x).length := by rw [TL.len_tl, hy]
    have lyx : y.length ≤ 4000 := by
      rw [ly]
      have : (dgs x).length ≤ (TL.tl x).length := by
        unfold dgs
        split
        · rw [List.length_drop]; omega
        · exact Nat.le_refl _
      rw [← TL.len_tl] at this
      omega
    have szy : y.length ≤ sizeLine := Nat.le_trans lyx (by decide)
    have hNB : NumB x = (decide (dgs x ≠ []) && decide ((dgs x).length ≤ 9) && (dgs x).all (fun c => decide (48 ≤ c ∧ c ≤ 57)) && (decide ((dgs x).head? ≠ some 48) || decide (TL.tl x = [48]))) := rfl
    have no : ∀ {H2 : Hp}, Evl.Ex H' H2 → NumB x = false → Q (.bl false) H2 := fun {H2} e2 h => by
      have z := k H2 e2
      rw [h] at z
      exact z
    refine ⟨_, rfl, y, rfl, szy, _, _, rfl, rfl, _, rfl, ?_⟩
    by_cases h0 : dgs x = []
    · refine if_f (decide_eq_false (by rw [ly, h0]; decide)) ⟨_, rfl, if_t rfl (if_t rfl (no (Evl.Ex.refl _) ?_))⟩
      rw [hNB, decide_eq_false (fun h => h h0)]; rfl
    have y0 : 0 < y.length := by
      rw [ly]; exact List.length_pos_iff.mpr h0
    refine if_t (decide_eq_true (by omega)) ⟨_, _, rfl, rfl, _, rfl, ?_⟩
    by_cases h9 : ¬ (dgs x).length ≤ 9
    · rw [decide_eq_false (show ¬ (y.length : Int) < 10 by omega)]
      refine if_t rfl (if_t rfl (no (Evl.Ex.refl _) ?_))
      rw [hNB, decide_eq_false h9, Bool.and_false]; rfl
    have h9 := Decidable.not_not.mp h9
    rw [decide_eq_true (show (y.length : Int) < 10 by omega)]
    refine if_f rfl ⟨_, rfl, y, rfl, fun D hD => lc_str (fun i H2 => Evl.Ex H' H2 ∧ H2 D = some (.lst ((((dgs x).take i).filter fun c => !decide (48 ≤ c ∧ c ≤ 57)).map fun c => V.str ⟨#[c]⟩))) ⟨Evl.Ex.new hD, upd_same⟩ ?_ ?_⟩
    · rintro i c H2 hc ⟨e2, g2⟩
      rw [hy] at hc
      refine ⟨rfl, ?_⟩
      show tTest (tOp rNotSign (tVar 2) (tC (.str "0123456789"))) _ _ _
      refine ⟨_, rfl, c, _, rfl, rfl, _, rfl, ?_⟩
      rw [dig10]
      have tk := flt_take (p := fun c => !decide (48 ≤ c ∧ c ≤ 57)) hc
      by_cases hq : (48 ≤ c ∧ c ≤ 57)
      · rw [decide_eq_true hq] at tk ⊢
        refine if_f rfl ⟨e2, ?_⟩
        rw [g2, tk, if_neg (by decide), List.append_nil]
      · rw [decide_eq_false hq] at tk ⊢
        refine if_t rfl ⟨_, rfl, _, g2, ?_, Evl.Ex.mut e2 hD, ?_⟩
        · rw [List.length_map]
          exact Nat.lt_of_le_of_lt (Nat.le_trans (List.length_filter_le _ _) (by rw [List.length_take]; show min i (dgs x).length ≤ 9; omega)) (by decide)
        · rw [upd_same, tk, if_pos (by decide), List.map_append]
          rfl
    rintro H2 ⟨e2, g2⟩
    rw [hy, List.take_length] at g2
    have n0 : decide (dgs x ≠ []) = true := decide_eq_true h0
    have n9 : decide ((dgs x).length ≤ 9) = true := decide_eq_true h9
    refine ⟨Nat.zero_le _, fun p hp => ⟨D, p, _, [], rfl, rfl, SqL.of (by rw [upd_ne (ne_of_none g2 hp)]; exact g2), SqL.of upd_same, rfl, _, rfl, ?_⟩⟩
    have e3 := e2.trans (Evl.Ex.new (o := .lst []) hp)
    by_cases ha : (dgs x).all (fun c => decide (48 ≤ c ∧ c ≤ 57)) = true
    · have hf : (dgs x).filter (fun c => !decide (48 ≤ c ∧ c ≤ 57)) = [] := by
        rw [List.filter_eq_nil_iff]
        intro c hc
        rw [List.all_eq_true.mp ha c hc]
        decide
      rw [hf]
      obtain ⟨v, hv, hv9⟩ := dg_val h0 h9 ha
      have lx640 : x.length ≤ 640 := by
        have : (TL.tl x).length ≤ (dgs x).length + 1 := by
          unfold dgs
          split
          · rw [List.length_drop]; omega
          · omega
        rw [TL.len_tl]
        omega
      refine if_f rfl ⟨_, rfl, x, v, rfl, hv, lx640, v, rfl, log_sm hv9, _, rfl, rfl, ?_⟩
      have e : decide (V.str (Str.ofString (toString v)) = V.str x) = NumB x := by
        by_cases hb : NumB x = true
        · obtain ⟨n, rfl, hn⟩ := numB_iff.mp hb
          rw [nT_reads hn] at hv
          cases hv
          rw [hb]
          exact decide_eq_true rfl
        · rw [Bool.eq_false_iff.mpr hb]
          exact decide_eq_false fun h => by
            injection h with h
            exact hb (numB_iff.mpr ⟨v, h.symm, hv9⟩)
      rw [e]
      exact k _ e3
    · have hf : (dgs x).filter (fun c => !decide (48 ≤ c ∧ c ≤ 57)) ≠ [] := fun hf => by
        rw [List.filter_eq_nil_iff] at hf
        refine ha (List.all_eq_true.mpr fun c hc => ?_)
        have := hf c hc
        simpa using this
      refine if_t ?_ (no e3 ?_)
      · rw [decide_eq_false (fun h => hf (List.map_eq_nil_iff.mp h))]
        rfl
      · rw [hNB, Bool.eq_false_iff.mpr ha, Bool.and_false]; rfl
end
end V2


namespace V2
open PySem L2
open PySem.Spec PyProof.Rows
/-- the law's own reading -/
def RetP (x : Str) (H : Hp) (Q : VK) : Prop := (∀ ns, RdP x ns → ∀ (p q : Addr) (H' : Hp), H p = none → Evl.Ex H H' → H' p = some (.lst [.ref q]) → H' q = some (.lst (iV ns)) → Q (.ref p) H') ∧ ((∀ ns, ¬ RdP x ns) → Evl.RetL [] H Q)
def spPolT : Sp := fun vs H Q _ => ∃ x : Str, vs = [.str x] ∧ x.length ≤ 3900 ∧ RetP x H Q
theorem numB_all : ∀ {ps : List Str}, (∀ p ∈ ps, NumB p = true) → ∃ ns : List Int, ps = ns.map nT ∧ ∀ n ∈ ns, n.natAbs ≤ 999999999
  | [], _ => ⟨[], rfl, fun _ h => nomatch h⟩
  | p :: ps, h => by
    obtain ⟨ns, e, b⟩ := numB_all (ps := ps) fun q hq => h q (List.mem_cons_of_mem _ hq)
    obtain ⟨n, en, bn⟩ := numB_iff.mp (h p List.mem_cons_self)
    refine ⟨n :: ns, by rw [List.map_cons, en, e], fun m hm => ?_⟩
    rcases List.mem_cons.mp hm with rfl | hm
    · exact bn
    · exact b m hm
theorem rdP_num {x : Str} {ns : List Int} (h : RdP x ns) : ∀ p ∈ pcs x, NumB p = true := fun p hp => by
  rcases h with ⟨rfl, _⟩ | ⟨h, hs, _⟩
  · have e : pcs ("0" : Str) = [("0" : Str)] := by decide +kernel
    rw [e] at hp
    rw [List.mem_singleton.mp hp]
    decide +kernel
  · rw [h] at hp
    obtain ⟨n, hn, rfl⟩ := List.mem_map.mp hp
    exact numB_iff.mpr ⟨n, rfl, hs n hn⟩
section
variable {base : Heap} {mg : Str → Option Value} {K : PySem.W.Frag} {w : World} {P : Program}
theorem ok_l_polynomial_of {f : Addr} {fd : FuncData} (F : Fun K "_law_polynomial_of" "_law_polynomial_of" s_l_polynomial_of f fd) (mIn : mg "int" = none) (cN : Cal P w K mg base 1 "_law_is_number" p_l_is_number spNumT) : FnOk P w K mg base CX0 2 f fd p_l_polynomial_of spPolT := by
  refine F.ok sc_l_polynomial_of (fun vs H Q E h => ?_) (fun cdv A outer s H vs Q E hr h => ?_)
  · obtain ⟨x, rfl, _⟩ := h
    rfl
  · obtain ⟨x, rfl, lx, k, kx⟩ := h
    have nd := sc_l_polynomial_of.nd
    have r1 : Room 1 _ := hr.mono (by decide)
    have szx : x.length + 2 ≤ sizeLine := Nat.le_trans (Nat.add_le_add_right lx 2) (by decide)
    refine ⟨_, pss_cons (ps_set (i := 1) nd rfl (Or.inl rfl) (pe_split (pv 0) pe_str))
      (Evl.pss_cut (ps_if (pt_cmpR (op_ne0 hr.units) (pe_lc (own := [("piece", 2)]) (g := gName 2) (tt := tNot (tB (tCall spNumT [] E0 (tCons (tVar 2) tNil)))) (te := tVar 2) rfl nd (pi_list (pv 1)) (blkOk_by (N := n_l_polynomial_of) (sc := defScope s_l_polynomial_of) (by decide +kernel)) (fun _ _ _ _ _ => pg_name (i := 2) nd rfl (Or.inl rfl)) (fun _ _ _ _ _ => pts_one (pt_not (pt_val (pe_c cN r1 (pa_cons (pv 2) pa_nil))))) (fun _ _ _ _ _ => pv 2)) (pe_lst pa_nil) (nomark _)) (pss_one (ps_ret (pe_lst pa_nil))) pss_nil)
      (pss_cons (ps_if (pt_cmpR op_eq (pv 0) pe_str (nomark _)) (pss_one (ps_ret (pe_lst (pa_cons (pe_lst pa_nil) pa_nil)))) pss_nil)
      (pss_one (ps_ret (pe_ifExp (pt_cmpR op_eq (pe_ix ix_list (pv 1) (pe_un un_neg pe_int) (fun _ _ => rfl)) pe_str (nomark _)) (pe_lst pa_nil) (pe_lst (pa_cons (pe_lc (own := [("piece", 2)]) (g := gName 2) (tt := tYes) (te := tCB (fun xs H Q => ∃ a n, xs = [V.str a] ∧ intText? a = some n ∧ a.length ≤ 640 ∧ Q (V.int n) H) (tCons (tVar 2) tNil)) rfl nd (pi_list (pv 1)) (blkOk_by (N := n_l_polynomial_of) (sc := defScope s_l_polynomial_of) (by decide +kernel)) (fun _ _ _ _ _ => pg_name (i := 2) nd rfl (Or.inl rfl)) (fun _ _ _ _ _ => pts_nil) (fun _ _ _ _ _ => (pe_callTy call_int_str (by rfl) mIn (by decide +kernel) (pa_cons (pv 2) pa_nil)))) pa_nil))))))), ?_⟩
    have cnt : (pcs x).length ≤ x.length + 1 := split_cnt (by decide)
    refine ⟨_, rfl, ⟨_, rfl⟩, _, _, rfl, rfl, rfl, szx, fun L hL => ?_⟩
    have e0 := Evl.Ex.new (o := .lst ((pcs x).map V.str)) hL
    have gL : (upd H L (.lst ((pcs x).map V.str))) L = some (.lst ((pcs x).map V.str)) := upd_same
    rw [show Txt.split x " " = pcs x from rfl]
    generalize upd H L (.lst ((pcs x).map V.str)) = H1 at e0 gL ⊢
    refine ⟨fun σ H' => σ = [some (.str x), some (.ref L), none] ∧ Evl.Ex H1 H' ∧ ∀ p ∈ pcs x, NumB p = true, ?_, ?_⟩
    · refine ⟨_, rfl, L, rfl, ⟨_, SqL.of gL⟩, fun D hD => lc_list (xs := (pcs x).map V.str) (fun i H' => Evl.Ex H1 H' ∧ H' D = some (.lst ((((pcs x).take i).filter fun p => !NumB p).map V.str)))
        ⟨Evl.Ex.new hD, upd_same⟩ (fun i H' _ q => SqL.of (q.1 _ _ gL)) ?_ ?_⟩
      · rintro i v H' hi ⟨e2, g2⟩
        rw [List.getElem?_map] at hi
        obtain ⟨p, hp, rfl⟩ := Option.map_eq_some_iff.mp hi
        refine ⟨rfl, ⟨_, rfl, p, rfl, ?_, fun H2 e3 => ⟨_, rfl, ?_⟩⟩⟩
        · have := split_mem_le (List.mem_of_getElem? hp)
          omega
        have tk := flt_take (p := fun p => !NumB p) hp
        have g3 := e3 _ _ g2
        cases hb : NumB p with
        | true =>
          refine if_f rfl ⟨e2.trans e3, ?_⟩
          rw [g3, tk, if_neg (by rw [hb]; decide), List.append_nil]
        | false =>
          refine if_t rfl ⟨_, rfl, _, g3, ?_, Evl.Ex.mut (e2.trans e3) hD, ?_⟩
          · rw [List.length_map]
            refine Nat.lt_of_le_of_lt (m := 4000) (Nat.le_trans (List.length_filter_le _ _) ?_) (by decide)
            rw [List.length_take]
            omega
          · rw [upd_same, tk, if_pos (by rw [hb]; rfl), List.map_append]
            rfl
      · rintro H' ⟨e2, g2⟩
        rw [List.length_map, List.take_length] at g2
        refine ⟨Nat.zero_le _, fun p hp => ⟨D, p, _, [], rfl, rfl, SqL.of (by rw [upd_ne (ne_of_none g2 hp)]; exact g2), SqL.of upd_same, rfl, _, rfl, ?_⟩⟩
        have e3 := e2.trans (Evl.Ex.new (o := .lst []) hp)
        by_cases hf : (pcs x).filter (fun p => !NumB p) = []
        · rw [hf]
          refine if_f rfl ⟨rfl, e3, fun p hp => ?_⟩
          rw [List.filter_eq_nil_iff] at hf
          have := hf p hp
          simpa using this
        · refine if_t ?_ ?_
          · rw [decide_eq_false (fun h => hf (List.map_eq_nil_iff.mp h))]
            rfl
          · refine ⟨Nat.zero_le _, fun q hq => kx (fun ns hr => ?_) q _ (Evl.fresh_back (e0.trans e3) hq) ((e0.trans e3).trans (Evl.Ex.new hq)) upd_same⟩
            refine hf (List.filter_eq_nil_iff.mpr fun p hp => ?_)
            rw [rdP_num hr p hp]
            decide
    rintro σ H' ⟨rfl, e1, hall⟩
    obtain ⟨ns, hn, hs⟩ := numB_all hall
    have cn := congrArg List.length hn
    rw [List.length_map] at cn
    have ns0 : ns ≠ [] := fun h => pcs_ne x (by rw [hn, h]; rfl)
    refine ⟨_, rfl, rfl, _, rfl, ?_⟩
    by_cases h0 : x = "0"
    · subst h0
      refine if_t (by decide +kernel) ⟨Nat.zero_le _, fun q hq => ⟨by show 1 ≤ _; decide, fun p hp => k [] (.inl ⟨rfl, rfl⟩) p q _ ?_ ?_ upd_same ?_⟩⟩
      · exact Evl.fresh_back ((e0.trans e1).trans (Evl.Ex.new hq)) hp
      · exact ((e0.trans e1).trans (Evl.Ex.new hq)).trans (Evl.Ex.new hp)
      · rw [upd_ne (ne_of_none upd_same hp)]
        exact upd_same
    have hne : V.str x ≠ V.str "0" := fun h => h0 (by injection h)
    refine if_f (decide_eq_false hne) ?_
    obtain ⟨z, hz⟩ : ∃ z, ns.getLast? = some z := ⟨_, List.getLast?_eq_some_getLast ns0⟩
    have at1 : atI ((pcs x).map V.str) (-1) = some (.str (nT z)) := by
      have e := List.dropLast_concat_getLast ns0
      have ez : ns.getLast ns0 = z := by
        rw [List.getLast?_eq_some_getLast ns0] at hz
        injection hz
      rw [ez] at e
      rw [hn, ← e, List.map_append, List.map_append]
      exact atI_last _ _
    refine ⟨_, rfl, _, rfl, L, _, _, _, rfl, rfl, SqL.of (e1 _ _ gL), at1, rfl, _, rfl, ?_⟩
    by_cases hz0 : z = 0
    · subst hz0
      refine if_t (by decide +kernel) ⟨Nat.zero_le _, fun q hq => kx (fun ms hr => ?_) q _ (Evl.fresh_back (e0.trans e1) hq) ((e0.trans e1).trans (Evl.Ex.new hq)) upd_same⟩
      rcases hr with ⟨hx, _⟩ | ⟨hm, sm, hl⟩
      · exact h0 hx
      · have e : ms = ns := nT_maps (hm.symm.trans hn) sm hs
        rw [e] at hl
        exact hl hz
    · have hl : ns.getLast? ≠ some 0 := fun h => hz0 (by rw [hz] at h; injection h)
      have zs : z.natAbs ≤ 999999999 := hs z (List.mem_of_getLast? hz)
      refine if_f (decide_eq_false fun h => ?_) ?_
      · injection h with h
        exact hz0 (nT_inj (n := 0) h zs (by decide))
      refine ⟨_, rfl, L, rfl, ⟨_, SqL.of (e1 _ _ gL)⟩, fun D hD => lc_list (xs := (pcs x).map V.str) (fun i H2 => Evl.Ex H' H2 ∧ H2 D = some (.lst (iV (ns.take i)))) ⟨Evl.Ex.new hD, upd_same⟩ (fun i H2 _ q => SqL.of (q.1 _ _ (e1 _ _ gL))) ?_ ?_⟩
      · rintro i v H2 hi ⟨e2, g2⟩
        rw [hn, List.map_map, List.getElem?_map] at hi
        obtain ⟨n, hn', rfl⟩ := Option.map_eq_some_iff.mp hi
        have bn := hs n (List.mem_of_getElem? hn')
        refine ⟨rfl, ?_⟩
        refine ⟨_, rfl, nT n, n, rfl, nT_reads bn, Nat.le_trans (nT_len bn) (by decide), _, g2, ?_, Evl.Ex.mut e2 hD, ?_⟩
        · rw [iV_len]
          refine Nat.lt_of_le_of_lt (m := 4000) ?_ (by decide)
          rw [List.length_take]
          omega
        · rw [upd_same, List.take_add_one, hn', ← iV_app]
          rfl
      · rintro H2 ⟨e2, g2⟩
        rw [List.length_map, cn, List.take_length] at g2
        refine ⟨by show 1 ≤ _; decide, fun p hp => k ns (.inr ⟨hn, hs, hl⟩) p D _ (Evl.fresh_back ((e0.trans e1).trans e2) hp) (((e0.trans e1).trans e2).trans (Evl.Ex.new hp)) upd_same ?_⟩
        rw [upd_ne (ne_of_none g2 hp)]
        exact g2
end
end V2


namespace V2
open PySem L2
open PySem.Spec PyProof.Rows
section
variable {base : Heap} {mg : Str → Option Value} {K : PySem.W.Frag} {w : World} {P : Program}
theorem ok_coinL {f : Addr} {fd : FuncData} (F : Fun K "_law_coin" "_law_coin" s_l_coin f fd) (T : T0 mg) : FnOk P w K mg base CX0 1 f fd p_l_coin spCoin := by
  refine F.ok sc_l_coin (fun vs H Q E h => ?_) (fun cdv A outer s H vs Q E hr h => ?_)
  · obtain ⟨p, many, m, rfl, _⟩ := h
    rfl
  · obtain ⟨p, many, m, rfl, ⟨a, b, c, hp, ha, hb, hb2, hc, hc2⟩, hm, h0, h200, k⟩ := h
    have nd := sc_l_coin.nd
    refine ⟨_, pss_cons (ps_if (pt_cmpR op_gt (pe_ix ix_list (pv 0) pe_int (fun _ _ => rfl)) pe_int (nomark _))
        (pss_cons (ps_set (i := 2) nd rfl (Or.inl rfl) (pe_op op_mod (pe_callTy call_int1 (by rfl) T.int (by decide +kernel) (pa_cons (pe_ix ix_list (pv 0) pe_int (fun _ _ => rfl)) pa_nil)) (pv 1)))
        (pss_cons (ps_asg (pe_op op_fdivW (pe_ix ix_list (pv 0) pe_int (fun _ _ => rfl)) (pv 1)) (pg_sub (pv 0) pe_int set_list))
        (pss_one (ps_ret (pv 2))))) pss_nil)
      (pss_cons (ps_asg (pe_op op_add (pe_ix ix_list (pv 0) pe_int (fun _ _ => rfl)) pe_int) (pg_sub (pv 0) pe_int set_list))
      (pss_cons (ps_set (i := 3) nd rfl (Or.inl rfl) (pe_op op_mod (pe_op op_powX (pe_callTy call_int1 (by rfl) T.int (by decide +kernel) (pa_cons (pe_op op_add (pe_ix ix_list (pv 0) pe_int (fun _ _ => rfl)) (pe_op op_mul pe_int (pe_ix ix_list (pv 0) pe_int (fun _ _ => rfl)))) pa_nil)) pe_int) (pe_op op_add (pe_op op_powX pe_int pe_int) pe_int)))
      (pss_cons (ps_set (i := 3) nd rfl (Or.inl rfl) (pe_op op_mod (pe_op op_powX (pe_callTy call_int1 (by rfl) T.int (by decide +kernel) (pa_cons (pe_op op_add (pv 3) (pe_op op_mul pe_int (pe_ix ix_list (pv 0) pe_int (fun _ _ => rfl)))) pa_nil)) pe_int) (pe_op op_add (pe_op op_powX pe_int pe_int) pe_int)))
      (pss_one (ps_ret (pe_op op_mod (pe_callTy call_int1 (by rfl) T.int (by decide +kernel) (pa_cons (pe_op op_fdivW (pv 3) pe_int) pa_nil)) (pv 1))))))), ?_⟩
    refine ⟨_, rfl, p, _, _, _, rfl, rfl, SqL.of hp, at0, _, _, rfl, rfl, _, rfl, ?_⟩
    refine ite2 (fun q => ?_) (fun _ => ?_)
    · have q0 : 0 < a := by simpa using q
      refine ⟨_, rfl, p, _, _, _, rfl, rfl, SqL.of hp, at0, .inl ⟨_, rfl, _, rfl, _, _, rfl, rfl, h0, ?_⟩⟩
      refine ⟨_, rfl, p, _, _, _, rfl, rfl, SqL.of hp, at0, _, rfl, _, _, rfl, rfl, wide_div h0 h200 (by decide) (by decide), _, rfl, p, _, 0, 0, rfl, rfl, hp, ixN3 0 (by decide), ?_⟩
      refine ⟨_, rfl, k _ _ (Int.emod_nonneg _ (by omega)) (Int.emod_lt_of_pos _ h0) But.upd ⟨a / many, b, c, upd_same, Int.ediv_nonneg ha (by omega), hb, hb2, hc, by omega⟩ (fun q hq => ?_)⟩
      rw [upd_ne (fun z => by rw [z, hp] at hq; cases hq)]; exact hq
    · have e24 : ((10 : Int) ^ (24 : Int).toNat + 7) = 1000000000000000000000007 := by decide
      have e25 : ((10 : Int) ^ (25 : Int).toNat + 13) = 10000000000000000000000013 := by decide
      have p80 : (2 : Int) ^ 80 = 1208925819614629174706176 := by decide
      have n82 : (2 : Nat) ^ 82 = 4835703278458516698824704 := by decide
      have n85 : (2 : Nat) ^ 85 = 38685626227668133590597632 := by decide
      rw [p80] at hb2
      have w1 : CPowX (b + 2038074743 * (c + 1)) 3 := pow_ok (k := 82) (n := 3) (by rw [n82]; omega) (by decide)
      have w25 : CPowX 10 25 := pow_ok (k := 4) (n := 25) (by decide) (by decide)
      have w24 : CPowX 10 24 := pow_ok (k := 4) (n := 24) (by decide) (by decide)
      have hp2 : upd H p (.lst [.int a, .int b, .int (c + 1)]) p = some (.lst [.int a, .int b, .int (c + 1)]) := upd_same
      refine ⟨_, rfl, p, _, _, _, rfl, rfl, SqL.of hp, at2, _, _, rfl, rfl, _, rfl, p, _, 2, 2, rfl, rfl, hp, ixN3 2 (by decide), ?_⟩
      refine ⟨_, rfl, p, _, _, _, rfl, rfl, SqL.of hp2, at1, _, rfl, p, _, _, _, rfl, rfl, SqL.of hp2, at2, _, _, rfl, rfl, .inl ⟨by decide, by decide⟩, _, _, rfl, rfl, .inl ⟨_, rfl, ?_⟩⟩
      have g25 : (0 : Int) < 10 ^ (25 : Int).toNat + 13 := by rw [e25]; decide
      have g24 : (0 : Int) < 10 ^ (24 : Int).toNat + 7 := by rw [e24]; decide
      refine ⟨_, 3, rfl, rfl, w1, 10, 25, rfl, rfl, w25, _, 13, rfl, rfl, _, _, rfl, rfl, g25, ?_⟩
      have x0 : 0 ≤ (b + 2038074743 * (c + 1)) ^ (3 : Int).toNat % (10 ^ (25 : Int).toNat + 13) := Int.emod_nonneg _ (by omega)
      have x1 : (b + 2038074743 * (c + 1)) ^ (3 : Int).toNat % (10 ^ (25 : Int).toNat + 13) < 10000000000000000000000013 := by rw [← e25]; exact Int.emod_lt_of_pos _ g25
      have w2 : CPowX ((b + 2038074743 * (c + 1)) ^ (3 : Int).toNat % (10 ^ (25 : Int).toNat + 13) + 982451653 * (c + 1)) 2 := pow_ok (k := 85) (n := 2) (by rw [n85]; omega) (by decide)
      refine ⟨_, rfl, _, rfl, p, _, _, _, rfl, rfl, SqL.of hp2, at2, _, _, rfl, rfl, .inl ⟨by decide, by decide⟩, _, _, rfl, rfl, .inl ⟨_, rfl, ?_⟩⟩
      refine ⟨_, 2, rfl, rfl, w2, 10, 24, rfl, rfl, w24, _, 7, rfl, rfl, _, _, rfl, rfl, g24, ?_⟩
      refine ⟨_, rfl, _, 1024, rfl, rfl, wide_div (b := 11) (by decide) (by decide) (by decide) (by decide), .inl ⟨_, rfl, _, rfl, _, _, rfl, rfl, h0, ?_⟩⟩
      refine k _ _ (Int.emod_nonneg _ (by omega)) (Int.emod_lt_of_pos _ h0) But.upd ⟨a, b, c + 1, hp2, ha, hb, by rw [p80]; exact hb2, by omega, by omega⟩ (fun q hq => ?_)
      rw [upd_ne (fun z => by rw [z, hp] at hq; cases hq)]; exact hq
theorem ok_purse {f : Addr} {fd : FuncData} (F : Fun K "_law_purse" "_law_purse" s_l_purse f fd) (T : T0 mg) : FnOk P w K mg base CX0 1 f fd p_l_purse (spSack K) := by
  refine F.ok sc_l_purse (fun vs H Q E h => ?_) (fun cdv A outer s H vs Q E hr h => ?_)
  · obtain ⟨a, ns, r, rfl, _⟩ := h
    rfl
  · obtain ⟨a, ns, r, rfl, hS, hl, hr63, k⟩ := h
    have nd := sc_l_purse.nd
    refine ⟨_, pss_cons (ps_set (i := 2) nd rfl (Or.inl rfl) (pe_ifExp (pt_cmpR op_lt (pv 1) (pe_callB call_len_seq (by rfl) T.len PySem.boot_len (pa_cons (pv 0) pa_nil)) (nomark _)) (pe_ix ix_list (pv 0) (pv 1) (fun _ _ => rfl)) pe_int))
      (pss_one (ps_ret (pe_lst (pa_cons (pe_callB (call_max2 rfl) (by rfl) T.max (by decide +kernel) (pa_cons pe_int (pa_cons (pe_op op_sub (pe_callB call_abs (by rfl) T.abs (by decide +kernel) (pa_cons (pv 2) pa_nil)) (pe_op op_powX pe_int pe_int)) pa_nil)))
        (pa_cons (pe_op op_mod (pe_callTy call_int1 (by rfl) T.int (by decide +kernel) (pa_cons (pe_op op_add (pe_op op_add (pe_op op_mul (pv 2) pe_int) (pe_op op_mul (pv 1) pe_int)) pe_int) pa_nil)) (pe_op op_add (pe_op op_powX pe_int pe_int) pe_int))
        (pa_cons pe_int pa_nil)))))), ?_⟩
    have w18 : CPowX 10 18 := pow_ok (k := 4) (n := 18) (by decide) (by decide)
    have w24 : CPowX 10 24 := pow_ok (k := 4) (n := 24) (by decide) (by decide)
    have e24 : ((10 : Int) ^ (24 : Int).toNat + 7) = 1000000000000000000000007 := by decide
    have g24 : (0 : Int) < 10 ^ (24 : Int).toNat + 7 := by rw [e24]; decide
    have p80 : (2 : Int) ^ 80 = 1208925819614629174706176 := by decide
    (refine ⟨_, rfl, _, rfl, a, _, rfl, .inl hS, _, _, rfl, rfl, _, rfl, ?_⟩)
    refine ite2 (fun q => ?_) (fun _ => ?_)
    · have q2 : r < ns.length := by
        have q1 := of_decide_eq_true q
        rw [iV_len] at q1
        omega
      refine ⟨_, rfl, _, rfl, a, _, _, _, rfl, rfl, hS, atI_nat (iV_at (List.getElem?_eq_getElem q2)), ?_⟩
      refine ⟨_, rfl, _, rfl, 10, 18, rfl, rfl, w18, _, _, rfl, rfl, _, _, rfl, ?_⟩
      refine ⟨_, rfl, _, 30011, rfl, rfl, .inr ⟨by decide, by decide⟩, _, rfl, _, 7368787, rfl, rfl, .inr ⟨by decide, by decide⟩, _, _, rfl, rfl, _, _, rfl, rfl, .inl ⟨_, rfl, ?_⟩⟩
      refine ⟨10, 24, rfl, rfl, w24, _, 7, rfl, rfl, _, _, rfl, rfl, g24, ?_⟩
      refine ⟨by show 3 ≤ sizeLine; decide, fun q hq => ?_⟩
      refine k q _ hq (Evl.Ex.new hq) ⟨_, _, _, upd_same, ?_, Int.emod_nonneg _ (by omega), Int.lt_trans (Int.emod_lt_of_pos _ g24) (by rw [e24, p80]; decide), Int.le_refl _, Int.le_refl _⟩
      split <;> omega
    · refine ⟨_, rfl, _, rfl, 10, 18, rfl, rfl, w18, _, _, rfl, rfl, _, _, rfl, ?_⟩
      refine ⟨_, rfl, _, 30011, rfl, rfl, .inr ⟨by decide, by decide⟩, _, rfl, _, 7368787, rfl, rfl, .inr ⟨by decide, by decide⟩, _, _, rfl, rfl, _, _, rfl, rfl, .inl ⟨_, rfl, ?_⟩⟩
      refine ⟨10, 24, rfl, rfl, w24, _, 7, rfl, rfl, _, _, rfl, rfl, g24, ?_⟩
      refine ⟨by show 3 ≤ sizeLine; decide, fun q hq => ?_⟩
      refine k q _ hq (Evl.Ex.new hq) ⟨_, _, _, upd_same, ?_, Int.emod_nonneg _ (by omega), Int.lt_trans (Int.emod_lt_of_pos _ g24) (by rw [e24, p80]; decide), Int.le_refl _, Int.le_refl _⟩
      split <;> omega
end
end V2


namespace V2
open PySem L2
open PySem.Spec PyProof.Rows
theorem CsAt.set {H H' : Hp} {l q : Addr} {ns : List Int} {z : Int} {j : Nat} (h : CsAt H l ns) (ql : q ≠ l) (hq : Li H q (cp z)) (he : ∀ c o, c ≠ l → H c = some o → H' c = some o) (hl : ∀ xs : List V, H l = some (.lst xs) → H' l = some (.lst (xs.set j (.ref q)))) : CsAt H' l (ns.set j z) := by
  obtain ⟨as, h1, h2, h3⟩ := h
  refine ⟨as.set j q, by rw [hl _ h1, List.map_set], by rw [List.length_set, List.length_set, h2], fun i a n ha hn => ?_⟩
  rw [List.getElem?_set] at ha hn
  split at ha
  · rename_i c
    rw [if_pos c] at hn
    split at ha
    · split at hn
      · cases ha
        cases hn
        exact he _ _ ql hq
      · cases hn
    · cases ha
  · rename_i c
    rw [if_neg c] at hn
    have := h3 i a n ha hn
    exact he _ _ (cs_ne h1 ha this) this
/-- the state of the other law: what stands in the tanks, by a number, and the widths -/
def LSt (H : Hp) (t lw : Addr) (A : List Int) (W : Int) : Prop := ∃ lt lf, H t = some (.tup [.ref lt, .ref lf, .ref lw]) ∧ CsAt H lt A ∧ Li H lf (cp W)
theorem LSt.ex {H H' : Hp} {t lw : Addr} {A : List Int} {W : Int} (h : LSt H t lw A W) (e : Evl.Ex H H') : LSt H' t lw A W := by
  obtain ⟨lt, lf, h1, h2, h3⟩ := h
  exact ⟨lt, lf, e _ _ h1, h2.ex e, e _ _ h3⟩
section
variable {base : Heap} {mg : Str → Option Value} {K : PySem.W.Frag} {w : World} {P : Program}
end
end V2


namespace V2
open PySem L2
open PySem.Spec PyProof.Rows
/-- a list of new objects, being built -/
def ObN {β : Type} (g : β → HO) (H : Hp) (D : Addr) (fs : List β) (i : Nat) : Prop := ∃ as : List Addr, H D = some (.lst (as.map V.ref)) ∧ as.length = i ∧ ∀ (j : Nat) (a : Addr) (f : β), as[j]? = some a → fs[j]? = some f → a ≠ D ∧ H a = some (g f)
theorem ObN.start {β : Type} {g : β → HO} {H : Hp} {D : Addr} {fs : List β} (h : H D = some (.lst [])) : ObN g H D fs 0 := ⟨[], h, rfl, fun j a n h => by cases h⟩
theorem ObN.ne {β : Type} {g : β → HO} {H : Hp} {D r : Addr} {fs : List β} {i : Nat} (h : ObN g H D fs i) (hr : H r = none) : r ≠ D := fun z => by
  obtain ⟨as, q, _⟩ := h
  rw [z, q] at hr
  cases hr
def stW (t : Tk) : List Int := match t.1 with
  | none => [0, 1]
  | some z => [z]
def StWs (H : Hp) (l : Addr) (ts : List Tk) : Prop := ∃ as : List Addr, H l = some (.lst (as.map V.ref)) ∧ as.length = ts.length ∧ ∀ (j : Nat) (a : Addr) (t : Tk), as[j]? = some a → ts[j]? = some t → H a = some (.lst (iV (stW t)))
theorem StWs.ex {H H' : Hp} {l : Addr} {ts : List Tk} (h : StWs H l ts) (e : Evl.Ex H H') : StWs H' l ts := by
  obtain ⟨as, h1, h2, h3⟩ := h
  exact ⟨as, e _ _ h1, h2, fun i a t x y => e _ _ (h3 i a t x y)⟩
theorem EndsAt.uniq {ts : List Tk} {ds : List Deed} {u b : Int} {n m : Nat} {e f : V} (h : EndsAt ts ds u b n e) (k : EndsAt ts ds u b m f) : n = m ∧ e = f := by
  have one : ∀ {n m : Nat} {e f : V}, EndsAt ts ds u b n e → EndsAt ts ds u b m f → ¬ n < m := fun {n m e f} h k hn => by
    have hm := k.le
    rcases h.at_ with ⟨h1, _⟩ | ⟨d, h1, h2, _⟩
    · omega
    · rw [k.no n d hn h1] at h2
      cases h2
  have e1 : n = m := by
    have := one h k
    have := one k h
    omega
  subst e1
  refine ⟨rfl, ?_⟩
  rcases h.at_ with ⟨h1, h2⟩ | ⟨d, h1, h2, h3⟩
  · rcases k.at_ with ⟨k1, k2⟩ | ⟨d', k1, k2, k3⟩
    · rw [h2, k2]
    · have := (List.getElem?_eq_some_iff.mp k1).1
      omega
  · rcases k.at_ with ⟨k1, k2⟩ | ⟨d', k1, k2, k3⟩
    · have := (List.getElem?_eq_some_iff.mp h1).1
      omega
    · rw [h3, k3]
section
variable {base : Heap} {mg : Str → Option Value} {K : PySem.W.Frag} {w : World} {P : Program}
end
end V2


namespace V2
open PySem L2
open PySem.Spec PyProof.Rows
def OwD (H : Hp) (D : Addr) (m : Nat) (H' : Hp) (a : Addr) : Deed → Prop
  | .op ks => ∃ l zs, H l = none ∧ l ≠ D ∧ H' a = some (.tup [.str "open", .ref l]) ∧ H' l = some (.lst (iV zs)) ∧ zs.length ≤ ks.length + m ∧ (m = 0 → zs = ks)
  | d => DAt H' a d
def NoL (H H' : Hp) : Prop := ∀ c o, (∀ xs, o ≠ .lst xs) → H c = some o → H' c = some o
theorem DAt.noL {H H' : Hp} {a : Addr} {d : Deed} (h : DAt H a d) (e : NoL H H') (n : ∀ ks, d ≠ .op ks) : DAt H' a d := by
  cases d with
  | op ks => exact absurd rfl (n ks)
  | po k x => exact e _ _ (fun xs q => by cases q) h
  | sc k p q =>
    obtain ⟨f, h1, h2⟩ := h
    exact ⟨f, e _ _ (fun xs q => by cases q) h1, e _ _ (fun xs q => by cases q) h2⟩
  | mv k m p q =>
    obtain ⟨f, h1, h2⟩ := h
    exact ⟨f, e _ _ (fun xs q => by cases q) h1, e _ _ (fun xs q => by cases q) h2⟩
  | un k m => exact e _ _ (fun xs q => by cases q) h
theorem OwD.keep {H H' H'' : Hp} {D a : Addr} {m m' : Nat} {d : Deed} (h : OwD H D m H' a d) (e : NoL H' H'') (hm : m' = 0 → m = 0)
    (hl : ∀ l zs, l ≠ D → H l = none → H' l = some (.lst (iV zs)) → ∃ zs', H'' l = some (.lst (iV zs')) ∧ zs'.length + m ≤ zs.length + m' ∧ (m' = 0 → zs' = zs)) : OwD H D m' H'' a d := by
  cases d with
  | op ks =>
    obtain ⟨l, zs, h1, h2, h3, h4, h5, h6⟩ := h
    obtain ⟨zs', k1, k2, k3⟩ := hl l zs h2 h1 h4
    exact ⟨l, zs', h1, h2, e _ _ (fun xs q => by cases q) h3, k1, by omega, fun q => (k3 q).trans (h6 (hm q))⟩
  | po k x => exact DAt.noL (d := .po k x) h e (fun ks q => by cases q)
  | sc k p q => exact DAt.noL (d := .sc k p q) h e (fun ks q => by cases q)
  | mv k m p q => exact DAt.noL (d := .mv k m p q) h e (fun ks q => by cases q)
  | un k m => exact DAt.noL (d := .un k m) h e (fun ks q => by cases q)
theorem OwD.ex {H H' H'' : Hp} {D a : Addr} {m : Nat} {d : Deed} (h : OwD H D m H' a d) (e : Evl.Ex H' H'') : OwD H D m H'' a d :=
  h.keep (fun c o _ q => e _ _ q) id fun l zs _ _ q => ⟨zs, e _ _ q, Nat.le_refl _, fun _ => rfl⟩
section
variable {base : Heap} {mg : Str → Option Value} {K : PySem.W.Frag} {w : World} {P : Program} {C fI fT fS pT pS : Addr}
end
end V2


namespace V2
open PySem L2
open PySem.Spec PyProof.Rows
def Sts (H G : Hp) (l : Addr) (ts : List Tk) (es : List Deed) (u b : Int) (e : V) : Prop := ∃ qs : List Addr, H l = some (.lst (qs.map V.ref)) ∧ qs.length = es.length + 1 ∧ ∀ (j : Nat) (q : Addr), qs[j]? = some q → StAt G q (es.take j) (wAt ts es u b j).1 (wAt ts es u b j).2 (if j = es.length then e else .non)
theorem Sts.mv {H G H' G' : Hp} {l : Addr} {ts : List Tk} {es : List Deed} {u b : Int} {e : V} (h : Sts H G l ts es u b e) (k : ∀ o, H l = some o → H' l = some o) (x : Evl.Ex G G') : Sts H' G' l ts es u b e := by
  obtain ⟨qs, h1, h2, h3⟩ := h
  exact ⟨qs, k _ h1, h2, fun j q z => (h3 j q z).ex x⟩
theorem Sts.last {H G : Hp} {l : Addr} {ts : List Tk} {es : List Deed} {u b : Int} {e : V} (h : Sts H G l ts es u b e) : ∃ (ys : List V) (q : Addr), H l = some (.lst (ys ++ [.ref q])) ∧ ys.length = es.length ∧ StAt G q es (wEnd ts es u b).1 (wEnd ts es u b).2 e := by
  obtain ⟨qs, h1, h2, h3⟩ := h
  obtain ⟨ys, q, rfl⟩ : ∃ a c, qs = a ++ [c] := last_split (by omega)
  rw [List.length_append] at h2
  have h2 : ys.length = es.length := Nat.succ.inj h2
  have z := h3 es.length q (by rw [← h2, List.getElem?_append_right (Nat.le_refl _), Nat.sub_self]; rfl)
  rw [if_pos rfl, List.take_length] at z
  exact ⟨ys.map V.ref, q, by rw [h1, List.map_append]; rfl, by rw [List.length_map]; exact h2, z⟩
theorem Sts.push {H G H' G' : Hp} {l q : Addr} {ts : List Tk} {es : List Deed} {d : Deed} {u b : Int} {v : V} {xs : List V} (h : Sts H G l ts es u b .non) (hx : H l = some (.lst xs)) (x : Evl.Ex G G') (hl : H' l = some (.lst (xs ++ [.ref q])))
    (hq : StAt G' q (es ++ [d]) (wEnd ts (es ++ [d]) u b).1 (wEnd ts (es ++ [d]) u b).2 v) : Sts H' G' l ts (es ++ [d]) u b v := by
  obtain ⟨qs, h1, h2, h3⟩ := h
  rw [hx] at h1
  injection h1 with h1
  injection h1 with h1
  subst h1
  have ln : (es ++ [d]).length = es.length + 1 := by rw [List.length_append]; rfl
  refine ⟨qs ++ [q], by rw [hl, List.map_append]; rfl, by rw [List.length_append, h2, ln]; rfl, fun j p z => ?_⟩
  rcases get_app z with ⟨h4, h5⟩ | ⟨h4, rfl⟩
  · have hj : j ≤ es.length := by omega
    have y := (h3 j p h4).ex x
    have e1 : (if j = es.length then V.non else V.non) = V.non := by split <;> rfl
    rw [e1] at y
    rw [if_neg (by omega), wAt_pre hj, List.take_append_of_le_length hj]
    exact y
  · have hj : j = (es ++ [d]).length := by omega
    rw [if_pos hj, hj, List.take_length]
    exact hq
theorem Sts.one {H G : Hp} {l q : Addr} {ts : List Tk} {u b : Int} (hl : H l = some (.lst [.ref q])) (hq : StAt G q [] (ts.map (·.2)) 1 .non) : Sts H G l ts [] u b .non := by
  refine ⟨[q], hl, rfl, fun j p z => ?_⟩
  match j, z with
  | 0, z =>
    cases z
    exact hq
  | j + 1, z => cases z
end V2


namespace V2
open PySem L2
open PySem.Spec PyProof.Rows
/-- a bench and its states, the list of states at l -/
abbrev BLr (B sk l : Addr) (H : Hp) (x ls lt : Addr) (ts : List Tk) (es : List Deed) (u b : Int) (e : V) : Prop := BnAt B sk (woL [l] H) x ls lt ts es (hist ts es u b) (wEnd ts es u b).1 (ts.map (wid u b)) (wEnd ts es u b).2 u b e
/-- what ended is told by the last step -/
def eV (ts : List Tk) (es : List Deed) (u b : Int) : V := match es.getLast? with
  | none => .non
  | some d => if endB (ts.map (wid u b)) (wAt ts es u b (es.length - 1)).1 d = true then .int ((es.length - 1 : Nat) : Int) else .non
/-- no step but the last one ends -/
def Led (ts : List Tk) (es : List Deed) (u b : Int) : Prop := ∀ (j : Nat) (d : Deed), j + 1 < es.length → es[j]? = some d → endB (ts.map (wid u b)) (wAt ts es u b j).1 d = false
structure Bd (B sk l : Addr) (H : Hp) (x ls lt : Addr) (ts : List Tk) (es : List Deed) (u b : Int) : Prop where
  bn : BLr B sk l H x ls lt ts es u b (eV ts es u b)
  st : Sts H (woL [sk, x, ls, lt, l] H) l ts es u b (eV ts es u b)
  led : Led ts es u b
  ns : l ≠ sk
theorem Bd.ex {B sk l : Addr} {H H' : Hp} {x ls lt : Addr} {ts : List Tk} {es : List Deed} {u b : Int} (h : Bd B sk l H x ls lt ts es u b) (e : Evl.Ex H H') : Bd B sk l H' x ls lt ts es u b :=
  ⟨h.bn.go (woL_go e), h.st.mv (e _) (woL_go e), h.led, h.ns⟩
theorem Bd.coin {B sk l : Addr} {H H' : Hp} {x ls lt : Addr} {ts : List Tk} {es : List Deed} {u b : Int} (h : Bd B sk l H x ls lt ts es u b) (k : But sk H H') : Bd B sk l H' x ls lt ts es u b :=
  ⟨h.bn.sep fun p o z => woL_at (woL_ne z) (woL_at (woL_ne (woL_ex _ _ z)) (k _ _ (fun y => woL_ne z (List.mem_singleton.mpr y)) (woL_ex _ _ (woL_ex _ _ z)))), h.st.mv (k _ · h.ns) ((ButL.of_but k List.mem_cons_self).wo fun _ h => h), h.led, h.ns⟩
theorem Bd.ln {B sk l : Addr} {H : Hp} {x ls lt : Addr} {ts : List Tk} {es : List Deed} {u b : Int} (h : Bd B sk l H x ls lt ts es u b) : l ∉ [x, ls, lt] ∧ (∃ dx fs, H x = some (.ins B dx fs) ∧ fs = fs) ∧ sk ∉ [x, ls, lt, l] := by
  obtain ⟨⟨dx, lq, g, lw, tw, as, bs, hx, hls, _, hlt, _, _⟩, ⟨n1, n2, n3, n4⟩, _, _⟩ := h.bn
  have hm2 : l ∈ [l] := List.mem_singleton.mpr rfl
  refine ⟨fun hm => ?_, ⟨_, _, woL_ex _ _ hx, rfl⟩, ?_⟩
  · simp only [List.mem_cons, List.not_mem_nil, or_false] at hm
    rcases hm with h | h | h
    · rw [← h] at hx
      exact woL_ne hx hm2
    · rw [← h] at hls
      exact woL_ne hls hm2
    · rw [← h] at hlt
      exact woL_ne hlt hm2
  · simp only [List.mem_cons, List.not_mem_nil, or_false, not_or]
    exact ⟨n4.symm, n2.symm, n3.symm, h.ns.symm⟩
end V2


namespace V2
open PySem L2
open PySem.Spec PyProof.Rows
/-- a test that reads only: both answers -/
def Rd (t : TT) (σ : L2.St) (H : Hp) : Prop := ∀ R : Bool → Hp → Prop, R true H → R false H → t σ H R
theorem Rd.and {t u : TT} {σ : L2.St} {H : Hp} (ht : Rd t σ H) (hu : Rd u σ H) : Rd (tAnd t u) σ H := fun R h1 h2 => ht _ (if_t rfl (hu R h1 h2)) (if_f (by decide) h2)
theorem Rd.or {t u : TT} {σ : L2.St} {H : Hp} (ht : Rd t σ H) (hu : Rd u σ H) : Rd (tOr t u) σ H := fun R h1 h2 => ht _ (if_t rfl h1) (if_f (by decide) (hu R h1 h2))
/-- what is drawn so far -/
structure PI (H : Hp) (sk ld lv ll : Addr) (ts : List Tk) (m : Int) (ds : List Deed) (H' : Hp) : Prop where
  but : But sk H H'
  dsk : ld ≠ sk
  lsk : ll ≠ sk
  dH : H ld = none
  dv : ld ≠ lv
  dl : ld ≠ ll
  li : ∃ a b : Int, Li H' ll [a, b]
  lH : H ll = none
  da : DsAt (wo ll (wo sk H')) ld ds
  ta : TksAt (wo ll (wo sk H')) lv ts
  ok : ∀ d ∈ ds, okD m d
  po : ∀ k a, Deed.po k a ∈ ds → a ≤ 1000
theorem PI.go {H H1 H2 : Hp} {sk ld lv ll : Addr} {ts : List Tk} {m : Int} {ds : List Deed} (h : PI H sk ld lv ll ts m ds H1) (b : But sk H1 H2) : PI H sk ld lv ll ts m ds H2 := by
  obtain ⟨x, y, hl⟩ := h.li
  exact ⟨h.but.trans b, h.dsk, h.lsk, h.dH, h.dv, h.dl, ⟨x, y, b _ _ h.lsk hl⟩, h.lH, h.da.ex (ex_wo b.wo), h.ta.ex (ex_wo b.wo), h.ok, h.po⟩
theorem wo_wo_upd {q p : Addr} {H : Hp} {x : HO} : Evl.Ex (wo q (wo p H)) (wo q (wo p (upd H q x))) := fun b o h => wo_at (wo_ne h) (wo_at (wo_ne (wo_ex _ _ h)) (Eq.trans (upd_ne (wo_ne h)) (wo_ex _ _ (wo_ex _ _ h))))
theorem PI.set {H H1 : Hp} {sk ld lv ll : Addr} {ts : List Tk} {m : Int} {ds : List Deed} {a b : Int} (h : PI H sk ld lv ll ts m ds H1) : PI H sk ld lv ll ts m ds (upd H1 ll (.lst (iV [a, b]))) :=
  ⟨fun c o nc e => Eq.trans (upd_ne (ne_of_none' e h.lH)) (h.but c o nc e), h.dsk, h.lsk, h.dH, h.dv, h.dl, ⟨a, b, upd_same⟩, h.lH, h.da.ex wo_wo_upd, h.ta.ex wo_wo_upd, h.ok, h.po⟩
theorem PI.new {H H1 : Hp} {sk ld lv ll l2 : Addr} {ts : List Tk} {m : Int} {ds : List Deed} {a b : Int} {n : Nat} (h : PI H sk ld lv ll ts m ds H1) (s : Sk H1 sk n) (hl : H1 l2 = none) : PI H sk ld lv l2 ts m ds (upd H1 l2 (.lst (iV [a, b]))) := by
  have e := Evl.Ex.new (o := .lst (iV [a, b])) hl
  have ex : Evl.Ex (wo ll (wo sk H1)) (wo l2 (wo sk (upd H1 l2 (.lst (iV [a, b]))))) := fun c o q => by
    have q1 := wo_ex _ _ q
    exact wo_at (ne_of_none' (wo_ex _ _ q1) hl) (wo_at (wo_ne q1) (e _ _ (wo_ex _ _ q1)))
  obtain ⟨as, w, _⟩ := h.da
  exact ⟨h.but.trans (But.of_ex e), h.dsk, sk_ne s hl, h.dH, h.dv, ne_of_none' (wo_ex _ _ (wo_ex _ _ w)) hl, ⟨a, b, upd_same⟩, but_none h.but s hl, h.da.ex ex, h.ta.ex ex, h.ok, h.po⟩
section
variable {base : Heap} {mg : Str → Option Value} {K : PySem.W.Frag} {w : World} {P : Program}
end
end V2


namespace V2
open PySem L2
open PySem.Spec PyProof.Rows
/-- isinstance(e, D), e the error that is handled, of the known class C -/
def tI1O (C : Addr) (a : Addr) (cls : Value) (d : Option Addr) (n : Nat) (b : Bool) : TE := fun σ H Q => ∃ (dd : Addr) (fs : List (Str × V)), σ[n]? = some (some (.ref a)) ∧ cls = .ref C ∧ d = some dd ∧ H dd = some (.xd fs) ∧ Q (.bl b) H
section
variable {X : Cx} {C D fI a : Addr} {oe : Obj} {cls : Value} {d : Option Addr} {pn : List (Addr × Obj)} {n : Nat} {x y : Str} {p1 p2 p3 pos : Pos} {b : Bool}
theorem pe_i1O {K : PySem.W.Frag} {mg : Str → Option Value} (hK : X.K = K) (hmg : X.mg = mg) (T : EC K C fI) (G : EG K fI) (mI : mg "isinstance" = none) (mD : mg y = some (.ref D)) (kv : PySem.W.kitOne K (.ref C) (.ref D) = some b) (hz : Zc cls d oe) (hf : ∃ vs, oe.data = .fields vs) (he : PE (X.suite a ((a, oe) :: pn)) (.Name x p1) (tVar n))
    (hg : Gl (X.suite a ((a, oe) :: pn)) "isinstance" := by rfl) (hg2 : Gl (X.suite a ((a, oe) :: pn)) y := by rfl) (hdb : (y == ("__debug__" : Str)) = false := by decide) :
    PE (X.suite a ((a, oe) :: pn)) (.Call (.Name "isinstance" p2) [.Name x p1, .Name y p3] [] pos) (tI1O C a cls d n b) := by
  subst hK hmg
  refine ⟨fun pins s σ H Q I h => ?_⟩
  obtain ⟨dd, fs, h3, e1, e2, hx, q⟩ := h
  have hc : (a, oe).2.cls = .ref C := hz.1.trans e1
  have z := pe_callB (X := X.suite a ((a, oe) :: pn)) (p := p2) (pos := pos) (call_isP (p := (a, oe)) (C := C) G List.mem_cons_self hc hf) hg mI (by decide +kernel) (pa_cons he (pa_cons (pe_glob (pos := p3) (v := .ref D) hg2 mD rfl hdb) pa_nil))
  exact z.run pins s σ H Q I ⟨_, h3, dd, fs, .ref D, .ref D, b, rfl, hz.2.trans e2, hx, T, fun u h => h, kv, q⟩
end
section
variable {base : Heap} {mg : Str → Option Value} {K : PySem.W.Frag} {w : World} {P : Program} {C fI fT fS pT pS fW fX CF CT CR gI : Addr}
end
end V2


namespace V2
open PySem L2
open PySem.Spec PyProof.Rows
/-- f(k = v, ..), by keyword alone, what it lets out by the slots -/
def tCallKS (m : Nat) (sp : Sp) (gV : List V → List V → List V) (E : L2.St → XK) (tk : TA) : TE := fun τ G Q => tk τ G fun zs G2 => zs.length = m ∧ sp (gV [] zs) G2 Q (E τ)
section
variable {X : Cx} {CX : CXT} {k : Nat} {f : Addr} {fd : FuncData} {ps ks : List Str} {sp : Sp} {E : L2.St → XK} {y : Str} {p pp : Pos} {kws : List Keyword} {tk : TA} {g : List Value → List Value → List Value} {gV : List V → List V → List V}
theorem pe_callKS (F : FnOk X.prog X.w X.K X.mg X.base CX k f fd ps sp) (hr : Room k X.A) (hg : Gl X y) (hm : X.mg y = some (.ref f)) (hk : PySem.W.keepIn X.K (.ref f) = true) (hb : KBn X.K fd ps 0 ks g gV) (hx : ∀ τ, PassesAt CX X τ (E τ)) (hkw : PK X kws tk)
    (hall : (backToKw p (keywordEach kws X.env)).all (·.1.isSome) = true := by rfl) (hks : (backToKw p (keywordEach kws X.env)).filterMap (·.1) = ks := by rfl) (hdb : (y == ("__debug__" : Str)) = false := by decide)
    (hpl : ((backTo p (starEach [] X.env)).any (·.1) || (backToKw p (keywordEach kws X.env)).any (·.1.isNone)) = false := by rfl) :
    PE X (.Call (.Name y pp) [] kws p) (tCallKS ks.length sp gV E tk) := by
  constructor
  intro pins s τ G Q I h
  refine wpAny_Call_Name_kw (ld_glob I hg hm ?_ hdb)
  refine PySem.W.callWith_KW0 (h₀ := X.base) I.ok.mod.kin hk hall ?_ hpl
  refine thn (hkw.run p pins s τ G _ I h) fun ws s1 got => ?_
  obtain ⟨zs, G1, I1, rz, l2, z⟩ := got
  refine ⟨I1.kIn, ?_⟩
  rw [hks]
  have r2 := hb.rel (vs := []) (us := []) .nil rz
  refine wpAny_call (codeAny_mono (F.run X.A X.stack s1 G1 ⟨[], ks.zip ws⟩ (g [] ws) _ Q (E τ) hr I1.env0 (hb.to s1 [] ws I1.kIn rfl (rz.length.symm.trans l2)) r2 z) fun w s' hw => ?_)
  match w, hw with
  | .error e, hw => exact hx τ pins _ _ e s' I1 hw
  | .ok (.ret u), hw => exact I1.after hw
  | .ok .next, hw => exact hw.elim
  | .ok .brk, hw => exact hw.elim
  | .ok .cont, hw => exact hw.elim
theorem pe_callK1S {nm : Str} {e : Expr} {te : TE} {kpos : Pos} (F : FnOk X.prog X.w X.K X.mg X.base CX k f fd ps sp) (hr : Room k X.A) (hg : Gl X y) (hm : X.mg y = some (.ref f)) (hk : PySem.W.keepIn X.K (.ref f) = true) (hb : KBn X.K fd ps 0 [nm] g gV) (hx : ∀ τ, PassesAt CX X τ (E τ)) (he : PE X e te)
    (hdb : (y == ("__debug__" : Str)) = false := by decide) : PE X (.Call (.Name y pp) [] [⟨some nm, e, kpos⟩] p) (tCallKS 1 sp gV E (tCons te tNil)) := pe_callKS F hr hg hm hk hb hx (pk_cons he pk_nil) rfl rfl hdb rfl
end
def spCau : Sp := fun vs H Q _ => ∃ (x : Str) (way : Int), vs = [.str x, .int way] ∧ x.length ≤ 3900 ∧ RetP x H Q
section
variable {base : Heap} {mg : Str → Option Value} {K : PySem.W.Frag} {w : World} {P : Program} {CT CU CP fI : Addr}
theorem ok_l_caught_one {f fR : Addr} {fd fdR : FuncData} (F : Fun K "_law_caught_one" "_law_caught_one" s_l_caught_one f fd) (FR : FnOk P w K mg base (L2.CX P w) 4 fR fdR p_read_polynomial (spRdX CU)) (mR : mg "read_polynomial" = some (.ref fR)) (kR : PySem.W.keepIn K (.ref fR) = true) (bR : Binds K fdR p_read_polynomial [])
    (kwR : KBn K fdR p_read_polynomial 0 ["text"] (fun us ws => us ++ ws) (fun us ws => us ++ ws)) (cS : Cal P w K mg base 2 "show_polynomial" p_show_polynomial (spShP K)) (T : EC K CU fI) (G : EG K fI) (mT : mg "TankError" = some (.ref CT)) (mP : mg "InvalidPolynomial" = some (.ref CP)) (mU : mg "Unreadable" = some (.ref CU)) (mI : mg "isinstance" = none)
    (hUT : PySem.W.exmOne K (.ref CU) (.ref CT) = some true) (kP : PySem.W.kitOne K (.ref CU) (.ref CP) = some false) (kU : PySem.W.kitOne K (.ref CU) (.ref CU) = some true) : FnOk P w K mg base CX0 5 f fd p_l_caught_one spCau := by
  refine F.ok sc_l_caught_one (fun vs H Q E h => ?_) (fun cdv A outer s H vs Q E hr h => ?_)
  · obtain ⟨x, way, rfl, _⟩ := h
    rfl
  · obtain ⟨x, way, rfl, lx, k, kx⟩ := h
    have nd := sc_l_caught_one.nd
    have r2 : Room 2 _ := hr.mono (by decide)
    refine ⟨_, pss_cons (ps_set (i := 2) nd rfl (Or.inl rfl) (pe_lst pa_nil))
      (pss_cons (ps_try_as (i := 4) (tb := fun W => tSeq (tAsg (tIf (tTest (tOp rEq (tVar 1) (tC (.int 0)))) (tCallS (spRdX CU) (WE W) (tCons (tVar 0) tNil)) (tCallKS 1 (spRdX CU) (fun us ws => us ++ ws) (WE W) (tCons (tVar 0) tNil))) (gName 3)) (tAsg (tIf (tTest (tOp rEq (tCall (spShP K) [] E0 (tCons (tVar 3) tNil)) (tVar 0))) (tLst (tCons (tVar 3) tNil)) (tLst (tCons (tC (.str "other")) tNil))) (gName 2)))
          (ts := fun a cls d => tSeq (tAsg (tOrV (tI1O CU a cls d 4 false) (tNotV (tI1O CU a cls d 4 true))) (gName 5)) (tAsg (tIf (tOr (fun σ H Q => (tVar 5) σ H fun x H' => ∃ k, TruV K x H' k ∧ Q k H') (tTest (tOp rNe (tV1E CU a cls d 4) (tVar 0)))) (tLst (tCons (tC (.str "odd")) tNil)) (tLst tNil)) (gName 2))) (c := .ref CT) (Wout := fun _ _ _ _ => False) rfl rfl nd rfl rfl ⟨rfl, by decide, Or.inl mT⟩ takes0
          (fun W pn xe tk _ => pss_cons (ps_set (i := 3) nd rfl (Or.inl rfl) (pe_ifExp (pt_cmpR op_eq (pv 1) pe_int (nomark _)) (by exact (pe_callS FR hr (by rfl) mR kR bR (fun σ => passAt tk σ) (pa_cons (pv 0) pa_nil))) (by exact (pe_callK1S FR hr (by rfl) mR kR kwR (fun σ => passAt tk σ) (pv 0)))))
            (pss_one (ps_set (i := 2) nd rfl (Or.inl rfl) (pe_ifExp (pt_cmpR op_eq (pe_c cS r2 (pa_cons (pv 3) pa_nil)) (pv 0) (nomark _)) (pe_lst (pa_cons (pv 3) pa_nil)) (pe_lst (pa_cons pe_str pa_nil))))))
          (fun a oe cls d pn hz hf => pss_cons (ps_set (i := 5) nd rfl (Or.inl rfl) (pe_or (pe_i1O rfl rfl T G mI mP kP hz hf (pv 4)) (pe_one (pe_not (pe_i1O rfl rfl T G mI mU kU hz hf (pv 4))))))
            (pss_one (ps_set (i := 2) nd rfl (Or.inl rfl) (pe_ifExp (PW.pt (pw_or (pt_truth (pv 5) (by intro _; rfl)) (pw_or1 (pt_cmpR op_ne (pe_v1E rfl T hz hf (pv 4)) (pv 0) (nomark _))))) (pe_lst (pa_cons pe_str pa_nil)) (pe_lst pa_nil))))))
      (pss_one (ps_ret (pv 2)))), ?_⟩
    refine ⟨Nat.zero_le _, fun l0 hl0 => ?_⟩
    have e0 := Evl.Ex.new (o := .lst []) hl0
    generalize upd H l0 (.lst []) = H1 at e0
    refine ⟨_, rfl, rfl, _, rfl, ?_⟩
    by_cases hw : way = 0
    · subst hw
      refine if_t rfl ⟨_, rfl, ?_⟩
      refine ⟨x, rfl, lx, fun ns hr p H2 hp e2 g2 => ?_, fun hno H2 e2 e H3 he e3 hx => ?_⟩
      · have len := rdP_len hr
        refine ⟨_, rfl, p, ns, rfl, g2, by omega, rdP_sm hr, fun H3 e3 => ⟨_, rfl, rfl, _, rfl, if_t (by rw [rdP_show hr]; exact decide_eq_true rfl) ⟨_, rfl, by show 1 ≤ _; decide, fun q hq => ⟨_, rfl, k ns hr q p _ (Evl.fresh_back ((e0.trans e2).trans e3) hq) (((e0.trans e2).trans e3).trans (Evl.Ex.new hq)) upd_same ?_⟩⟩⟩⟩
        rw [upd_ne (ne_of_none (e3 _ _ g2) hq)]
        exact e3 _ _ g2
      · refine ⟨true, hUT, fun _ a ha => ⟨e, _, rfl, rfl, rfl, hx, false, rfl, if_f rfl ⟨e, _, rfl, rfl, rfl, hx, true, rfl, ?_⟩⟩, fun z => nomatch z⟩
        refine ⟨_, rfl, false, rfl, if_f rfl ⟨e, _, .str x, rfl, rfl, rfl, hx, rfl, _, rfl, rfl, _, rfl, if_f ?_ ⟨Nat.zero_le _, fun q hq => ⟨_, rfl, kx hno q _ (Evl.fresh_back ((e0.trans e2).trans e3) hq) (((e0.trans e2).trans e3).trans (Evl.Ex.new hq)) upd_same⟩⟩⟩⟩
        rw [decide_eq_true rfl]
        rfl
    · refine if_f (decide_eq_false fun h => hw (by injection h)) ⟨_, rfl, rfl, ?_⟩
      refine ⟨x, rfl, lx, fun ns hr p H2 hp e2 g2 => ?_, fun hno H2 e2 e H3 he e3 hx => ?_⟩
      · have len := rdP_len hr
        refine ⟨_, rfl, p, ns, rfl, g2, by omega, rdP_sm hr, fun H3 e3 => ⟨_, rfl, rfl, _, rfl, if_t (by rw [rdP_show hr]; exact decide_eq_true rfl) ⟨_, rfl, by show 1 ≤ _; decide, fun q hq => ⟨_, rfl, k ns hr q p _ (Evl.fresh_back ((e0.trans e2).trans e3) hq) (((e0.trans e2).trans e3).trans (Evl.Ex.new hq)) upd_same ?_⟩⟩⟩⟩
        rw [upd_ne (ne_of_none (e3 _ _ g2) hq)]
        exact e3 _ _ g2
      · refine ⟨true, hUT, fun _ a ha => ⟨e, _, rfl, rfl, rfl, hx, false, rfl, if_f rfl ⟨e, _, rfl, rfl, rfl, hx, true, rfl, ?_⟩⟩, fun z => nomatch z⟩
        refine ⟨_, rfl, false, rfl, if_f rfl ⟨e, _, .str x, rfl, rfl, rfl, hx, rfl, _, rfl, rfl, _, rfl, if_f ?_ ⟨Nat.zero_le _, fun q hq => ⟨_, rfl, kx hno q _ (Evl.fresh_back ((e0.trans e2).trans e3) hq) (((e0.trans e2).trans e3).trans (Evl.Ex.new hq)) upd_same⟩⟩⟩⟩
        rw [decide_eq_true rfl]
        rfl
end
end V2


namespace V2
open PySem L2
open PySem.Spec PyProof.Rows
/-- z[::-1], its length told -/
def tRevS (te : TE) : TE := fun σ H Q => te σ H fun x H1 => ∃ z : Str, x = .str z ∧ z.length ≤ sizeLine ∧ ∀ y : Str, y.length ≤ z.length → Q (.str y) H1
section
variable {X : Cx}
theorem pe_revS {e : Expr} {te : TE} {k : Nat} {q1 q2 q3 pos : Pos} (he : PE X e te) : PE X (.Subscript e (.Slice none none (some (.UnaryOp .USub (.Constant (.int 1) k q1) q2)) q3) pos) (tRevS te) := by
  constructor
  intro pins s σ H Q I h
  refine Subscript_ (thn (he.run pins s σ H _ I h) fun v t1 ⟨x, H1, I1, r1, z, ex, lz, q⟩ => ?_)
  subst ex
  obtain ⟨tz, rfl⟩ := r1
  have last : PO X (some (.UnaryOp .USub (.Constant (.int 1) k q1) q2)) (tPart (tUn (rU fun i => .int (-i)) (tC (.int 1)))) := po_some (pe_un un_neg pe_int)
  refine wpAny_Slice (thn (po_none.run pins t1 σ H1 (fun o G => o = none ∧ G = H1) I1 ⟨rfl, rfl⟩) ?_)
  rintro v1 t2 ⟨o1, G1, J1, p1, rfl, rfl⟩
  refine thn (po_none.run pins t2 σ _ (fun o G => o = none ∧ G = G1) J1 ⟨rfl, rfl⟩) ?_
  rintro v2 t3 ⟨o2, G2, J2, p2, rfl, rfl⟩
  refine thn (last.run pins t3 σ _ (fun o G => o = some (-1) ∧ G = G2) J2 ⟨1, rfl, -1, rfl, rfl, rfl⟩) ?_
  rintro v3 t4 ⟨o3, G3, J3, p3, rfl, rfl⟩
  obtain ⟨a1, rfl, e1⟩ := IsPart.raw p1
  obtain ⟨a2, rfl, e2⟩ := IsPart.raw p2
  obtain ⟨a3, rfl, e3⟩ := IsPart.raw p3
  have J4 : Inv X pins σ G3 { t4 with heap := t4.heap.push { cls := .type "slice", data := .fields #[partValue a1, partValue a2, partValue a3] } } := J3.kept (t' := t4.toks) fun b ob w => Heap.get?_push_of_some _ w
  show wpAny (model X.prog X.w) X.A (subscriptTail e (.Slice none none (some (.UnaryOp .USub (.Constant (.int 1) k q1) q2)) q3) (.str z tz) (.ref t4.heap.objs.size)) (EP X pins σ Q) X.xe { t4 with heap := t4.heap.push { cls := .type "slice", data := .fields #[partValue a1, partValue a2, partValue a3] } }
  refine tail_any (ops := [.str z tz, .ref t4.heap.objs.size]) (typeIs_str _ _ _) (F.slot_str_getitem.lookup) ?_ (by with_unfolding_all rfl)
  refine wpAny_getItem_str_slice (l := a1) (u := a2) (st := a3) (Heap.IsSliceOf.new _ _ _ _) (by rw [e3]; rfl) ?_
  have lp : (slicePicked z a1 a2 a3).length = z.length := by
    unfold slicePicked
    rw [e1, e2, e3]
    show (Builtin.Str.strSliceIndices none none (-1) z.length).length = z.length
    rw [PyProof.Rows.picked_rev, List.length_map, List.length_range]
  have ll : (⟨((slicePicked z a1 a2 a3).filterMap (z.cps[·]?)).toArray⟩ : Str).length ≤ z.length := by
    show ((slicePicked z a1 a2 a3).filterMap (z.cps[·]?)).toArray.size ≤ z.length
    rw [List.size_toArray]
    exact Nat.le_trans (List.length_filterMap_le _ _) (Nat.le_of_eq lp)
  unfold sliceMade
  rw [if_neg (by rw [e3]; simp)]
  exact ⟨Nat.le_trans ll lz, .str _, G3, J4.tok _, ⟨_, rfl⟩, q _ ll⟩
end
end V2


namespace V2
open PySem L2
open PySem.Spec PyProof.Rows
/-! one token is given out: as structures, so that nothing is unfolded -/
structure TS1 (X : Cx) (st : Stmt) (t : TS) : Prop where
  run : PST X st t
structure TSs (X : Cx) (ss : List Stmt) (t : TS) : Prop where
  run : PSsT X ss t
structure TE1 (X : Cx) (e : Expr) (t : TE) : Prop where
  run : PET X e t
structure TEs (X : Cx) (es : List Expr) (t : TA) : Prop where
  run : PAT X es t
section
variable {X : Cx}
theorem ts_of {st : Stmt} {t : TS} (h : PS X st t) : TS1 X st t := ⟨L2.PST.of h⟩
theorem te_of {e : Expr} {t : TE} (h : PE X e t) : TE1 X e t := ⟨CwR.PET.of h⟩
theorem ts_cons {st : Stmt} {ss : List Stmt} {t u : TS} (h1 : TS1 X st t) (h2 : TSs X ss u) : TSs X (st :: ss) (tSeq t u) := ⟨L2.psst_cons h1.run h2.run⟩
theorem ts_ret {e : Expr} {te : TE} {pos : Pos} (h : TE1 X e te) : TSs X [.Return (some e) pos] (tSeq (tRet te) tNext) := ⟨CwR.psst_one (CwR.pst_ret h.run)⟩
theorem tes_nil : TEs X [] tNil := ⟨L2.pat_nil⟩
theorem tes_cons {e : Expr} {es : List Expr} {te : TE} {ta : TA} (h1 : TE1 X e te) (h2 : TEs X es ta) (hs : starEach (e :: es) X.env = (false, eval e X.env) :: starEach es X.env := by rfl) : TEs X (e :: es) (tCons te ta) := ⟨L2.pat_cons h1.run h2.run hs⟩
theorem te_lst {es : List Expr} {ta : TA} {pos : Pos} (h : TEs X es ta) : TE1 X (.List es pos) (tLst ta) := ⟨L2.pet_lst h.run⟩
theorem te_op {op : Operator} {r : R2} {e f : Expr} {te tf : TE} {pos : Pos} (ho : OpR X (binaryOp op) r) (ha : TE1 X e te) (hb : TE1 X f tf) : TE1 X (.BinOp e op f pos) (tOp r te tf) := ⟨CwR.pet_op ho ha.run hb.run⟩
theorem te_replC {o : Expr} {to : TE} {y z : Str} {j k : Nat} {c0 c1 apos pos : Pos} (ho : PE X o to) (hyz : (y == z) = false := by decide)
    (hst : starEach [.Constant (.str y) j c0, .Constant (.str z) k c1] X.env = [(false, eval (.Constant (.str y) j c0) X.env), (false, eval (.Constant (.str z) k c1) X.env)] := by rfl)
    (hbase : attributeBase o "replace" X.env (eval o X.env) = eval o X.env := by rfl) (hline : (apos.endLine == pos.line) = true := by rfl) :
    TE1 X (.Call (.Attribute o "replace" apos) [.Constant (.str y) j c0, .Constant (.str z) k c1] [] pos) (CwR.tReplC to y z) := ⟨CwR.pet_replC ho hyz hst hbase hline⟩
theorem ts_set {i : Nat} {x : Str} {e : Expr} {te : TE} {pos pos' : Pos} (hN : X.N.Nodup) (hi : X.N[i]? = some x) (hx : Loc X.env.scope x) (he : TE1 X e te) (hs : swapsWith e (some (.Name x pos')) pos.line X.env = pure false := by rfl)
    (hf : X.fn x = true ∨ X.env.scope.names.lookup x = some .local := by first | exact .inl rfl | exact .inr rfl) : TS1 X (.Assign [.Name x pos'] e pos) (tAsg te (gName i)) := by
  refine ⟨fun pins s σ H D h0 I h => ?_⟩
  refine wpAny_Assign_Name (thn (he.run pins s σ H _ h0 I h) ?_) hs
  rintro v t ⟨y, G, J, rv, q⟩
  exact store_ok J hN hi hx rv (fun t2 J2 => ⟨_, G, J2, q⟩) hf
end
theorem ok_tok {P : Program} {w : World} {K : PySem.W.Frag} {mg : Str → Option Value} {base : Heap} (CX : CXT) {x qual : Str} {st : Stmt} {f : Addr} {fd : FuncData} {N ps : List Str} {k : Nat} {sp : Sp} (F : Fun K x qual st f fd) (S : FnScope N ps (defScope st)) (hnc : ∀ y ∈ (defScope st).names, y.2 ≠ .cell) (hps : 1 ≤ ps.length) (len : ∀ vs H Q E, sp vs H Q E → vs.length = ps.length)
    (hb : ∀ (cdv : Value) (A : Around) (outer : List Env) (s : Shared) (H : Hp) (vs : List V) (Q : VK) (E : XK), Room k (A.deeper (envOfC qual (defScope st) s.heap.objs.size f cdv)) → sp vs H Q E →
      ∃ t, TSs (cxOf CX P w K mg base N qual (defScope st) f cdv A outer s H E) (defBody st) t ∧ t { nx := fun _ H' => Q .non H', rt := Q } (L2.start N vs) H) : FnOk P w K mg base CX (k + 1) f fd ps sp := by
  obtain ⟨oc, od, kV, doc, pm, an, cdv, ct, osl, rfl, lk, hcd⟩ := F.ex
  exact fn_ofT lk hcd S hnc hps len fun A outer s H vs Q E hr h => let ⟨t, ht, q⟩ := hb cdv A outer s H vs Q E hr h; ⟨t, ht.run, q⟩
/-! ## a menu of texts -/
def sB : V → Bool
  | .str z => decide (z.length ≤ 50000)
  | _ => false
theorem sB_str {z : Str} (h : z.length ≤ 50000) : sB (.str z) = true := decide_eq_true h
theorem sB_get {v : V} (h : sB v = true) : ∃ z : Str, v = .str z ∧ z.length ≤ 50000 := by
  cases v <;> first | (exact ⟨_, rfl, of_decide_eq_true h⟩) | (cases h)
/-- the sack stands, the menu too -/
def Mn (p : Addr) (n : Nat) (H0 H : Hp) (l : Addr) (xs : List V) : Prop := But p H0 H ∧ Sk H p n ∧ H l = some (.lst xs) ∧ xs ≠ [] ∧ xs.all sB = true
theorem Mn.ne {p l : Addr} {n : Nat} {H0 H : Hp} {xs : List V} (m : Mn p n H0 H l xs) : l ≠ p := fun e => by
  obtain ⟨_, ⟨a, b, c, hp, _⟩, hl, h0, hs⟩ := m
  rw [e, hp] at hl
  cases hl
  cases hs
theorem Mn.ex {p l : Addr} {n : Nat} {H0 H H1 : Hp} {xs : List V} (m : Mn p n H0 H l xs) (e : Evl.Ex H H1) : Mn p n H0 H1 l xs :=
  ⟨m.1.trans (But.of_ex e), let ⟨a, b, c, hp, r⟩ := m.2.1; ⟨a, b, c, e _ _ hp, r⟩, e _ _ m.2.2.1, m.2.2.2⟩
theorem Mn.coin {p l : Addr} {n k : Nat} {H0 H H1 : Hp} {xs : List V} (m : Mn p n H0 H l xs) (b : But p H H1) (s : Sk H1 p k) : Mn p k H0 H1 l xs :=
  ⟨m.1.trans b, s, b _ _ m.ne m.2.2.1, m.2.2.2⟩
theorem menu_step {p l : Addr} {n : Nat} {H0 H : Hp} {xs ys : List V} {R : VK} (m : Mn p n H0 H l xs) (hy : ys.all sB = true) (sz : xs.length + ys.length ≤ 1000) (k : ∀ q H', Mn p n H0 H' q (xs ++ ys) → R (.ref q) H') :
    ys.length ≤ sizeLine ∧ ∀ b, H b = none → rCat (.ref l) (.ref b) (upd H b (.lst ys)) R := by
  refine ⟨Nat.le_trans (show ys.length ≤ 1000 by omega) (by decide), fun b hb => ?_⟩
  have e1 := Evl.Ex.new (o := .lst ys) hb
  have m1 := m.ex e1
  refine ⟨l, b, xs, ys, rfl, rfl, m1.2.2.1, upd_same, Nat.le_trans sz (by decide), fun q hq => k q _ ?_⟩
  have e2 := Evl.Ex.new (o := .lst (xs ++ ys)) hq
  have m2 := m1.ex e2
  refine ⟨m2.1, m2.2.1, upd_same, fun h => m.2.2.2.1 (List.append_eq_nil_iff.mp h).1, ?_⟩
  rw [List.all_append, m.2.2.2.2, hy]; rfl
theorem rep_join {y z : Str} {k : Nat} (hz : z.length ≤ 10) (hy : y.length ≤ 10) (hk : k ≤ 600) : (Txt.join y (List.replicate k z)).length ≤ 12000 := by
  have h := join_len y (List.replicate k z)
  rw [List.map_replicate, List.sum_replicate_nat, List.length_replicate] at h
  have h1 : k * z.length ≤ 600 * 10 := Nat.mul_le_mul hk hz
  have h2 : k * y.length ≤ 600 * 10 := Nat.mul_le_mul hk hy
  omega
theorem rep_flatS (k : Nat) (z : Str) : (List.replicate k [V.str z]).flatten = (List.replicate k z).map V.str := by
  induction k with
  | zero => rfl
  | succ k ih => rw [List.replicate_succ, List.replicate_succ, List.flatten_cons, ih]; rfl
/-- y.join([z] * many) -/
theorem rep_go {K : PySem.W.Frag} {σ : L2.St} {z y : Str} {r : Int} {i : Nat} {H : Hp} {R : VK} (hi : σ[i]? = some (some (.int r))) (r0 : 0 ≤ r) (r1 : r ≤ 600) (hz : z.length ≤ 10) (hy : y.length ≤ 10) (k : ∀ (u : Str) H', Evl.Ex H H' → u.length ≤ 12000 → R (.str u) H') :
    tM1 (rJoin K) (tC (.str y)) (tOp rRep (tLst (tCons (tC (.str z)) tNil)) (tVar i)) σ H R := by
  have b := rep_join (y := y) (z := z) (k := r.toNat) hz hy (by omega)
  refine ⟨⟨_, rfl⟩, by show 1 ≤ _; decide, fun p hp => ⟨_, hi, p, r, _, rfl, rfl, upd_same, by omega, by omega, ?_, fun q hq => ⟨y, q, List.replicate r.toNat z, rfl, rfl, .inl (SqL.of (by rw [upd_same, rep_flatS])), ?_, k _ _ ((Evl.Ex.new hp).trans (Evl.Ex.new hq)) b⟩⟩⟩
  · show 1 * r.toNat ≤ _
    exact Nat.le_trans (show 1 * r.toNat ≤ 1000 by omega) (by decide)
  · rw [List.map_replicate, List.sum_replicate_nat, List.length_replicate]
    have h1 : r.toNat * z.length ≤ 600 * 10 := Nat.mul_le_mul (by omega) hz
    have h2 : r.toNat * y.length ≤ 600 * 10 := Nat.mul_le_mul (by omega) hy
    omega
theorem menu_pick {K : PySem.W.Frag} {p l : Addr} {n : Nat} {H0 H : Hp} {xs : List V} {R : VK} (m : Mn p n H0 H l xs) (sz : xs.length ≤ 1000) (hn : n ≤ 99999) (k : ∀ (z : Str) H', But p H0 H' → Sk H' p (n + 1) → z.length ≤ 50000 → R (.str z) H') :
    ∃ (p' : Addr) (ys : List V), [V.ref l] = [.ref p'] ∧ (SqL K H p' ys ∨ SqT K H p' ys) ∧ spCoin [.ref p, .int ys.length] H (fun r H1 => rIxL K (.ref l) r H1 R) E0 := by
  have pos : 0 < xs.length := List.length_pos_iff.mpr m.2.2.2.1
  have big : (1000 : Nat) < 2 ^ 200 := by decide
  refine ⟨l, xs, rfl, .inl (SqL.of m.2.2.1), p, xs.length, n, rfl, m.2.1, by omega, by omega, by omega, fun r H1 r0 r1 b1 s1 _ => ?_⟩
  have M1 := m.coin b1 s1
  obtain ⟨v, hv⟩ : ∃ v, xs[r.toNat]? = some v := ⟨_, List.getElem?_eq_getElem (by omega)⟩
  obtain ⟨z, rfl, hz⟩ := sB_get (List.all_eq_true.mp m.2.2.2.2 v (List.mem_of_getElem? hv))
  have at1 : atI xs r = some (.str z) := by
    have e : r = ((r.toNat : Nat) : Int) := (Int.toNat_of_nonneg r0).symm
    rw [e]
    exact atI_nat hv
  exact ⟨l, xs, r, _, rfl, rfl, SqL.of M1.2.2.1, at1, k z H1 M1.1 s1 hz⟩
def spOddT : Sp := fun vs H Q _ => ∃ (p : Addr) (x : Str) (m : Nat), vs = [.ref p, .str x] ∧ x.length ≤ 1000 ∧ Sk H p m ∧ m ≤ 90000 ∧ ∀ (z : Str) (H' : Hp), But p H H' → Sk H' p (m + 2) → z.length ≤ 50000 → Q (.str z) H'
end V2


namespace V2
open PySem L2
open PySem.Spec PyProof.Rows
/-! one token is given out: as structures, so that nothing is unfolded -/
section
variable {base : Heap} {mg : Str → Option Value} {K : PySem.W.Frag} {w : World} {P : Program}
theorem ok_l_odd_one {f : Addr} {fd : FuncData} (F : Fun K "_law_odd_one" "_law_odd_one" s_l_odd_one f fd) (mL : mg "len" = none) (cC : Cal P w K mg base 1 "_law_coin" p_l_coin spCoin) : FnOk P w K mg base CX0 2 f fd p_l_odd_one spOddT := by
  refine ok_tok CX0 F sc_l_odd_one (by decide +kernel) (by decide) (fun vs H Q E h => ?_) (fun cdv A outer s H vs Q E hr h => ?_)
  · obtain ⟨p, x, m, rfl, _⟩ := h
    rfl
  · obtain ⟨p, x, m, rfl, lx, hS, hm, k⟩ := h
    have nd := sc_l_odd_one.nd
    have r1 : Room 1 _ := hr.mono (by decide)
    refine ⟨_, (ts_cons (ts_of (ps_set (i := 2) nd rfl (Or.inl rfl) (pe_lst (pa_cons pe_str (pa_cons pe_str (pa_cons pe_str (pa_cons pe_str (pa_cons pe_str (pa_cons pe_str (pa_cons pe_str (pa_cons pe_str (pa_cons pe_str (pa_cons pe_str (pa_cons pe_str (pa_cons pe_str (pa_cons pe_str pa_nil))))))))))))))))
      (ts_cons (ts_of (ps_set (i := 2) nd rfl (Or.inl rfl) (pe_op op_cat (pv 2) (pe_lst (pa_cons pe_str (pa_cons pe_str (pa_cons pe_str (pa_cons pe_str (pa_cons pe_str (pa_cons pe_str (pa_cons pe_str (pa_cons pe_str (pa_cons pe_str (pa_cons pe_str pa_nil))))))))))))))
      (ts_cons (ts_of (ps_set (i := 2) nd rfl (Or.inl rfl) (pe_op op_cat (pv 2) (pe_lst (pa_cons pe_str (pa_cons pe_str (pa_cons pe_str (pa_cons pe_str (pa_cons pe_str (pa_cons pe_str (pa_cons pe_str (pa_cons pe_str (pa_cons pe_str pa_nil)))))))))))))
      (ts_cons (ts_of (ps_set (i := 2) nd rfl (Or.inl rfl) (pe_op op_cat (pv 2) (pe_lst (pa_cons pe_str (pa_cons pe_str (pa_cons pe_str (pa_cons pe_str (pa_cons pe_str (pa_cons pe_str pa_nil))))))))))
      (ts_cons (ts_of (ps_set (i := 3) nd rfl (Or.inl rfl) (pe_op op_add pe_int (pe_c cC r1 (pa_cons (pv 0) (pa_cons pe_int pa_nil))))))
      (ts_cons (ts_of (ps_set (i := 2) nd rfl (Or.inl rfl) (pe_op op_cat (pv 2) (pe_lst (pa_cons (pe_join pe_str (pe_op op_rep (pe_lst (pa_cons pe_str pa_nil)) (pv 3))) (pa_cons (pe_op op_add_str (pe_join pe_str (pe_op op_rep (pe_lst (pa_cons pe_str pa_nil)) (pv 3))) pe_str) pa_nil))))))
      (ts_cons (ts_of (ps_set (i := 2) nd rfl (Or.inl rfl) (pe_op op_cat (pv 2) (pe_lst (pa_cons (pe_op op_add_str (pe_join pe_str (pe_op op_rep (pe_lst (pa_cons pe_str pa_nil)) (pv 3))) pe_str) (pa_cons (pe_op op_add_str (pe_join pe_str (pe_op op_rep (pe_lst (pa_cons pe_str pa_nil)) (pv 3))) pe_str) pa_nil))))))
      (ts_cons (ts_set (i := 2) nd rfl (Or.inl rfl) (te_op op_cat (te_of (pv 2)) (te_lst (tes_cons (te_of (pe_op op_add_str (pv 1) pe_str)) (tes_cons (te_of (pe_op op_add_str (pv 1) pe_str)) (tes_cons (te_of (pe_op op_add_str (pv 1) pe_str)) (tes_cons (te_replC (pv 1)) tes_nil)))))))
      (ts_cons (ts_set (i := 2) nd rfl (Or.inl rfl) (te_op op_cat (te_of (pv 2)) (te_lst (tes_cons (te_replC (pv 1)) (tes_cons (te_of (pe_revS (pv 1))) tes_nil)))))
      (ts_ret (te_of (pe_ix ix_list (pv 2) (pe_c cC r1 (pa_cons (pv 0) (pa_cons (pe_callB call_len_seq (by rfl) mL PySem.boot_len (pa_cons (pv 2) pa_nil)) pa_nil))) (fun _ _ => rfl))))))))))))), ?_⟩
    have sz : ∀ n, n ≤ 1000 → n ≤ sizeLine := fun n h => Nat.le_trans h (by decide)
    refine ⟨sz 13 (by decide), fun l0 hl0 => ?_⟩
    have M0 : Mn p m H (upd H l0 (.lst [.str "", .str " ", .str "0", .str "00", .str "-0", .str "0 0", .str "0 1", .str "1 0", .str "1 0 0", .str "0 0 1", .str "1", .str "-1", .str "+1"])) l0 [.str "", .str " ", .str "0", .str "00", .str "-0", .str "0 0", .str "0 1", .str "1 0", .str "1 0 0", .str "0 0 1", .str "1", .str "-1", .str "+1"] := by
      have e := Evl.Ex.new (o := .lst [.str "", .str " ", .str "0", .str "00", .str "-0", .str "0 0", .str "0 1", .str "1 0", .str "1 0 0", .str "0 0 1", .str "1", .str "-1", .str "+1"]) hl0
      obtain ⟨a, b, c, hp, r⟩ := id hS
      exact ⟨But.of_ex e, ⟨a, b, c, e _ _ hp, r⟩, upd_same, by simp, by decide +kernel⟩
    refine ⟨_, rfl, menu_step M0 (by decide +kernel) (by decide) fun l1 H1 M1 => ?_⟩
    refine ⟨_, rfl, menu_step M1 (by decide +kernel) (by decide) fun l2 H2 M2 => ?_⟩
    refine ⟨_, rfl, menu_step M2 (by decide +kernel) (by decide) fun l3 H3 M3 => ?_⟩
    refine ⟨_, rfl, p, 600, m, rfl, M3.2.1, by omega, by decide, by decide, fun r H4 r0 r1 b4 s4 n4 => ⟨1, r, rfl, rfl, ?_⟩⟩
    have M4 := M3.coin b4 s4
    have l2 : ∀ (u : Str), u.length ≤ 12000 → ∀ w : Str, w.length ≤ 2 → (u ++ w).length ≤ 50000 := fun u hu w hw => by rw [len_app]; omega
    have lw : ∀ (u : Str), u.length ≤ 12000 → ∀ w : Str, w.length ≤ 2 → u.length + w.length ≤ 50000 := fun u hu w hw => by omega
    refine ⟨_, rfl, ?_⟩
    dsimp only [tLst, tCons]
    show tM1 (rJoin K) (tC (.str " ")) (tOp rRep (tLst (tCons (tC (.str "1")) tNil)) (tVar 3)) _ _ _
    refine rep_go (r := 1 + r) rfl (by omega) (by omega) (by decide) (by decide) fun u1 H5 e5 hu1 => ?_
    show tM1 (rJoin K) (tC (.str " ")) (tOp rRep (tLst (tCons (tC (.str "-12")) tNil)) (tVar 3)) _ _ _
    refine rep_go (r := 1 + r) rfl (by omega) (by omega) (by decide) (by decide) fun u2 H6 e6 hu2 => ?_
    refine ⟨u2, _, rfl, rfl, Nat.le_trans (lw u2 hu2 _ (by decide)) (by decide), ?_⟩
    refine menu_step ((M4.ex e5).ex e6) (by rw [List.all_cons, List.all_cons, sB_str (show u1.length ≤ 50000 by omega), sB_str (l2 u2 hu2 _ (by decide))]; rfl) (by simp) fun l5 H7 M7 => ?_
    refine ⟨_, rfl, ?_⟩
    dsimp only [tLst, tCons]
    show tM1 (rJoin K) (tC (.str " ")) (tOp rRep (tLst (tCons (tC (.str "0")) tNil)) (tVar 3)) _ _ _
    refine rep_go (r := 1 + r) rfl (by omega) (by omega) (by decide) (by decide) fun u3 H8 e8 hu3 => ?_
    refine ⟨u3, _, rfl, rfl, Nat.le_trans (lw u3 hu3 _ (by decide)) (by decide), ?_⟩
    show tM1 (rJoin K) (tC (.str " ")) (tOp rRep (tLst (tCons (tC (.str "3")) tNil)) (tVar 3)) _ _ _
    refine rep_go (r := 1 + r) rfl (by omega) (by omega) (by decide) (by decide) fun u4 H9 e9 hu4 => ?_
    refine ⟨u4, _, rfl, rfl, Nat.le_trans (lw u4 hu4 _ (by decide)) (by decide), ?_⟩
    refine menu_step ((M7.ex e8).ex e9) (by rw [List.all_cons, List.all_cons, sB_str (l2 u3 hu3 _ (by decide)), sB_str (l2 u4 hu4 _ (by decide))]; rfl) (by simp) fun l6 H10 M10 => ?_
    have hx : x.length ≤ 12000 := by omega
    have hr1 := TK.replace_len x " " "  "
    have hr2 := TK.replace_len x "-" ""
    have z2 : ("  " : Str).length = 2 := rfl
    have z0 : ("" : Str).length = 0 := rfl
    rw [z2] at hr1
    rw [z0] at hr2
    refine ⟨_, rfl, _, rfl, x, _, rfl, rfl, Nat.le_trans (lw x hx _ (by decide)) (by decide), ?_⟩
    refine ⟨_, rfl, x, _, rfl, rfl, Nat.le_trans (lw x hx _ (by decide)) (by decide), ?_⟩
    refine ⟨_, rfl, x, _, rfl, rfl, Nat.le_trans (lw x hx _ (by decide)) (by decide), ?_⟩
    refine ⟨_, rfl, x, rfl, ?_, ?_⟩
    · show x.length + (x.length + 1) * 2 ≤ 16777216
      omega
    refine menu_step M10 ?_ (by simp) fun l7 H11 M11 => ?_
    · rw [List.all_cons, List.all_cons, List.all_cons, List.all_cons, sB_str (l2 x hx _ (by decide)), sB_str (l2 x hx _ (by decide)), sB_str (l2 x hx _ (by decide)), sB_str (by omega)]
      rfl
    refine ⟨_, rfl, _, rfl, x, rfl, ?_, ?_⟩
    · show x.length + (x.length + 1) * 0 ≤ 16777216
      omega
    refine ⟨_, rfl, x, rfl, Nat.le_trans hx (by decide), fun y hy => ?_⟩
    refine menu_step M11 ?_ (by simp) fun l8 H12 M12 => ?_
    · rw [List.all_cons, List.all_cons, sB_str (by omega), sB_str (by omega)]
      rfl
    exact ⟨_, rfl, _, rfl, _, rfl, menu_pick M12 (by simp) (by omega) fun z H' b s hz => k z H' b s hz⟩
end
end V2


namespace V2
open PySem L2
open PySem.Spec PyProof.Rows
def spMar : Sp := fun vs H Q _ => ∃ (p : Addr) (x : Str) (m : Nat), vs = [.ref p, .str x] ∧ x.length ≤ 100 ∧ Sk H p m ∧ m ≤ 80000 ∧ ∀ (z : Str) (H' : Hp), But p H H' → Sk H' p (m + 6) → z.length ≤ 50000 → Q (.str z) H'
theorem set_strs {zs : List Str} {i : Nat} {z : Str} : (zs.map V.str).set i (.str z) = (zs.set i z).map V.str := by rw [List.map_set]
theorem split_ne {x bt : Str} (h : bt = " " ∨ bt = "-") : Txt.split x bt ≠ [] := fun e => by
  have j : Txt.join bt (Txt.split x bt) = x := by
    rw [TL.join_eq]
    exact PySem.StrLaws.join_split x bt
  rw [e] at j
  subst j
  rcases h with rfl | rfl <;> exact absurd e (by decide +kernel)
section
variable {base : Heap} {mg : Str → Option Value} {K : PySem.W.Frag} {w : World} {P : Program}
theorem ok_l_marred_one {f : Addr} {fd : FuncData} (F : Fun K "_law_marred_one" "_law_marred_one" s_l_marred_one f fd) (mL : mg "len" = none) (cC : Cal P w K mg base 1 "_law_coin" p_l_coin spCoin) (cO : Cal P w K mg base 2 "_law_odd_one" p_l_odd_one spOddT) : FnOk P w K mg base CX0 3 f fd p_l_marred_one spMar := by
  refine F.ok sc_l_marred_one (fun vs H Q E h => ?_) (fun cdv A outer s H vs Q E hr h => ?_)
  · obtain ⟨p, x, m, rfl, _⟩ := h
    rfl
  · obtain ⟨p, x, m, rfl, lx, hS, hm, k⟩ := h
    have nd := sc_l_marred_one.nd
    have r1 : Room 1 _ := hr.mono (by decide)
    have r2 : Room 2 _ := hr.mono (by decide)
    have big : (1000 : Nat) < 2 ^ 200 := by decide
    have sz : ∀ {n : Nat}, n ≤ 100000 → n ≤ sizeLine := fun {n} h => Nat.le_trans h (by decide)
    refine ⟨_, pss_cons (ps_par (i := 2) (j := 3) rfl nd rfl rfl (by decide) rfl rfl (pa_cons (pe_c cC r1 (pa_cons (pv 0) (pa_cons (pe_op op_add (pe_callB call_len_str (by rfl) mL PySem.boot_len (pa_cons (pv 1) pa_nil)) pe_int) pa_nil))) (pa_cons (pe_c cC r1 (pa_cons (pv 0) (pa_cons pe_int pa_nil))) pa_nil)) (by rfl))
      (pss_cons (ps_set (i := 4) nd rfl (Or.inl rfl) pe_str)
      (pss_cons (ps_set (i := 5) nd rfl (Or.inl rfl) (pe_ix ix_list (pe_lst (pa_cons pe_str (pa_cons (pv 4) pa_nil))) (pe_c cC r1 (pa_cons (pv 0) (pa_cons pe_int pa_nil))) (fun _ _ => rfl)))
      (pss_cons (ps_set (i := 6) nd rfl (Or.inl rfl) (pe_ix ix_str (pv 5) (pe_c cC r1 (pa_cons (pv 0) (pa_cons (pe_callB call_len_str (by rfl) mL PySem.boot_len (pa_cons (pv 5) pa_nil)) pa_nil))) (fun _ _ => rfl)))
      (Evl.pss_cut (ps_if (pt_cmpR op_eq (pv 3) pe_int (nomark _)) (pss_one (ps_ret (pe_op op_add_str (pe_op op_add_str (pe_slice sl_str (pv 1) po_none (po_some (pv 2))) (pv 6)) (pe_slice sl_str (pv 1) (po_some (pv 2)) po_none)))) pss_nil)
      (pss_cons (ps_if (pt_cmpR op_eq (pv 3) pe_int (nomark _)) (pss_one (ps_ret (pe_op op_add_str (pe_slice sl_str (pv 1) po_none (po_some (pv 2))) (pe_slice sl_str (pv 1) (po_some (pe_op op_add (pv 2) pe_int)) po_none)))) pss_nil)
      (pss_cons (ps_if (pt_cmpR op_eq (pv 3) pe_int (nomark _)) (pss_one (ps_ret (pe_op op_add_str (pe_op op_add_str (pe_slice sl_str (pv 1) po_none (po_some (pv 2))) (pv 6)) (pe_slice sl_str (pv 1) (po_some (pe_op op_add (pv 2) pe_int)) po_none)))) pss_nil)
      (pss_cons (ps_if (pt_cmpR op_eq (pv 3) pe_int (nomark _)) (pss_one (ps_ret (pe_c cO r2 (pa_cons (pv 0) (pa_cons (pv 1) pa_nil))))) pss_nil)
      (pss_cons (ps_if (pt_cmpR op_in_seq (pv 3) (pe_tup (pa_cons pe_int (pa_cons pe_int pa_nil))) (by rfl)) (pss_cons (ps_set (i := 7) nd rfl (Or.inl rfl) (pe_ix ix_list (pe_lst (pa_cons pe_str (pa_cons pe_str pa_nil))) (pe_op op_sub (pv 3) pe_int) (fun _ _ => rfl)))
      (pss_cons (ps_set (i := 8) nd rfl (Or.inl rfl) (pe_split (pv 1) (pv 7)))
      (pss_cons (ps_par (i := 9) (j := 10) rfl nd rfl rfl (by decide) rfl rfl (pa_cons (pe_c cC r1 (pa_cons (pv 0) (pa_cons (pe_callB call_len_seq (by rfl) mL PySem.boot_len (pa_cons (pv 8) pa_nil)) pa_nil))) (pa_cons (pe_c cC r1 (pa_cons (pv 0) (pa_cons (pe_callB call_len_seq (by rfl) mL PySem.boot_len (pa_cons (pv 8) pa_nil)) pa_nil))) pa_nil)) (by rfl))
      (pss_cons (ps_set (i := 11) nd rfl (Or.inl rfl) (pe_ix ix_list (pv 8) (pv 9) (fun _ _ => rfl)))
      (pss_cons (ps_asg (pe_ix ix_list (pv 8) (pv 10) (fun _ _ => rfl)) (pg_sub (pv 8) (pv 9) set_list))
      (pss_cons (ps_asg (pv 11) (pg_sub (pv 8) (pv 10) set_list))
      (pss_one (ps_ret (pe_join (pv 7) (pv 8)))))))))) pss_nil)
      (pss_one (ps_ret (pv 1))))))))))), ?_⟩
    have szx : x.length ≤ sizeLine := sz (by omega)
    refine ⟨_, rfl, _, rfl, x, rfl, szx, _, _, rfl, rfl, p, _, m, rfl, hS, by omega, by omega, by omega, fun spot H1 a0 a1 b1 s1 _ => ⟨_, rfl, p, 8, m + 1, rfl, s1, by omega, by decide, by decide, fun way H2 w0 w1 b2 s2 _ => ⟨_, _, rfl, ?_⟩⟩⟩
    have B2 := b1.trans b2
    have lw : ("ABCDEFGHIJKLMNOPQRSTUVWXYZ0123456789abcdefghijklmnopqrstuvwxyz !#$&'()*+,-./:;<=>?\x40[]^_`{|}~\"\\" : Str).length ≤ 200 ∧ 0 < ("ABCDEFGHIJKLMNOPQRSTUVWXYZ0123456789abcdefghijklmnopqrstuvwxyz !#$&'()*+,-./:;<=>?\x40[]^_`{|}~\"\\" : Str).length := by decide +kernel
    refine ⟨_, rfl, by show 2 ≤ _; decide, fun l hl => ⟨_, rfl, p, 2, m + 2, rfl, ?_, by omega, by decide, by decide, fun r H3 c0 c1 b3 s3 _ => ?_⟩⟩
    · obtain ⟨a, b, c, hp, q⟩ := s2
      exact ⟨a, b, c, Evl.Ex.new hl _ _ hp, q⟩
    have B3 := (B2.trans (But.of_ex (Evl.Ex.new hl))).trans b3
    have lp : l ≠ p := fun e => by
      obtain ⟨a, b, c, hp, q⟩ := s2
      rw [e, hp] at hl; cases hl
    have gl := b3 l _ lp upd_same
    have pick : ∃ sg : Str, atI [V.str "10 2-3w+", V.str "ABCDEFGHIJKLMNOPQRSTUVWXYZ0123456789abcdefghijklmnopqrstuvwxyz !#$&'()*+,-./:;<=>?\x40[]^_`{|}~\"\\"] r = some (.str sg) ∧ sg.length ≤ 200 ∧ 0 < sg.length := by
      have : r = 0 ∨ r = 1 := by omega
      rcases this with rfl | rfl
      · exact ⟨_, rfl, by decide +kernel, by decide +kernel⟩
      · exact ⟨_, rfl, lw⟩
    obtain ⟨sg, at1, sl, s0⟩ := pick
    refine ⟨l, _, r, _, rfl, rfl, SqL.of gl, at1, ?_⟩
    refine ⟨_, rfl, _, rfl, _, rfl, sg, rfl, sz (by omega), p, _, m + 3, rfl, s3, by omega, by omega, by omega, fun r' H4 d0 d1 b4 s4 _ => ?_⟩
    have lsg : sg.cps.toList.length = sg.length := by rw [Array.length_toList]; rfl
    obtain ⟨c, hc⟩ : ∃ c, sg.cps.toList[r'.toNat]? = some c := ⟨_, List.getElem?_eq_getElem (by omega)⟩
    have at2 : atI sg.cps.toList r' = some c := by
      have e : r' = ((r'.toNat : Nat) : Int) := (Int.toNat_of_nonneg d0).symm
      rw [e]
      exact atI_nat hc
    refine ⟨sg, r', c, rfl, rfl, sz (by omega), at2, ?_⟩
    have B4 := B3.trans b4
    have ct : ∀ lo hi, (cutS x lo hi).length ≤ 100 := fun lo hi => Nat.le_trans (cutS_length x lo hi) lx
    have S6 := s4.le (show m + 3 + 1 ≤ m + 6 by omega)
    have c1 : (⟨#[c]⟩ : Str).length = 1 := rfl
    have fin3 : ∀ (u v w : Str), u.length ≤ 100 → v.length ≤ 1 → w.length ≤ 100 → u.length + v.length ≤ sizeLine ∧ (u ++ v).length + w.length ≤ sizeLine ∧ (u ++ v ++ w).length ≤ 50000 := fun u v w h1 h2 h3 => by
      simp only [len_app]
      exact ⟨sz (by omega), sz (by omega), by omega⟩
    refine ⟨fun σ H' => H' = H4 ∧ way ≠ 0 ∧ ∃ wd : Str, σ = [some (.ref p), some (.str x), some (.int spot), some (.int way), some (.str wd), some (.str sg), some (.str ⟨#[c]⟩), none, none, none, none, none], ?_, ?_⟩
    · refine ⟨_, rfl, rfl, _, rfl, ?_⟩
      by_cases h : way = 0
      · subst h
        obtain ⟨z1, z2, z3⟩ := fin3 (cutS x none (some spot)) ⟨#[c]⟩ (cutS x (some spot) none) (ct _ _) (Nat.le_of_eq c1) (ct _ _)
        exact if_t rfl ⟨_, rfl, _, rfl, spot, rfl, x, rfl, szx, _, rfl, _, _, rfl, rfl, z1, _, rfl, _, rfl, spot, rfl, x, rfl, szx, _, _, rfl, rfl, z2, k _ H4 B4 S6 z3⟩
      · exact if_f (decide_eq_false fun e => h (by injection e)) ⟨rfl, h, _, rfl⟩
    rintro σ H' ⟨rfl, h0, wd, rfl⟩
    refine ⟨_, rfl, rfl, _, rfl, ?_⟩
    by_cases h1 : way = 1
    · subst h1
      have z : ∀ (u v : Str), u.length ≤ 100 → v.length ≤ 100 → u.length + v.length ≤ sizeLine ∧ (u ++ v).length ≤ 50000 := fun u v h1 h2 => by
        rw [len_app]
        exact ⟨sz (by omega), by omega⟩
      obtain ⟨z1, z2⟩ := z (cutS x none (some spot)) (cutS x (some (spot + 1)) none) (ct _ _) (ct _ _)
      exact if_t rfl ⟨_, rfl, _, rfl, spot, rfl, x, rfl, szx, _, rfl, _, rfl, spot, 1, rfl, rfl, spot + 1, rfl, x, rfl, szx, _, _, rfl, rfl, z1, k _ H' B4 S6 z2⟩
    refine if_f (decide_eq_false fun e => h1 (by injection e)) ⟨_, rfl, rfl, _, rfl, ?_⟩
    by_cases h2 : way = 2
    · subst h2
      obtain ⟨z1, z2, z3⟩ := fin3 (cutS x none (some spot)) ⟨#[c]⟩ (cutS x (some (spot + 1)) none) (ct _ _) (Nat.le_of_eq c1) (ct _ _)
      exact if_t rfl ⟨_, rfl, _, rfl, spot, rfl, x, rfl, szx, _, rfl, _, _, rfl, rfl, z1, _, rfl, _, rfl, spot, 1, rfl, rfl, spot + 1, rfl, x, rfl, szx, _, _, rfl, rfl, z2, k _ H' B4 S6 z3⟩
    refine if_f (decide_eq_false fun e => h2 (by injection e)) ⟨_, rfl, rfl, _, rfl, ?_⟩
    by_cases h3 : way = 3
    · subst h3
      exact if_t rfl ⟨_, rfl, _, rfl, p, x, m + 4, rfl, by omega, s4, by omega, fun z H5 b5 s5 hz => k z H5 (B4.trans b5) s5 hz⟩
    refine if_f (decide_eq_false fun e => h3 (by injection e)) ?_
    refine ⟨_, rfl, by show 2 ≤ _; decide, fun t ht => ⟨t, _, rfl, .inr (SqT.of upd_same), rfl, rfl, _, rfl, ?_⟩⟩
    have e5 := Evl.Ex.new (o := .tup [.int 4, .int 5]) ht
    generalize upd H' t (.tup [.int 4, .int 5]) = H5 at e5 ⊢
    by_cases h45 : way = 4 ∨ way = 5
    · have pick : ∃ bt : Str, atI [V.str " ", V.str "-"] (way - 4) = some (.str bt) ∧ bt.length = 1 ∧ (bt = " " ∨ bt = "-") := by
        rcases h45 with rfl | rfl
        · exact ⟨_, rfl, rfl, .inl rfl⟩
        · exact ⟨_, rfl, rfl, .inr rfl⟩
      obtain ⟨bt, atb, lb, hbt⟩ := pick
      refine if_t (by rcases h45 with rfl | rfl <;> rfl) ?_
      refine ⟨by show 2 ≤ _; decide, fun l2 hl2 => ⟨_, rfl, _, _, rfl, rfl, l2, _, way - 4, _, rfl, rfl, SqL.of upd_same, atb, ?_⟩⟩
      have e6 := e5.trans (Evl.Ex.new (o := .lst [.str " ", .str "-"]) hl2)
      generalize upd H5 l2 (.lst [.str " ", .str "-"]) = H6 at e6 ⊢
      refine ⟨_, rfl, ⟨_, rfl⟩, _, rfl, x, bt, rfl, rfl, by rw [lb]; rfl, sz (by omega), fun L hL => ?_⟩
      have n0 : 0 < (Txt.split x bt).length := List.length_pos_iff.mpr (split_ne hbt)
      have n1 : (Txt.split x bt).length ≤ x.length + 1 := split_cnt (by omega)
      have le : ∀ z ∈ Txt.split x bt, z.length ≤ 100 := fun z hz => Nat.le_trans (split_mem_le hz) lx
      generalize Txt.split x bt = bs at n0 n1 le ⊢
      have e7 := e6.trans (Evl.Ex.new (o := .lst (bs.map V.str)) hL)
      have gL : (upd H6 L (.lst (bs.map V.str))) L = some (.lst (bs.map V.str)) := upd_same
      have Lp : L ≠ p := fun e => by
        obtain ⟨a, b, c, hp, q⟩ := S6
        rw [e, e6 _ _ hp] at hL; cases hL
      generalize upd H6 L (.lst (bs.map V.str)) = H7 at e7 gL ⊢
      have s7 : Sk H7 p (m + 4) := by
        obtain ⟨a, b, c, hp, q⟩ := s4
        exact ⟨a, b, c, e7 _ _ hp, q⟩
      have ln : (bs.map V.str).length = bs.length := List.length_map ..
      refine ⟨_, rfl, _, rfl, L, _, rfl, .inl (SqL.of gL), p, _, m + 4, rfl, s7, by omega, by rw [ln]; omega, by rw [ln]; omega, fun ra H8 f0 f1 b8 s8 _ => ?_⟩
      have g8 := b8 _ _ Lp gL
      refine ⟨_, rfl, _, rfl, L, _, rfl, .inl (SqL.of g8), p, _, m + 5, rfl, s8, by omega, by rw [ln]; omega, by rw [ln]; omega, fun rb H9 k0 k1 b9 s9 _ => ⟨_, _, rfl, ?_⟩⟩
      have g9 := b9 _ _ Lp g8
      rw [ln] at f1 k1
      obtain ⟨ja, rfl⟩ : ∃ ja : Nat, ra = (ja : Int) := ⟨ra.toNat, (Int.toNat_of_nonneg f0).symm⟩
      obtain ⟨jb, rfl⟩ : ∃ jb : Nat, rb = (jb : Int) := ⟨rb.toNat, (Int.toNat_of_nonneg k0).symm⟩
      have ia : ja < bs.length := by omega
      have ib : jb < bs.length := by omega
      have atS : ∀ (zs : List Str) (j : Nat) (h : j < zs.length), atI (zs.map V.str) (j : Int) = some (.str zs[j]) := fun zs j h => atI_nat (by rw [List.getElem?_map, List.getElem?_eq_getElem h]; rfl)
      have ixS : ∀ (zs : List Str) (j : Nat) (h : j < zs.length), ixN (zs.map V.str).length (j : Int) = some j := fun zs j h => by
        unfold ixN
        rw [if_pos (by omega), List.length_map]
        simp [h]
      refine ⟨_, rfl, _, rfl, L, _, _, _, rfl, rfl, SqL.of g9, atS bs ja ia, ?_⟩
      refine ⟨_, rfl, _, rfl, L, _, _, _, rfl, rfl, SqL.of g9, atS bs jb ib, ?_⟩
      refine ⟨_, rfl, _, rfl, L, _, _, ja, rfl, rfl, g9, ixS bs ja ia, ?_⟩
      rw [set_strs]
      refine ⟨_, rfl, _, rfl, _, rfl, L, _, _, jb, rfl, rfl, upd_same, ixS _ jb (by rw [List.length_set]; exact ib), ?_⟩
      rw [set_strs]
      have all : ∀ z ∈ (bs.set ja bs[jb]).set jb bs[ja], z.length ≤ 100 := fun z hz => by
        rcases List.mem_or_eq_of_mem_set hz with hz | rfl
        · rcases List.mem_or_eq_of_mem_set hz with hz | rfl
          · exact le z hz
          · exact le _ (List.getElem_mem _)
        · exact le _ (List.getElem_mem _)
      have lz : ((bs.set ja bs[jb]).set jb bs[ja]).length = bs.length := by rw [List.length_set, List.length_set]
      generalize (bs.set ja bs[jb]).set jb bs[ja] = ys at all lz ⊢
      have hs := sum_le all
      have hj := join_len bt ys
      rw [lb] at hj
      have hb : (Txt.join bt ys).length ≤ 50000 := by rw [lz] at hs hj; omega
      refine ⟨_, rfl, ⟨_, rfl⟩, _, rfl, bt, L, ys, rfl, rfl, .inl (SqL.of upd_same), by rw [lb, lz]; rw [lz] at hs; omega, k _ _ ?_ ?_ hb⟩
      · have hn : H L = none := by
          cases q : H L with
          | none => rfl
          | some o => rw [e6 _ _ (B4 _ _ Lp q)] at hL; cases hL
        intro c o hc ho
        have cL : c ≠ L := fun e => by rw [e, hn] at ho; cases ho
        rw [upd_ne cL, upd_ne cL]
        exact b9 _ _ hc (b8 _ _ hc (e7 _ _ (B4 _ _ hc ho)))
      · obtain ⟨a, b, c, hp, q⟩ := s9
        exact ⟨a, b, c, by rw [upd_ne (Ne.symm Lp), upd_ne (Ne.symm Lp)]; exact hp, q⟩
    · refine if_f (by show inV (.int way) [.int 4, .int 5] = false; have n4 : way ≠ 4 := fun e => h45 (.inl e); have n5 : way ≠ 5 := fun e => h45 (.inr e); simp [inV, eqV, Ne.symm n4, Ne.symm n5]) ⟨_, rfl, k x H5 (B4.trans (But.of_ex e5)) ?_ (by omega)⟩
      obtain ⟨a, b, c, hp, q⟩ := S6
      exact ⟨a, b, c, e5 _ _ hp, q⟩
end
end V2


namespace V2
open PySem L2
open PySem.Spec PyProof.Rows
abbrev rStr6 : TE := fun σ H Q => (tCons (tVar 6) tNil) σ H fun xs H1 => ∃ i : Int, xs = [.int i] ∧ i.natAbs.log2 < 1920 ∧ Q (.str (nT i)) H1
def spRi55 : Sp := fun vs H Q _ => ∃ (p : Addr) (m : Nat), vs = [.ref p] ∧ Sk H p m ∧ m ≤ 70000 ∧ ∀ H', But p H H' → Sk H' p (m + 80) → Q (.bl true) H'
theorem rdP_uniq {x : Str} {ms ns : List Int} (h1 : RdP x ms) (h2 : RdP x ns) : ms = ns := by
  have z : pcs ("0" : Str) = [nT 0] := by decide +kernel
  rcases h1 with ⟨hx, rfl⟩ | ⟨a1, a2, a3⟩ <;> rcases h2 with ⟨hy, rfl⟩ | ⟨c1, c2, c3⟩
  · rfl
  · rw [hx, z] at c1
    have := nT_maps (ms := [0]) (ns := ns) c1 (by simp) c2
    subst this
    exact absurd rfl c3
  · rw [hy, z] at a1
    have := nT_maps (ms := [0]) (ns := ms) a1 (by simp) a2
    subst this
    exact absurd rfl a3
  · exact nT_maps (a1.symm.trans c1) a2 c2
theorem shaped_nest (ns : List Int) : SeqAt.shaped (.list [.list (ns.map .int)]) = true := by
  have h1 : ∀ l : List Int, PyData.canLayAll0 (l.map .int) = true := by
    intro l
    induction l with
    | nil => rfl
    | cons n r ih => simp [PyData.canLayAll0, PyData.canLay0, ih]
  have h2 : ∀ l : List Int, PyData.depthAll (l.map .int) ≤ 1 := by
    intro l
    induction l with
    | nil => simp [PyData.depthAll]
    | cons n r ih => simp [PyData.depthAll, PyData.depth]; omega
  have h3 := h2 ns
  unfold SeqAt.shaped
  simp [PyData.canLay0, PyData.canLayAll0, PyData.depth, PyData.depthAll, h1 ns]
  omega
section
variable {base : Heap} {mg : Str → Option Value} {K : PySem.W.Frag} {w : World} {P : Program}
theorem ok_l_right55 {f : Addr} {fd : FuncData} (F : Fun K "_law_right" "_law_right" s_l_right f fd) (mR : mg "range" = none) (mS : mg "str" = none) (mL : mg "len" = none) (cC : Cal P w K mg base 1 "_law_coin" p_l_coin spCoin) (cM : Cal P w K mg base 3 "_law_marred_one" p_l_marred_one spMar) (cA : Cal P w K mg base 5 "_law_caught_one" p_l_caught_one spCau) (cP : Cal P w K mg base 2 "_law_polynomial_of" p_l_polynomial_of spPolT) : FnOk P w K mg base CX0 6 f fd p_l_right spRi55 := by
  refine F.ok sc_l_right (fun vs H Q E h => ?_) (fun cdv A outer s H vs Q E hr h => ?_)
  · obtain ⟨p, m, rfl, _⟩ := h
    rfl
  · obtain ⟨sk, m, rfl, hS, hm, k⟩ := h
    have nd := sc_l_right.nd
    have n200 := n200e
    have r1 : Room 1 _ := hr.mono (by decide)
    have r2 : Room 2 _ := hr.mono (by decide)
    have r3 : Room 3 _ := hr.mono (by decide)
    refine ⟨_, pss_cons (ps_set (i := 1) nd rfl (Or.inr rfl) (pe_ix ix_list (pe_lst (pa_cons pe_int (pa_cons pe_int (pa_cons (pe_op op_powX pe_int pe_int) pa_nil)))) (pe_c cC r1 (pa_cons (pv 0) (pa_cons pe_int pa_nil))) (fun _ _ => rfl)))
      (pss_cons (ps_setLc (i := 2) (own := [("turn", 4)]) (g := (gName 4)) (tt := tYes) (te := (tOp (rI0 fun i j => .int (i - j)) (tCall spCoin [] E0 (tCons (tVar 0) (tCons (tOp (rI0 fun i j => .int (i + j)) (tOp (rI CMul fun i j => .int (i * j)) (tC (.int 2)) (tVar 1)) (tC (.int 1))) tNil))) (tVar 1))) rfl nd rfl rfl (sw_true rfl rfl rfl (by decide +kernel)) (pi_range1 (by rfl) mR (pa_cons (pe_op op_add pe_int (pe_c cC r1 (pa_cons (pv 0) (pa_cons pe_int pa_nil)))) pa_nil)) (blkOk_by (N := n_l_right) (sc := defScope s_l_right) (by decide +kernel)) (fun _ _ _ _ _ => (pg_name (i := 4) nd rfl (Or.inl rfl))) (fun _ _ _ _ _ => pts_nil) (fun _ _ _ _ _ => (pe_op op_sub (pe_c cC r1 (pa_cons (pv 0) (pa_cons (pe_op op_add (pe_op op_mul pe_int (pv 1)) pe_int) pa_nil))) (pv 1))))
      (pss_cons (ps_set (i := 3) nd rfl (Or.inl rfl) (pe_join pe_str (pe_lc (own := [("piece", 6)]) (g := gName 6) (tt := tYes) (te := rStr6) rfl nd (pi_list (pv 2)) (blkOk_by (N := n_l_right) (sc := defScope s_l_right) (by decide +kernel)) (fun _ _ _ _ _ => pg_name (i := 6) nd rfl (Or.inl rfl)) (fun _ _ _ _ _ => pts_nil) (fun _ _ _ _ _ => (pe_callTy call_str_int (by rfl) mS (by decide +kernel) (pa_cons (pv 6) pa_nil))))))
      (pss_cons (ps_for PassesOwn.never rfl (pi_range1 (by rfl) mR (pa_cons pe_int pa_nil)) (pg_name (i := 4) nd rfl (Or.inl rfl)) (pss_cons (ps_set (i := 5) nd rfl (Or.inl rfl) (pe_c cM r3 (pa_cons (pv 0) (pa_cons (pv 3) pa_nil))))
        (pss_one (ps_if (PW.pt (pw_and (pt_cmpR op_le (pe_callB call_len_str (by rfl) mL PySem.boot_len (pa_cons (pv 5) pa_nil)) pe_int (nomark _)) (pw_and1 (pt_cmpR (op_neD hr.units) (pe_c cA hr (pa_cons (pv 5) (pa_cons (pe_op op_fdivW (pv 4) pe_int) pa_nil))) (pe_c cP r2 (pa_cons (pv 5) pa_nil)) (nomark _))))) (pss_one (ps_ret pe_bl)) pss_nil))))
      (pss_one (ps_ret pe_bl))))), ?_⟩
    have w6 : CPowX 10 6 := pow_ok (k := 4) (n := 6) (by decide) (by decide)
    have e6 : (10 : Int) ^ (6 : Int).toNat = 1000000 := by decide
    show tOp (rIxL _) (tLst _) (tCall spCoin [] E0 _) _ _ _
    refine pick_read (xs := [.int 3, .int 12, .int (10 ^ (6 : Int).toNat)]) rfl (by decide) (by decide) rfl hS (by omega) (fun _ _ q => ⟨10, 6, rfl, rfl, w6, q⟩) fun v H1 hv b1 s1 => ?_
    obtain ⟨top, rfl, t0, t1⟩ : ∃ x, v = .int x ∧ 0 < x ∧ x ≤ 1000000 := by
      simp only [List.mem_cons, List.not_mem_nil, or_false] at hv
      rcases hv with rfl | rfl | rfl <;> exact ⟨_, rfl, by decide, by decide⟩
    refine ⟨_, rfl, sk, 8, m + 1, rfl, s1, by omega, by decide, by decide, fun y H2 y0 y1 b2 s2 z2 => ⟨1, y, rfl, rfl, 1 + y, rfl, by omega, by omega, fun D hD => ?_⟩⟩
    have D2 := sk_ne s2 hD
    have DH : H D = none := but_none (b1.trans b2) s2 hD
    refine lc_range (n := (1 + y).toNat) (fun i H' => ∃ ns : List Int, But sk H H' ∧ Sk H' sk (m + 2 + i) ∧ Li H' D ns ∧ ns.length = i ∧ ∀ z ∈ ns, z.natAbs ≤ 1000000)
      ⟨[], (b1.trans b2).trans (But.of_ex (Evl.Ex.new hD)), s2.ex (Evl.Ex.new hD), upd_same, rfl, fun z h => (by cases h)⟩ ?_ ?_
    · rintro i H3 hi ⟨ns, b3, s3, hL, hl, hb⟩
      refine ⟨rfl, ?_⟩
      unfold tYes
      refine if_t rfl ?_
      refine ⟨_, rfl, _, rfl, 2, top, rfl, rfl, .inl ⟨by decide, by decide⟩, _, _, rfl, rfl, sk, 2 * top + 1, m + 2 + i, rfl, s3, by omega, by omega, by rw [n200]; omega, fun r H4 r0 r1 b4 s4 z4 => ⟨_, rfl, _, _, rfl, rfl, ?_⟩⟩
      refine ⟨_, b4 _ _ D2 hL, ?_, ns ++ [r - top], ?_, s4.upd D2, ?_, by rw [List.length_append, hl]; rfl, fun z hz => ?_⟩
      · rw [iV_len, hl]
        exact Nat.lt_of_lt_of_le (show i < 100 by omega) (by decide)
      · exact fun c o nc e => Eq.trans (upd_ne (ne_of_none' e DH)) ((b3.trans b4) c o nc e)
      · exact Eq.trans upd_same (by unfold iV; rw [List.map_append]; rfl)
      · rcases List.mem_append.mp hz with h | h
        · exact hb z h
        · rw [List.mem_singleton.mp h]
          omega
    rintro H3 ⟨ns, b3, s3, hL, hl, hb⟩
    have l8 : ns.length ≤ 8 := by omega
    have s3 : Sk H3 sk (m + 10) := s3.le (by omega)
    have hs9 : ∀ n ∈ ns, n.natAbs ≤ 999999999 := fun n hn => by have := hb n hn; omega
    refine ⟨⟨_, rfl⟩, _, rfl, D, rfl, ⟨_, SqL.of hL⟩, fun D3 hD3 => lc_strs (ns.map nT) (by rw [List.length_map, iV_len]) (by rw [List.length_map]; omega) hD3 hL (fun _ => rfl) (fun i y z H5 Q' hi hz e5 k' => ?_) (fun H5 e5 h5 => ?_)⟩
    · obtain ⟨n, hn, rfl⟩ := iV_get hi
      rw [List.getElem?_map, hn] at hz
      cases hz
      exact ⟨_, rfl, n, rfl, log_sm (hs9 n (List.mem_of_getElem? hn)), k' _ (Evl.Ex.refl _)⟩
    have l3 : ((" " : Str)).length = 1 := rfl
    have lp : ∀ z ∈ ns.map nT, z.length ≤ 10 := fun z hz => by
      obtain ⟨n, hn, rfl⟩ := List.mem_map.mp hz
      exact nT_len (hs9 n hn)
    have hsum := sum_le lp
    rw [List.length_map] at hsum
    have hj := join_len " " (ns.map nT)
    rw [List.length_map, l3] at hj
    refine ⟨" ", D3, ns.map nT, rfl, rfl, .inl (SqL.of h5), by rw [List.length_map, l3]; omega, ?_⟩
    have lx : (Txt.join " " (ns.map nT)).length ≤ 100 := by omega
    generalize Txt.join " " (ns.map nT) = x at lx ⊢
    have b5 := b3.trans (But.of_ex (p := sk) e5)
    have s5 := s3.ex e5
    refine ⟨8, rfl, by decide, by decide, for_range (n := 8) (fun i σ H' => (∃ v4 v5, σ = [some (.ref sk), some (.int top), some (.ref D), some (.str x), v4, v5, none]) ∧ But sk H H' ∧ Sk H' sk (m + 10 + 6 * i)) ⟨⟨_, _, rfl⟩, b5, s5⟩ ?_ ?_⟩
    · rintro i σ H6 hi ⟨⟨v4, v5, rfl⟩, b6, s6⟩
      rw [Int.zero_add]
      refine ⟨_, rfl, _, rfl, sk, x, _, rfl, lx, s6, by omega, fun z H7 b7 s7 hz => ?_⟩
      refine ⟨_, rfl, z, rfl, Nat.le_trans hz (by decide), _, _, rfl, rfl, _, rfl, ?_⟩
      have again : ∀ {H8 : Hp}, Evl.Ex H7 H8 → (∃ v4 v5, ([some (.ref sk), some (.int top), some (.ref D), some (.str x), some (.int i), some (.str z), none] : L2.St) = [some (.ref sk), some (.int top), some (.ref D), some (.str x), v4, v5, none]) ∧ But sk H H8 ∧ Sk H8 sk (m + 10 + 6 * (i + 1)) := fun {H8} e8 => ⟨⟨_, _, rfl⟩, (b6.trans b7).trans (But.of_ex e8), (s7.ex e8).le (by omega)⟩
      by_cases hl3 : (z.length : Int) ≤ 3000
      · refine if_t (decide_eq_true hl3) ⟨_, rfl, _, rfl, _, 4, rfl, rfl, wide_div (b := 4) (by decide) (by decide) (by decide) (by decide), z, _, rfl, by omega, fun ns1 hr p q H8 hp e8 g1 g2 => ?_, fun hno p H8 hp e8 g1 => ?_⟩
        · refine ⟨_, rfl, z, rfl, by omega, fun ns2 hr2 p2 q2 H9 hp2 e9 g3 g4 => ?_, fun hno => absurd hr (hno ns1)⟩
          have e := rdP_uniq hr2 hr
          subst e
          have d1 : Dp K H9 (.ref p) (.list [.list (ns2.map .int)]) := .lst (SqL.of (e9 _ _ g1)) (.cons (.lst (SqL.of (e9 _ _ g2)) (dpI' _)) .nil)
          have d2 : Dp K H9 (.ref p2) (.list [.list (ns2.map .int)]) := .lst (SqL.of g3) (.cons (.lst (SqL.of g4) (dpI' _)) .nil)
          exact ⟨_, _, d1, d2, shaped_nest _, shaped_nest _, _, rfl, if_f (by rw [eqv_same (shaped_nest _)]; rfl) (again (e8.trans e9))⟩
        · refine ⟨_, rfl, z, rfl, by omega, fun ns2 hr2 => absurd hr2 (hno ns2), fun _ p2 H9 hp2 e9 g3 => ?_⟩
          exact ⟨.list [], .list [], .lst (SqL.of (e9 _ _ g1)) .nil, .lst (SqL.of g3) .nil, rfl, rfl, _, rfl, if_f rfl (again (e8.trans e9))⟩
      · exact if_f (decide_eq_false hl3) (if_f rfl (again (Evl.Ex.refl _)))
    · rintro σ H6 ⟨⟨v4, v5, rfl⟩, b6, s6⟩
      exact k H6 b6 (s6.le (by omega))
end
end V2






namespace V2
open PySem L2
open PySem.Spec PyProof.Rows
section
variable {base : Heap} {mg : Str → Option Value} {K : PySem.W.Frag} {w : World} {P : Program}
theorem ok_is_integerI {f : Addr} {fd : FuncData} (F : Fun K "is_integer" "is_integer" s_is_integer f fd) (mI : mg "isinstance" = none) (mIn : mg "int" = none) (mB : mg "bool" = none) : FnOk P w K mg base CX0 1 f fd p_is_integer spInt := by
  refine F.ok sc_is_integer (fun vs H Q E h => ?_) (fun cdv A outer s H vs Q E hr h => ?_)
  · obtain ⟨n, rfl, _⟩ := h
    rfl
  · obtain ⟨n, rfl, k⟩ := h
    refine ⟨_, pss_one (ps_ret (pe_and (pe_callB call_isi (by rfl) mI (by decide +kernel) (pa_cons (pv 0) (pa_cons (pe_bltn (v := .ty "int") (by rfl) mIn (by decide +kernel) rfl) pa_nil)))
      (pe_one (pe_not (pe_callB call_isi (by rfl) mI (by decide +kernel) (pa_cons (pv 0) (pa_cons (pe_bltn (v := .ty "bool") (by rfl) mB (by decide +kernel) rfl) pa_nil))))))), ?_⟩
    refine ⟨_, rfl, _, _, _, _, true, rfl, .ty "int", .base (.int n), kit_ty (by decide +kernel), true, rfl, if_t rfl ?_⟩
    refine ⟨_, rfl, _, _, _, _, false, rfl, .ty "bool", .base (.int n), kit_ty (by decide +kernel), false, rfl, ?_⟩
    exact k _ (Evl.Ex.refl _)
theorem ok_law55 {f : Addr} {fd : FuncData} (F : Fun K "law" "law" s_law f fd) (T : T6 mg) (cP : Cal P w K mg base 1 "_law_purse" p_l_purse (spSack K)) (cR : Cal P w K mg base 6 "_law_right" p_l_right spRi55) : FnOk P w K mg base CX0 7 f fd p_law (spLaw K) := by
  refine F.ok sc_law (fun vs H Q E h => ?_) (fun cdv A outer s H vs Q E hr h => ?_)
  · obtain ⟨a, ns, rfl, _⟩ := h
    rfl
  · obtain ⟨a, ns, rfl, hS, hl, k⟩ := h
    have nd := sc_law.nd
    have r1 : Room 1 _ := hr.mono (by decide)
    refine ⟨_, pss_cons (ps_for PassesOwn.never rfl (pi_range1 (by rfl) T.rng (pa_cons (pe_callB (call_max2 rfl) (by rfl) T.max (by decide +kernel) (pa_cons pe_int (pa_cons (pe_callB (call_min2 rfl) (by rfl) T.min (by decide +kernel) (pa_cons pe_int (pa_cons (pe_callB call_len_seq (by rfl) T.len PySem.boot_len (pa_cons (pv 0) pa_nil)) pa_nil))) pa_nil))) pa_nil)) (pg_name (i := 1) nd rfl (Or.inl rfl)) (pss_cons (ps_set (i := 2) nd rfl (Or.inl rfl) (pe_c cP r1 (pa_cons (pv 0) (pa_cons (pv 1) pa_nil))))
      (pss_one (ps_for PassesOwn.never rfl (pi_range1 (by rfl) T.rng (pa_cons pe_int pa_nil)) (pg_name (i := 3) nd rfl (Or.inl rfl)) (pss_one (ps_if (pt_not (pt_val (pe_c cR hr (pa_cons (pv 2) pa_nil)))) (pss_one (ps_ret pe_bl)) pss_nil))))))
      (pss_one (ps_ret pe_bl)), ?_⟩
    refine ⟨_, rfl, a, _, rfl, .inl hS, _, _, rfl, _, _, rfl, _, rfl, ?_, ?_, ?_⟩
    · split <;> split <;> omega
    · split <;> split <;> omega
    have hb : (if (if ((iV ns).length : Int) < 6 then ((iV ns).length : Int) else 6) > 1 then (if ((iV ns).length : Int) < 6 then ((iV ns).length : Int) else 6) else 1 : Int) ≤ 6 := by split <;> split <;> omega
    generalize (if (if ((iV ns).length : Int) < 6 then ((iV ns).length : Int) else 6) > 1 then (if ((iV ns).length : Int) < 6 then ((iV ns).length : Int) else 6) else 1 : Int) = n at hb
    refine for_range (n := n.toNat) (fun i σ H' => ∃ v1 v2 v3, σ = [some (.ref a), v1, v2, v3] ∧ SqL K H' a (iV ns)) ⟨none, none, none, rfl, hS⟩ ?_ ?_
    · rintro i σ H1 hi ⟨v1, v2, v3, rfl, hS1⟩
      refine ⟨_, rfl, _, rfl, a, ns, i, ?_, hS1, hl, by omega, fun q H2 hq e2 h2 => ?_⟩
      · rw [Int.zero_add]
        rfl
      refine ⟨2, rfl, by decide, by decide, for_range (n := 2) (fun j σ H' => (∃ v1 v3, σ = [some (.ref a), v1, some (.ref q), v3]) ∧ But q H2 H' ∧ Sk H' q (80 * j)) ⟨⟨_, _, rfl⟩, But.refl _ _, h2⟩ ?_ ?_⟩
      · rintro j σ H3 hj ⟨⟨v1, v3, rfl⟩, b3, s3⟩
        rw [Int.zero_add]
        exact ⟨_, rfl, q, _, rfl, s3, by omega, fun H4 b4 s4 => ⟨true, rfl, if_f rfl ⟨⟨_, _, rfl⟩, b3.trans b4, s4.le (by omega)⟩⟩⟩
      · rintro σ H3 ⟨⟨v1, v3, rfl⟩, b3, s3⟩
        exact ⟨_, _, _, rfl, sq_ex_but hS1 hq e2 b3⟩
    · rintro σ H1 ⟨v1, v2, v3, rfl, hS1⟩
      exact k H1
end
theorem whole {P : Program} {w : World} {K : PySem.W.Frag} {h : Heap} {mg : Str → Option Value} {fa : Addr} (X : K.In h) (G : h.Ns mainGlobals mg) (hfa : mg ("law" : Str) = some (.ref fa)) (c : lk.seen K = lk.due w) :
    ∃ fd : FuncData, (∀ (s : Shared) (v : Value), BindsTo s fd ⟨[v], []⟩ [("script", v)]) ∧ ∀ base : Heap, K.In base → base.Ns mainGlobals mg → FnG P w K mg base 7 fa fd p_law (spLaw K) := by
  have z_len : mg "len" = none := (He.free_ok X G (Lk.fact c 40 (f := bFree "len") rfl))
  have z_max : mg "max" = none := (He.free_ok X G (Lk.fact c 42 (f := bFree "max") rfl))
  have z_min : mg "min" = none := (He.free_ok X G (Lk.fact c 43 (f := bFree "min") rfl))
  have z_abs : mg "abs" = none := (He.free_ok X G (Lk.fact c 35 (f := bFree "abs") rfl))
  have z_int : mg "int" = none := (He.free_ok X G (Lk.fact c 38 (f := bFree "int") rfl))
  have z_range : mg "range" = none := (He.free_ok X G (Lk.fact c 44 (f := bFree "range") rfl))
  have z_list : mg "list" = none := (He.free_ok X G (Lk.fact c 41 (f := bFree "list") rfl))
  have z_isinstance : mg "isinstance" = none := (He.free_ok X G (Lk.fact c 39 (f := bFree "isinstance") rfl))
  have z_bool : mg "bool" = none := (He.free_ok X G (Lk.fact c 37 (f := bFree "bool") rfl))
  have z_all : mg "all" = none := (He.free_ok X G (Lk.fact c 36 (f := bFree "all") rfl))
  have z_str : mg "str" = none := (He.free_ok X G (Lk.fact c 45 (f := bFree "str") rfl))
  have t0 : T0 mg := ⟨z_len, z_max, z_abs, z_int⟩
  have L_is_integer : Lay K mg "is_integer" s_is_integer p_is_integer := lay_of X G c 0 0 rfl rfl (fun _ _ _ _ _ _ us hl => match us, hl with | [_], _ => rfl)
  have L_is_polynomial : Lay K mg "is_polynomial" s_is_polynomial p_is_polynomial := lay_of X G c 1 1 rfl rfl (fun _ _ _ _ _ _ us hl => match us, hl with | [_], _ => rfl)
  have L_read_polynomial : Lay K mg "read_polynomial" s_read_polynomial p_read_polynomial := lay_of X G c 2 2 rfl rfl (fun _ _ _ _ _ _ us hl => match us, hl with | [_], _ => rfl)
  have L_read_integer : Lay K mg "read_integer" s_read_integer p_read_integer := lay_of X G c 3 3 rfl rfl (fun _ _ _ _ _ _ us hl => match us, hl with | [_], _ => rfl)
  have L_show_polynomial : Lay K mg "show_polynomial" s_show_polynomial p_show_polynomial := lay_of X G c 4 4 rfl rfl (fun _ _ _ _ _ _ us hl => match us, hl with | [_], _ => rfl)
  have L_show_integer : Lay K mg "show_integer" s_show_integer p_show_integer := lay_of X G c 5 5 rfl rfl (fun _ _ _ _ _ _ us hl => match us, hl with | [_], _ => rfl)
  have L_l_purse : Lay K mg "_law_purse" s_l_purse p_l_purse := lay_of X G c 6 6 rfl rfl (fun _ _ _ _ _ _ us hl => match us, hl with | [_, _], _ => rfl)
  have L_l_coin : Lay K mg "_law_coin" s_l_coin p_l_coin := lay_of X G c 7 7 rfl rfl (fun _ _ _ _ _ _ us hl => match us, hl with | [_, _], _ => rfl)
  have L_l_is_number : Lay K mg "_law_is_number" s_l_is_number p_l_is_number := lay_of X G c 8 8 rfl rfl (fun _ _ _ _ _ _ us hl => match us, hl with | [_], _ => rfl)
  have L_l_polynomial_of : Lay K mg "_law_polynomial_of" s_l_polynomial_of p_l_polynomial_of := lay_of X G c 9 9 rfl rfl (fun _ _ _ _ _ _ us hl => match us, hl with | [_], _ => rfl)
  have L_l_caught_one : Lay K mg "_law_caught_one" s_l_caught_one p_l_caught_one := lay_of X G c 10 10 rfl rfl (fun _ _ _ _ _ _ us hl => match us, hl with | [_, _], _ => rfl)
  have L_l_odd_one : Lay K mg "_law_odd_one" s_l_odd_one p_l_odd_one := lay_of X G c 11 11 rfl rfl (fun _ _ _ _ _ _ us hl => match us, hl with | [_, _], _ => rfl)
  have L_l_marred_one : Lay K mg "_law_marred_one" s_l_marred_one p_l_marred_one := lay_of X G c 12 12 rfl rfl (fun _ _ _ _ _ _ us hl => match us, hl with | [_, _], _ => rfl)
  have L_l_right : Lay K mg "_law_right" s_l_right p_l_right := lay_of X G c 13 13 rfl rfl (fun _ _ _ _ _ _ us hl => match us, hl with | [_], _ => rfl)
  obtain ⟨fd_TE_init, F_TE_init, b_TE_init⟩ : LayM K "__init__" "TankError.__init__" s_TE_init _ p_TE_init := laym_of c 15 rfl (fun _ _ _ _ _ _ us hl => match us, hl with | [_, _], _ => rfl)
  obtain ⟨fdw, Fw⟩ := Lk.df c 14 rfl
  have efa := hfa.symm.trans (He.glo_ok X G (Lk.fact c 14 (f := bGlo "law") rfl))
  cases efa
  have main : ∀ base : Heap, K.In base → base.Ns mainGlobals mg → FnG P w K mg base 7 (He.ga K "law") fdw p_law (spLaw K) := fun base _ _ => by
    have ec_Unreadable : EC K (He.ga K "Unreadable") (eI K) := err_ok (Lk.fact c 29 (f := bErr "Unreadable") rfl)
    have ec_TankError : EC K (He.ga K "TankError") (eI K) := err_ok (Lk.fact c 17 (f := bErr "TankError") rfl)
    have gl_Unreadable : mg "Unreadable" = some (.ref (He.ga K "Unreadable")) := (He.glo_ok X G (Lk.fact c 28 (f := bGlo "Unreadable") rfl))
    have gl_TankError : mg "TankError" = some (.ref (He.ga K "TankError")) := (He.glo_ok X G (Lk.fact c 16 (f := bGlo "TankError") rfl))
    have gl_InvalidPolynomial : mg "InvalidPolynomial" = some (.ref (He.ga K "InvalidPolynomial")) := (He.glo_ok X G (Lk.fact c 22 (f := bGlo "InvalidPolynomial") rfl))
    have eg : EG K (eI K) := eg_ok (Lk.fact c 15 (f := bEG) rfl)
    have ut : PySem.W.exmOne K (.ref (He.ga K "Unreadable")) (.ref (He.ga K "TankError")) = some true := PySem.W.exm_ref ec_TankError.xf.exC ec_TankError.xf.hdC ec_TankError.ox.tyC (sub_ok (Lk.fact c 31 (f := bSub "Unreadable" "TankError" true) rfl))
    have kP : PySem.W.kitOne K (.ref (He.ga K "Unreadable")) (.ref (He.ga K "InvalidPolynomial")) = some false := kit_ok (Lk.fact c 32 (f := bKit "Unreadable" "InvalidPolynomial" false) rfl)
    have kU : PySem.W.kitOne K (.ref (He.ga K "Unreadable")) (.ref (He.ga K "Unreadable")) = some true := kit_ok (Lk.fact c 33 (f := bKit "Unreadable" "Unreadable" true) rfl)
    have ti := ok_TE_init (P := P) (w := w) (mg := mg) (base := base) F_TE_init
    have tH := ok_TE_initH (P := P) (w := w) (mg := mg) (base := base) F_TE_init
    have isint : Cal P w K mg base 1 "is_integer" p_is_integer spInt := L_is_integer.cal fun f fd F => ok_is_integerI F z_isinstance z_int z_bool
    have shI : Cal P w K mg base 1 "show_integer" p_show_integer spShI := L_show_integer.cal fun f fd F => ok_show_integer F z_abs z_str
    have shP : Cal P w K mg base 2 "show_polynomial" p_show_polynomial (spShP K) := L_show_polynomial.cal fun f fd F => ok_show_polynomial F shI
    have rdI : CalN P w K mg base 3 "read_integer" p_read_integer (spRdI (He.ga K "Unreadable")) := by
      obtain ⟨f, fd, F, m, kp, b⟩ := L_read_integer
      exact ⟨f, fd, ok_read_integerN F z_len z_all z_int ec_Unreadable eg gl_Unreadable ti b_TE_init, m, kp, b⟩
    have isP : Cal P w K mg base 2 "is_polynomial" p_is_polynomial spPolB := L_is_polynomial.cal fun f fd F => ok_is_polynomialB F z_isinstance z_list z_all isint
    obtain ⟨fR, fdR, FR, mR, kR, bR⟩ := L_read_polynomial
    have okR := ok_read_polynomialX FR gl_TankError rdI isP ec_Unreadable eg gl_Unreadable ti tH b_TE_init ut
    have kwR : KBn K fdR p_read_polynomial 0 ["text"] (fun us ws => us ++ ws) (fun us ws => us ++ ws) := by
      obtain ⟨ow, oe, kw, dc, pn, am, cdv, cu, sl, rfl, lk, hcd⟩ := FR.ex
      exact ⟨fun s us ws X h1 h2 => match us, ws, h1, h2 with | [], [_], _, _ => .of_eq rfl, fun r1 r2 => r1.append r2⟩
    have l_coin : Cal P w K mg base 1 "_law_coin" p_l_coin spCoin := L_l_coin.cal fun f fd F => ok_coinL F t0
    have l_purse : Cal P w K mg base 1 "_law_purse" p_l_purse (spSack K) := L_l_purse.cal fun f fd F => ok_purse F t0
    have l_num : Cal P w K mg base 1 "_law_is_number" p_l_is_number spNumT := L_l_is_number.cal fun f fd F => ok_l_is_number F z_len z_int z_str
    have l_pol : Cal P w K mg base 2 "_law_polynomial_of" p_l_polynomial_of spPolT := L_l_polynomial_of.cal fun f fd F => ok_l_polynomial_of F z_int l_num
    have l_cau : Cal P w K mg base 5 "_law_caught_one" p_l_caught_one spCau := L_l_caught_one.cal fun f fd F => ok_l_caught_one F okR mR kR bR kwR shP ec_Unreadable eg gl_TankError gl_InvalidPolynomial gl_Unreadable z_isinstance ut kP kU
    have l_odd : Cal P w K mg base 2 "_law_odd_one" p_l_odd_one spOddT := L_l_odd_one.cal fun f fd F => ok_l_odd_one F z_len l_coin
    have l_mar : Cal P w K mg base 3 "_law_marred_one" p_l_marred_one spMar := L_l_marred_one.cal fun f fd F => ok_l_marred_one F z_len l_coin l_odd
    have l_right : Cal P w K mg base 6 "_law_right" p_l_right spRi55 := L_l_right.cal fun f fd F => ok_l_right55 F z_range z_str z_len l_coin l_mar l_cau l_pol
    exact FnOk.toG (ok_law55 Fw ⟨z_range, z_len, z_max, z_min⟩ l_purse l_right)
  obtain ⟨ow, oe, kw, dc, pn, am, cdv, cu, sl, rfl, lk, hcd⟩ := Fw.ex
  exact ⟨_, fun s v => .of_eq rfl, main⟩
end V2


open PySem PySem.W PySem.Calls PyProof.Rows in
set_option maxRecDepth 99000 in
set_option maxHeartbeats 0 in
theorem PySem.Challenge.cw_valvelevels_k55_polynomials_that_are_non_holds : PySem.Challenge.rw_valvelevels_k55_polynomials_that_are_non.Holds := by
  w_on
  o_law
  refine HandSHeadRun.head_imp (r := PySem.W.OpenLaw.row PySem.Challenge.rw_valvelevels_k55_polynomials_that_are_non) (q := V2.vwK) (H := V2.lk.hook 900) (ob := fun s => V2.lk.off 900 (HandSHeadRun.getT s)) (M := 12000) (loose := V2.nms) (d := HandSHeadRun.topDef (PySem.W.OpenLaw.row PySem.Challenge.rw_valvelevels_k55_polynomials_that_are_non).prog 22) (kwd := [])
    (fun s => V2.Lk.off_eq (HandSHeadRun.getT_eq s)) V2.runK (by kernel_rfl) (by kernel_rfl) (by kernel_rfl) (by rfl) (by first | assumption | decide +kernel) (by decide +kernel) ⟨rfl, rfl, rfl, rfl, rfl, by decide +kernel⟩ ?hw ?hc
  case hw => w_witness2
  case hc =>
    refine V2.walk_GE (l := PySem.Challenge.rw_valvelevels_k55_polynomials_that_are_non) (n := 63) (k := 7) (x := "script") rfl (by decide) (by kernel_rfl) ⟨rfl, by decide, by decide⟩ ?F
    intro w mg fa h Y G hmg0
    obtain ⟨K, KX, c⟩ := Y
    have hmg : mg ("law" : PySem.Str) = some (.ref fa) := by
      have e : (HandSHeadRun.topDef (PySem.W.OpenLaw.row PySem.Challenge.rw_valvelevels_k55_polynomials_that_are_non).prog 22).name = ("law" : PySem.Str) := by kernel_rfl
      rw [← e]
      exact hmg0
    obtain ⟨fd, hb, hF⟩ := V2.whole (P := (PySem.Challenge.rw_valvelevels_k55_polynomials_that_are_non).prog) (w := w) KX G hmg c
    exact ⟨K, fd, V2.spLaw K, KX, hb, fun H a ns hl _ hS => ⟨a, ns, rfl, hS, hl, fun _ => rfl⟩, hF⟩


