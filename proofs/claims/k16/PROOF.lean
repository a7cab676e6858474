import PyProof.Rows.All
import Wide.All
import OpenK.AllK
import Wide.FinOn
import HandS.ForMost
import HandS.ForExc
import HandS.Wide
import HandS.Gcd
import HandS.IsInst
import HandS.Defaults
import HandS.Flow
import HandS.EndBits
import HandS.Property
import HandS.Walk
import HandS.Style
import PySem.Challenge.RW_valvelevels_k16_water_is_kept
import HandS.Evl
import HandS.Steps
import PyProof.ReprRoads
import HandS.Iter
import HandS.Dict
import HandS.Deep
import HandS.More
set_option Elab.async false
set_option linter.all false
set_option maxRecDepth 100000
set_option maxHeartbeats 20000000
set_option exponentiation.threshold 100000
namespace V2
/-! ## plain mathematics -/
/-- how many zeros a list begins with -/
def zer : List Int → Nat
  | [] => 0
  | x :: r => if x = 0 then zer r + 1 else 0
theorem zer_le : ∀ l : List Int, zer l ≤ l.length
  | [] => Nat.le_refl _
  | x :: r => by
    unfold zer
    split
    · have := zer_le r; simp only [List.length_cons]; omega
    · exact Nat.zero_le _
theorem zer_in : ∀ (l : List Int) (j : Nat), j < zer l → l[j]? = some 0
  | [], j, h => absurd h (Nat.not_lt_zero _)
  | x :: r, j, h => by
    unfold zer at h
    split at h
    · rename_i e
      cases j with
      | zero => simp [e]
      | succ j => simpa using zer_in r j (by omega)
    · exact absurd h (Nat.not_lt_zero _)
theorem zer_at : ∀ (l : List Int), zer l < l.length → ∃ x, l[zer l]? = some x ∧ x ≠ 0
  | [], h => absurd h (Nat.not_lt_zero _)
  | x :: r, h => by
    unfold zer at h ⊢
    split
    · rename_i e
      rw [if_pos e, List.length_cons] at h
      obtain ⟨y, h1, h2⟩ := zer_at r (by omega)
      exact ⟨y, by simpa using h1, h2⟩
    · rename_i e
      exact ⟨x, rfl, e⟩
/-- how many zeros stand at the end -/
def tz (ns : List Int) : Nat := zer ns.reverse
theorem tz_le (ns : List Int) : tz ns ≤ ns.length := by
  have := zer_le ns.reverse
  rwa [List.length_reverse] at this
theorem tz_in (ns : List Int) (j : Nat) (h : j < tz ns) : ns[ns.length - 1 - j]? = some 0 := by
  have h1 := zer_in ns.reverse j h
  have h2 := tz_le ns
  rwa [List.getElem?_reverse (by omega)] at h1
theorem tz_at (ns : List Int) (h : tz ns < ns.length) : ∃ x, ns[ns.length - 1 - tz ns]? = some x ∧ x ≠ 0 := by
  have h1 := zer_at ns.reverse (by rwa [List.length_reverse])
  obtain ⟨x, h2, h3⟩ := h1
  refine ⟨x, ?_, h3⟩
  change ns.reverse[tz ns]? = some x at h2
  rwa [List.getElem?_reverse h] at h2
/-- without the zeros at the end -/
def trm (ns : List Int) : List Int := ns.take (ns.length - tz ns)
/-- no 0 at the end -/
def Pol (ns : List Int) : Prop := ∀ x, ns[ns.length - 1]? = some x → x ≠ 0
theorem tz_pol {ns : List Int} (h : Pol ns) : tz ns = 0 := by
  cases e : tz ns with
  | zero => rfl
  | succ k =>
    exact absurd rfl (h 0 (by have := tz_in ns 0 (by omega); simpa using this))
theorem trm_pol {ns : List Int} (h : Pol ns) : trm ns = ns := by
  unfold trm
  rw [tz_pol h, Nat.sub_zero, List.take_length]
theorem pol_trm (ns : List Int) : Pol (trm ns) := by
  intro x h
  unfold trm at h
  have h2 := tz_le ns
  rw [List.length_take, Nat.min_eq_left (Nat.sub_le _ _)] at h
  by_cases h3 : tz ns < ns.length
  · obtain ⟨y, h4, h5⟩ := tz_at ns h3
    rw [List.getElem?_take, if_pos (by omega), show ns.length - tz ns - 1 = ns.length - 1 - tz ns by omega, h4] at h
    cases h; exact h5
  · rw [List.getElem?_take, if_neg (by omega)] at h
    cases h
theorem trm_len (ns : List Int) : (trm ns).length ≤ ns.length := by
  unfold trm; rw [List.length_take]; omega
theorem trm_mem {ns : List Int} {x : Int} (h : x ∈ trm ns) : x ∈ ns := List.mem_of_mem_take h
/-! ### Euclid -/
theorem mod_half {l r : Nat} (h0 : 0 < r) (h : r < l) : r * (l % r) * 2 ≤ l * r := by
  have h1 := Nat.mod_lt l h0
  have h2 : l % r + r ≤ l := by
    have := Nat.div_add_mod l r
    have h3 : 1 ≤ l / r := Nat.div_pos (Nat.le_of_lt h) h0
    have h4 : r * 1 ≤ r * (l / r) := Nat.mul_le_mul_left r h3
    omega
  have h5 : (l % r) * 2 ≤ l := by omega
  calc r * (l % r) * 2 = r * ((l % r) * 2) := by rw [Nat.mul_assoc]
    _ ≤ r * l := Nat.mul_le_mul_left r h5
    _ = l * r := Nat.mul_comm _ _
/-- behind i turns -/
def Euc (B x y i l r : Nat) : Prop := Nat.gcd l r = Nat.gcd x y ∧ l < 2 ^ B ∧ r < 2 ^ B ∧ (i = 0 ∨ (r < l ∧ l * r * 2 ^ (i - 1) < 2 ^ (2 * B)))
theorem euc_0 {B x y : Nat} (hx : x < 2 ^ B) (hy : y < 2 ^ B) : Euc B x y 0 x y := ⟨rfl, hx, hy, .inl rfl⟩
theorem euc_s {B x y i l r : Nat} (h : Euc B x y i l r) (h0 : 0 < r) : Euc B x y (i + 1) r (l % r) := by
  obtain ⟨hg, hl, hr, hi⟩ := h
  have hm := Nat.mod_lt l h0
  refine ⟨?_, hr, Nat.lt_trans hm hr, .inr ⟨hm, ?_⟩⟩
  · rw [← hg, Nat.gcd_comm r, ← Nat.gcd_rec, Nat.gcd_comm]
  · rw [Nat.add_sub_cancel]
    rcases hi with rfl | ⟨hlt, hb⟩
    · rw [Nat.pow_zero, Nat.mul_one, Nat.two_mul, Nat.pow_add]
      exact Nat.mul_lt_mul'' hr (Nat.lt_trans hm hr)
    · cases i with
      | zero =>
        rw [Nat.pow_zero, Nat.mul_one, Nat.two_mul, Nat.pow_add]
        exact Nat.mul_lt_mul'' hr (Nat.lt_trans hm hr)
      | succ i =>
        rw [Nat.add_sub_cancel] at hb
        refine Nat.lt_of_le_of_lt ?_ hb
        rw [Nat.pow_succ, Nat.mul_comm (2 ^ i) 2, ← Nat.mul_assoc]
        exact Nat.mul_le_mul_right _ (mod_half h0 hlt)
theorem euc_end {B x y i l r : Nat} (h : Euc B x y i l r) (hi : 2 * B + 1 ≤ i) : r = 0 := by
  obtain ⟨_, _, _, h | ⟨hlt, hb⟩⟩ := h
  · omega
  · rcases Nat.eq_zero_or_pos r with e | e
    · exact e
    · exfalso
      have h1 : 1 * 2 ^ (2 * B) ≤ l * r * 2 ^ (i - 1) := Nat.mul_le_mul (Nat.mul_pos (by omega) e) (Nat.pow_le_pow_right (by decide) (by omega))
      omega
theorem euc_val {B x y i l : Nat} (h : Euc B x y i l 0) : l = Nat.gcd x y := by
  rw [← h.1, Nat.gcd_zero_right]
/-! ### fractions in lowest terms -/
def fr (u d : Int) : Int × Int := (u / (Int.gcd u d : Int), d / (Int.gcd u d : Int))
theorem gcd_pos {u d : Int} (h : 0 < d) : (0 : Int) < (Int.gcd u d : Int) := by
  have := Int.gcd_pos_of_ne_zero_right u (show d ≠ 0 by omega)
  omega
theorem fr_mul {u d : Int} (h : 0 < d) : u = (fr u d).1 * (Int.gcd u d : Int) ∧ d = (fr u d).2 * (Int.gcd u d : Int) :=
  ⟨(Int.ediv_mul_cancel (Int.gcd_dvd_left ..)).symm, (Int.ediv_mul_cancel (Int.gcd_dvd_right ..)).symm⟩
theorem fr_pos {u d : Int} (h : 0 < d) : 0 < (fr u d).2 := by
  have g := gcd_pos (u := u) h
  have e := (fr_mul (u := u) h).2
  rcases Int.lt_or_le 0 (fr u d).2 with h1 | h1
  · exact h1
  · exfalso
    have : (fr u d).2 * (Int.gcd u d : Int) ≤ 0 := Int.mul_nonpos_of_nonpos_of_nonneg h1 (by omega)
    omega
theorem fr_cop {u d : Int} (h : 0 < d) : Int.gcd (fr u d).1 (fr u d).2 = 1 := by
  have g := gcd_pos (u := u) h
  unfold fr
  exact Int.gcd_ediv_gcd_ediv_gcd (by omega)
/-- two fractions in lowest terms that are one number are one -/
theorem cop_eq {a b c d : Int} (hb : 0 < b) (hd : 0 < d) (h1 : Int.gcd a b = 1) (h2 : Int.gcd c d = 1) (e : a * d = c * b) : a = c ∧ b = d := by
  have hbd : b ∣ d := by
    have h3 : b ∣ a * d := ⟨c, by rw [e, Int.mul_comm]⟩
    have h4 := Int.dvd_gcd_mul_iff_dvd_mul.mpr h3
    rw [Int.gcd_comm, h1] at h4
    simpa using h4
  have hdb : d ∣ b := by
    have h3 : d ∣ c * b := ⟨a, by rw [← e, Int.mul_comm]⟩
    have h4 := Int.dvd_gcd_mul_iff_dvd_mul.mpr h3
    rw [Int.gcd_comm, h2] at h4
    simpa using h4
  have ebd : b = d := Int.dvd_antisymm (by omega) (by omega) hbd hdb
  subst ebd
  exact ⟨Int.eq_of_mul_eq_mul_right (by omega) e, rfl⟩
theorem fr_eq {a b c d : Int} (hb : 0 < b) (hd : 0 < d) (e : a * d = c * b) : fr a b = fr c d := by
  have g1 := gcd_pos (u := a) hb
  have g2 := gcd_pos (u := c) hd
  obtain ⟨a1, b1⟩ := fr_mul (u := a) hb
  obtain ⟨c1, d1⟩ := fr_mul (u := c) hd
  have k : (fr a b).1 * (fr c d).2 = (fr c d).1 * (fr a b).2 := by
    have z : ((fr a b).1 * (fr c d).2) * ((Int.gcd a b : Int) * (Int.gcd c d : Int)) = ((fr c d).1 * (fr a b).2) * ((Int.gcd a b : Int) * (Int.gcd c d : Int)) := by
      calc ((fr a b).1 * (fr c d).2) * ((Int.gcd a b : Int) * (Int.gcd c d : Int)) = ((fr a b).1 * (Int.gcd a b : Int)) * ((fr c d).2 * (Int.gcd c d : Int)) := by simp only [Int.mul_assoc, Int.mul_comm, Int.mul_left_comm]
        _ = a * d := by rw [← a1, ← d1]
        _ = c * b := e
        _ = ((fr c d).1 * (Int.gcd c d : Int)) * ((fr a b).2 * (Int.gcd a b : Int)) := by rw [← c1, ← b1]
        _ = _ := by simp only [Int.mul_assoc, Int.mul_comm, Int.mul_left_comm]
    exact Int.eq_of_mul_eq_mul_right (Int.ne_of_gt (Int.mul_pos g1 g2)) z
  obtain ⟨h1, h2⟩ := cop_eq (fr_pos hb) (fr_pos hd) (fr_cop hb) (fr_cop hd) k
  exact Prod.ext h1 h2
theorem fr_same {a b : Int} (hb : 0 < b) (h : Int.gcd a b = 1) : fr a b = (a, b) := by
  unfold fr
  rw [h]
  simp
theorem fr_val {a b : Int} (hb : 0 < b) : (fr a b).1 * b = a * (fr a b).2 := by
  obtain ⟨h1, h2⟩ := fr_mul (u := a) hb
  generalize (Int.gcd a b : Int) = g at h1 h2
  calc (fr a b).1 * b = (fr a b).1 * ((fr a b).2 * g) := by rw [← h2]
    _ = ((fr a b).1 * g) * (fr a b).2 := by simp only [Int.mul_assoc, Int.mul_comm, Int.mul_left_comm]
    _ = a * (fr a b).2 := by rw [← h1]
theorem fr_abs1 {a b : Int} (hb : 0 < b) : (fr a b).1.natAbs ≤ a.natAbs := by
  obtain ⟨h1, _⟩ := fr_mul (u := a) hb
  have g := gcd_pos (u := a) hb
  generalize Int.gcd a b = n at h1 g
  have e : a.natAbs = (fr a b).1.natAbs * n := by
    have := congrArg Int.natAbs h1
    rw [Int.natAbs_mul, Int.natAbs_natCast] at this
    exact this
  rw [e]
  exact Nat.le_mul_of_pos_right _ (by omega)
theorem fr_abs2 {a b : Int} (hb : 0 < b) : (fr a b).2.natAbs ≤ b.natAbs := by
  obtain ⟨_, h1⟩ := fr_mul (u := a) hb
  have g := gcd_pos (u := a) hb
  generalize Int.gcd a b = n at h1 g
  have e : b.natAbs = (fr a b).2.natAbs * n := by
    have := congrArg Int.natAbs h1
    rw [Int.natAbs_mul, Int.natAbs_natCast] at this
    exact this
  rw [e]
  exact Nat.le_mul_of_pos_right _ (by omega)
end V2


namespace V2
/-! ## lists by their places; sums and products of polynomials -/
def vec (N : Nat) (f : Nat → Int) : List Int := (List.range N).map f
theorem vec_len (N : Nat) (f : Nat → Int) : (vec N f).length = N := by unfold vec; simp
theorem vec_get {N : Nat} {f : Nat → Int} {i : Nat} (h : i < N) : (vec N f)[i]? = some (f i) := by
  unfold vec; simp [h]
theorem vec_ext {N : Nat} {f : Nat → Int} {l : List Int} (hl : l.length = N) (h : ∀ i, i < N → l[i]? = some (f i)) : l = vec N f := by
  apply List.ext_getElem?
  intro i
  by_cases hi : i < N
  · rw [h i hi, vec_get hi]
  · rw [List.getElem?_eq_none (by omega), List.getElem?_eq_none (by rw [vec_len]; omega)]
theorem vec_congr {N : Nat} {f g : Nat → Int} (h : ∀ i, i < N → f i = g i) : vec N f = vec N g :=
  vec_ext (vec_len N f) fun i hi => by rw [vec_get hi, h i hi]
theorem vec_set {N : Nat} {f g : Nat → Int} {p : Nat} {v : Int} (hv : g p = v) (h : ∀ i, i ≠ p → g i = f i) : (vec N f).set p v = vec N g := by
  refine vec_ext (by rw [List.length_set, vec_len]) fun i hi => ?_
  by_cases e : i = p
  · subst e
    rw [List.getElem?_set_self (by rw [vec_len]; exact hi), hv]
  · rw [List.getElem?_set_ne (fun z => e z.symm), vec_get hi, h i e]
theorem vec_zero (N : Nat) : vec N (fun _ => 0) = List.replicate N 0 := by
  symm
  refine vec_ext (by simp) fun i hi => by simp [hi]
theorem getD_at {l : List Int} {k : Nat} {x : Int} (h : l[k]? = some x) : l.getD k 0 = x := by
  rw [List.getD_eq_getElem?_getD, h]; rfl
theorem getD_out {l : List Int} {k : Nat} (h : l.length ≤ k) : l.getD k 0 = 0 := by
  rw [List.getD_eq_getElem?_getD, List.getElem?_eq_none h]; rfl
/-- the sum, zeros at the end and all -/
def padd (xs ys : List Int) : List Int := vec (max xs.length ys.length) fun k => xs.getD k 0 + ys.getD k 0
/-- the first k rows of a product, at place i -/
def cf (xs ys : List Int) : Nat → Nat → Int
  | 0, _ => 0
  | k + 1, i => cf xs ys k i + (if k ≤ i then xs.getD k 0 * ys.getD (i - k) 0 else 0)
/-- k rows, and j places of the next -/
def rw_ (xs ys : List Int) (k j i : Nat) : Int := cf xs ys k i + (if k ≤ i ∧ i < k + j then xs.getD k 0 * ys.getD (i - k) 0 else 0)
theorem rw_0 (xs ys : List Int) (k i : Nat) : rw_ xs ys k 0 i = cf xs ys k i := by
  unfold rw_; rw [if_neg (by omega), Int.add_zero]
theorem rw_end (xs ys : List Int) (k i : Nat) : rw_ xs ys k ys.length i = rw_ xs ys (k + 1) 0 i := by
  rw [rw_0]
  unfold rw_
  show _ = cf xs ys k i + (if k ≤ i then xs.getD k 0 * ys.getD (i - k) 0 else 0)
  by_cases h1 : k ≤ i
  · by_cases h2 : i < k + ys.length
    · rw [if_pos ⟨h1, h2⟩, if_pos h1]
    · rw [if_neg (by omega), if_pos h1, getD_out (l := ys) (k := i - k) (by omega), Int.mul_zero]
  · rw [if_neg (by omega), if_neg h1]
theorem rw_step {xs ys : List Int} {k j : Nat} : rw_ xs ys k (j + 1) (k + j) = rw_ xs ys k j (k + j) + xs.getD k 0 * ys.getD j 0 := by
  unfold rw_
  rw [if_pos (by omega), if_neg (by omega), Int.add_zero, show k + j - k = j by omega]
theorem rw_other {xs ys : List Int} {k j i : Nat} (h : i ≠ k + j) : rw_ xs ys k (j + 1) i = rw_ xs ys k j i := by
  unfold rw_
  by_cases h1 : k ≤ i ∧ i < k + j
  · rw [if_pos h1, if_pos (by omega)]
  · rw [if_neg h1, if_neg (by omega)]
/-- the product, at N places -/
def pmul (xs ys : List Int) : List Int := vec (xs.length + ys.length - 1) (cf xs ys xs.length)
theorem cf_nil_right (xs : List Int) : ∀ k i, cf xs [] k i = 0
  | 0, _ => rfl
  | k + 1, i => by
    show cf xs [] k i + _ = 0
    rw [cf_nil_right xs k i]
    simp
theorem tz_vec0 (N : Nat) : trm (vec N fun _ => 0) = [] := by
  have h : ∀ l : List Int, (∀ x ∈ l, x = 0) → zer l = l.length := by
    intro l
    induction l with
    | nil => intro _; rfl
    | cons x r ih =>
      intro h
      unfold zer
      rw [if_pos (h x List.mem_cons_self), ih fun y hy => h y (List.mem_cons_of_mem _ hy)]
      rfl
  unfold trm tz
  rw [h _ (fun x hx => by
    rw [List.mem_reverse, vec_zero] at hx
    exact List.eq_of_mem_replicate hx), List.length_reverse, Nat.sub_self, List.take_zero]
theorem pmul_nil (xs : List Int) : trm (pmul xs []) = [] := by
  unfold pmul
  rw [vec_congr (g := fun _ => 0) fun i _ => cf_nil_right xs _ i]
  exact tz_vec0 _
theorem nil_pmul (ys : List Int) : trm (pmul [] ys) = [] := tz_vec0 _
/-- beyond the last row nothing -/
theorem cf_high {xs ys : List Int} : ∀ (k i : Nat), k + ys.length ≤ i + 1 → k < xs.length → cf xs ys k i = 0
  | 0, _, _, _ => rfl
  | k + 1, i, h, hk => by
    show cf xs ys k i + _ = 0
    rw [cf_high k i (by omega) (by omega)]
    by_cases h1 : k ≤ i
    · rw [if_pos h1, getD_out (l := ys) (k := i - k) (by omega)]
      simp
    · rw [if_neg h1]; rfl
theorem pol_pmul {xs ys : List Int} (hx : Pol xs) (hy : Pol ys) (nx : xs ≠ []) (ny : ys ≠ []) : Pol (pmul xs ys) := by
  intro z h
  have lx : 0 < xs.length := List.length_pos_iff.mpr nx
  have ly : 0 < ys.length := List.length_pos_iff.mpr ny
  unfold pmul at h
  rw [vec_len, vec_get (by omega)] at h
  have h := Option.some.inj h
  obtain ⟨n, en⟩ : ∃ n, xs.length = n + 1 := ⟨xs.length - 1, by omega⟩
  rw [en] at h
  have h2 : cf xs ys n (n + 1 + ys.length - 1 - 1) + (if n ≤ n + 1 + ys.length - 1 - 1 then xs.getD n 0 * ys.getD (n + 1 + ys.length - 1 - 1 - n) 0 else 0) = z := h
  rw [cf_high n _ (by omega) (by omega), if_pos (by omega), show n + 1 + ys.length - 1 - 1 - n = ys.length - 1 by omega, Int.zero_add] at h2
  have ex : xs[n]? = some xs[n] := List.getElem?_eq_getElem (by omega)
  have ey : ys[ys.length - 1]? = some ys[ys.length - 1] := List.getElem?_eq_getElem (by omega)
  rw [getD_at ex, getD_at ey] at h2
  rw [← h2]
  exact Int.mul_ne_zero (hx _ (by simpa [show xs.length - 1 = n by omega] using ex)) (hy _ ey)
end V2


namespace V2
/-! ## what a polynomial is at a fraction p by q -/
def hT (p q : Int) : List Int → Int
  | [] => 0
  | a :: r => hT p q r * p + a * q ^ r.length
def hA (p q : Int) : List Int → Int
  | [] => 0
  | a :: r => a * q ^ (r.length + 1) + p * hA p q r
theorem hT_hA (p q : Int) : ∀ l : List Int, hT p q l * q = hA p q l
  | [] => by show (0 : Int) * q = 0; exact Int.zero_mul q
  | a :: r => by
    show (hT p q r * p + a * q ^ r.length) * q = a * q ^ (r.length + 1) + p * hA p q r
    rw [← hT_hA p q r, Int.pow_succ, Int.add_mul, Int.add_comm]
    congr 1
    · rw [Int.mul_assoc]
    · rw [Int.mul_comm (hT p q r) p, Int.mul_assoc]
theorem hA_snoc (p q : Int) (a : Int) : ∀ l : List Int, hA p q (l ++ [a]) = hA p q l * q + a * p ^ l.length * q
  | [] => by
    show a * q ^ (0 + 1) + p * 0 = 0 * q + a * p ^ 0 * q
    simp [Int.pow_succ]
  | b :: r => by
    show b * q ^ ((r ++ [a]).length + 1) + p * hA p q (r ++ [a]) = (b * q ^ (r.length + 1) + p * hA p q r) * q + a * p ^ (r.length + 1) * q
    rw [hA_snoc p q a r, List.length_append, List.length_singleton, Int.pow_succ q (r.length + 1), Int.pow_succ p, Int.add_mul, Int.mul_add]
    have e1 : b * (q ^ (r.length + 1) * q) = b * q ^ (r.length + 1) * q := by rw [Int.mul_assoc]
    have e2 : p * (hA p q r * q) = p * hA p q r * q := by rw [Int.mul_assoc]
    have e3 : p * (a * p ^ r.length * q) = a * (p ^ r.length * p) * q := by simp only [Int.mul_assoc, Int.mul_comm, Int.mul_left_comm]
    rw [e1, e2, e3, Int.add_assoc]
theorem hT_drop (p q : Int) (l : List Int) (k : Nat) (x : Int) (hk : k < l.length) (h : l[l.length - 1 - k]? = some x) : hT p q (l.drop (l.length - (k + 1))) = hT p q (l.drop (l.length - k)) * p + x * q ^ k := by
  have e1 : l.drop (l.length - (k + 1)) = x :: l.drop (l.length - k) := by
    have h2 : l.length - (k + 1) < l.length := by omega
    rw [List.drop_eq_getElem_cons h2]
    have h3 : l[l.length - (k + 1)] = x := by
      have : l[l.length - (k + 1)]? = some x := by rw [show l.length - (k + 1) = l.length - 1 - k by omega]; exact h
      rw [List.getElem?_eq_getElem h2] at this
      exact Option.some.inj this
    rw [h3, show l.length - (k + 1) + 1 = l.length - k by omega]
  rw [e1]
  show hT p q (l.drop (l.length - k)) * p + x * q ^ (l.drop (l.length - k)).length = _
  rw [List.length_drop, show l.length - (l.length - k) = k by omega]
theorem npow_lt {q : Int} {n : Nat} (h : q.natAbs < 2 ^ n) : ∀ k, (q ^ k).natAbs < 2 ^ (n * k + 1)
  | 0 => by
    rw [Nat.mul_zero, Nat.zero_add, Int.pow_zero]
    decide
  | k + 1 => by
    rw [Int.pow_succ, Int.natAbs_mul, Nat.mul_succ, show n * k + n + 1 = n * k + 1 + n by omega, Nat.pow_add]
    exact Nat.mul_lt_mul'' (npow_lt h k) h
theorem hT_lt {p q : Int} (hp : p.natAbs < 2 ^ 50) (hq : q.natAbs < 2 ^ 50) : ∀ (l : List Int), (∀ x ∈ l, x.natAbs < 2 ^ 64) → (hT p q l).natAbs < 2 ^ (65 + 51 * l.length)
  | [], _ => by show (0 : Int).natAbs < _; exact Nat.pow_pos (by decide)
  | a :: r, h => by
    have h1 := hT_lt hp hq r fun x hx => h x (List.mem_cons_of_mem _ hx)
    have h2 := npow_lt hq r.length
    have ha := h a List.mem_cons_self
    have m1 : (hT p q r * p).natAbs < 2 ^ (65 + 51 * r.length + 50) := by
      (rw [Int.natAbs_mul, Nat.pow_add])
      exact Nat.mul_lt_mul'' h1 hp
    have m2 : (a * q ^ r.length).natAbs < 2 ^ (64 + (50 * r.length + 1)) := by
      (rw [Int.natAbs_mul, Nat.pow_add])
      exact Nat.mul_lt_mul'' ha h2
    have m3 : (2 : Nat) ^ (64 + (50 * r.length + 1)) ≤ 2 ^ (65 + 51 * r.length + 50) := Nat.pow_le_pow_right (by decide) (by omega)
    have m4 : (2 : Nat) ^ (65 + 51 * (r.length + 1)) = 2 ^ (65 + 51 * r.length + 50) * 2 := by
      rw [← Nat.pow_succ]; congr 1
    show (hT p q r * p + a * q ^ r.length).natAbs < 2 ^ (65 + 51 * (r.length + 1))
    rw [m4]
    omega
theorem hA_lt {p q : Int} (hp : p.natAbs < 2 ^ 50) (hq : q.natAbs < 2 ^ 50) {l : List Int} (h : ∀ x ∈ l, x.natAbs < 2 ^ 64) : (hA p q l).natAbs < 2 ^ (115 + 51 * l.length) := by
  rw [← hT_hA, Int.natAbs_mul, show 115 + 51 * l.length = 65 + 51 * l.length + 50 by omega, Nat.pow_add]
  exact Nat.mul_lt_mul'' (hT_lt hp hq l h) hq
theorem qpos {q : Int} (h : 0 < q) (k : Nat) : 0 < q ^ k := Int.pow_pos h
/-- one step of the law's sum -/
theorem at_step {p q : Int} (hq : 0 < q) (pre : List Int) (a : Int) :
    let F := fr (hA p q pre) (q ^ pre.length)
    let W := fr (p ^ pre.length) (q ^ pre.length)
    let M := fr (a * W.1) (1 * W.2)
    fr (F.1 * M.2 + M.1 * F.2) (F.2 * M.2) = fr (hA p q (pre ++ [a])) (q ^ (pre.length + 1)) := by
  intro F W M
  have qk := qpos hq pre.length
  have f2 : 0 < F.2 := fr_pos qk
  have w2 : 0 < W.2 := fr_pos qk
  have w2' : 0 < 1 * W.2 := by omega
  have m2 : 0 < M.2 := fr_pos w2'
  have e1 : F.1 * q ^ pre.length = hA p q pre * F.2 := fr_val qk
  have e2 : W.1 * q ^ pre.length = p ^ pre.length * W.2 := fr_val qk
  have e3 : M.1 * (1 * W.2) = a * W.1 * M.2 := fr_val w2'
  refine fr_eq (Int.mul_pos f2 m2) (qpos hq _) ?_
  generalize F.1 = x1 at *
  generalize F.2 = x2 at *
  generalize M.1 = y1 at *
  generalize M.2 = y2 at *
  generalize W.1 = z1 at *
  generalize W.2 = z2 at *
  rw [hA_snoc, Int.pow_succ]
  generalize hA p q pre = A at *
  generalize p ^ pre.length = pk at *
  generalize q ^ pre.length = Qk at *
  rw [Int.one_mul] at e3
  have e4 : y1 * Qk = a * pk * y2 := by
    refine Int.eq_of_mul_eq_mul_right (Int.ne_of_gt w2) ?_
    calc y1 * Qk * z2 = (y1 * z2) * Qk := by simp only [Int.mul_assoc, Int.mul_comm, Int.mul_left_comm]
      _ = a * z1 * y2 * Qk := by rw [e3]
      _ = a * y2 * (z1 * Qk) := by simp only [Int.mul_assoc, Int.mul_comm, Int.mul_left_comm]
      _ = a * y2 * (pk * z2) := by rw [e2]
      _ = a * pk * y2 * z2 := by simp only [Int.mul_assoc, Int.mul_comm, Int.mul_left_comm]
  calc (x1 * y2 + y1 * x2) * (Qk * q) = (x1 * Qk) * (y2 * q) + (y1 * Qk) * (x2 * q) := by rw [Int.add_mul]; congr 1 <;> simp only [Int.mul_assoc, Int.mul_comm, Int.mul_left_comm]
    _ = (A * x2) * (y2 * q) + (a * pk * y2) * (x2 * q) := by rw [e1, e4]
    _ = (A * q + a * pk * q) * (x2 * y2) := by rw [Int.add_mul]; congr 1 <;> simp only [Int.mul_assoc, Int.mul_comm, Int.mul_left_comm]
theorem pw_step {p q : Int} (hq : 0 < q) (hc : Int.gcd p q = 1) (k : Nat) : fr ((fr (p ^ k) (q ^ k)).1 * p) ((fr (p ^ k) (q ^ k)).2 * q) = fr (p ^ (k + 1)) (q ^ (k + 1)) := by
  have qk := qpos hq k
  have e := fr_val (a := p ^ k) qk
  have f2 := fr_pos (u := p ^ k) qk
  refine fr_eq (Int.mul_pos f2 hq) (qpos hq _) ?_
  rw [Int.pow_succ, Int.pow_succ]
  generalize (fr (p ^ k) (q ^ k)).1 = x at *
  generalize (fr (p ^ k) (q ^ k)).2 = y at *
  generalize p ^ k = pk at *
  generalize q ^ k = Qk at *
  calc x * p * (Qk * q) = (x * Qk) * (p * q) := by simp only [Int.mul_assoc, Int.mul_comm, Int.mul_left_comm]
    _ = (pk * y) * (p * q) := by rw [e]
    _ = pk * p * (y * q) := by simp only [Int.mul_assoc, Int.mul_comm, Int.mul_left_comm]
/-- both tell one number -/
theorem val_same {p q : Int} (hq : 0 < q) (l : List Int) (h : l ≠ []) : fr (hT p q l) (q ^ (l.length - 1)) = fr (hA p q l) (q ^ l.length) := by
  refine fr_eq (qpos hq _) (qpos hq _) ?_
  obtain ⟨n, e⟩ : ∃ n, l.length = n + 1 := ⟨l.length - 1, by have := List.length_pos_iff.mpr h; omega⟩
  rw [e, Nat.add_sub_cancel, Int.pow_succ, ← hT_hA]
  simp only [Int.mul_assoc, Int.mul_comm, Int.mul_left_comm]
end V2


namespace V2
/-! ## what is left of a polynomial by another one: mathematics -/
def cont : List Int → Nat
  | [] => 0
  | x :: r => Nat.gcd x.natAbs (cont r)
def prim (ns : List Int) : List Int := ns.map fun x => x / (cont ns : Int)
theorem cont_dvd : ∀ {ns : List Int} {x : Int}, x ∈ ns → (cont ns : Int) ∣ x
  | y :: r, x, h => by
    rcases (List.mem_cons.mp h) with e | h
    · subst e
      exact Int.ofNat_dvd_left.mpr (Nat.gcd_dvd_left _ _)
    · exact Int.dvd_trans (Int.natCast_dvd_natCast.mpr (Nat.gcd_dvd_right _ _)) (cont_dvd h)
theorem cont_scale (a : Nat) : ∀ ns : List Int, cont (ns.map fun x => (a : Int) * x) = a * cont ns
  | [] => rfl
  | x :: r => by
    show Nat.gcd ((a : Int) * x).natAbs (cont (r.map fun x => (a : Int) * x)) = a * Nat.gcd x.natAbs (cont r)
    rw [cont_scale a r, Int.natAbs_mul, Int.natAbs_natCast, Nat.gcd_mul_left]
/-- the greatest common divisor, found from the left -/
theorem cont_fold : ∀ (ns : List Int) (g : Nat), ns.foldl (fun g x => Nat.gcd g x.natAbs) g = Nat.gcd g (cont ns)
  | [], g => by show g = Nat.gcd g 0; rw [Nat.gcd_zero_right]
  | x :: r, g => by
    show r.foldl (fun g x => Nat.gcd g x.natAbs) (Nat.gcd g x.natAbs) = Nat.gcd g (Nat.gcd x.natAbs (cont r))
    rw [cont_fold r, Nat.gcd_assoc]
theorem cont_zero : ∀ {ns : List Int}, cont ns = 0 → ∀ x ∈ ns, x = 0 := by
  intro ns h x hx
  have := cont_dvd hx
  rw [h] at this
  exact Int.zero_dvd.mp this
theorem prim_eq {xs ys : List Int} {a b : Nat} (ha : 0 < a) (hb : 0 < b) (h : (xs.map fun x => (a : Int) * x) = ys.map fun x => (b : Int) * x) : prim xs = prim ys := by
  have hc : a * cont xs = b * cont ys := by rw [← cont_scale, ← cont_scale, h]
  have hl : xs.length = ys.length := by
    have := (congrArg List.length h)
    rwa [List.length_map, List.length_map] at this
  refine List.ext_getElem (by unfold prim; rw [List.length_map, List.length_map, hl]) fun i h1 h2 => ?_
  unfold prim at h1 h2 ⊢
  rw [List.length_map] at h1 h2
  rw [List.getElem_map, List.getElem_map]
  have e : (a : Int) * xs[i] = (b : Int) * ys[i] := by
    have e1 : (xs.map fun x => (a : Int) * x)[i]'(by rw [List.length_map]; exact h1) = (ys.map fun x => (b : Int) * x)[i]'(by rw [List.length_map]; exact h2) := by
      simp only [h]
    rwa [List.getElem_map, List.getElem_map] at e1
  obtain ⟨p, hp⟩ := cont_dvd (List.getElem_mem h1)
  obtain ⟨q, hq⟩ := cont_dvd (List.getElem_mem h2)
  rcases Nat.eq_zero_or_pos (cont xs) with z | z
  · have z2 : cont ys = 0 := by
      rw [z, Nat.mul_zero] at hc
      rcases Nat.mul_eq_zero.mp hc.symm with c | c
      · omega
      · exact c
    rw [cont_zero z _ (List.getElem_mem h1), cont_zero z2 _ (List.getElem_mem h2), Int.zero_ediv, Int.zero_ediv]
  · have z2 : 0 < cont ys := by
      rcases Nat.eq_zero_or_pos (cont ys) with c | c
      · rw [c, Nat.mul_zero] at hc
        have := Nat.mul_pos ha z
        omega
      · exact c
    rw [hp, hq, Int.mul_ediv_cancel_left _ (by omega), Int.mul_ediv_cancel_left _ (by omega)]
    rw [hp, hq, ← Int.mul_assoc, ← Int.mul_assoc] at e
    have hcz : (a : Int) * (cont xs : Int) = (b : Int) * (cont ys : Int) := by
      rw [← Int.natCast_mul, ← Int.natCast_mul, hc]
    rw [hcz] at e
    exact Int.eq_of_mul_eq_mul_left (Int.ne_of_gt (Int.mul_pos (by omega) (by omega))) e
/-! ### products of functions -/
def cfF (f g : Nat → Int) : Nat → Nat → Int
  | 0, _ => 0
  | k + 1, i => cfF f g k i + (if k ≤ i then f k * g (i - k) else 0)
theorem cf_cfF (xs ys : List Int) : ∀ k i, cf xs ys k i = cfF (fun j => xs.getD j 0) (fun j => ys.getD j 0) k i
  | 0, _ => rfl
  | k + 1, i => by
    show cf xs ys k i + _ = cfF _ _ k i + _
    rw [cf_cfF xs ys k i]
theorem cfF_lin (f g h : Nat → Int) (a b : Int) : ∀ k i, cfF f (fun j => a * g j + b * h j) k i = a * cfF f g k i + b * cfF f h k i
  | 0, _ => by show (0 : Int) = a * 0 + b * 0; rw [Int.mul_zero, Int.mul_zero, Int.add_zero]
  | k + 1, i => by
    show cfF f (fun j => a * g j + b * h j) k i + (if k ≤ i then f k * (a * g (i - k) + b * h (i - k)) else 0) = a * (cfF f g k i + (if k ≤ i then f k * g (i - k) else 0)) + b * (cfF f h k i + (if k ≤ i then f k * h (i - k) else 0))
    rw [cfF_lin f g h a b k i]
    split
    · simp only [Int.mul_add, Int.mul_left_comm (f k)]
      omega
    · simp only [Int.add_zero]
theorem cfF_zero (f g : Nat → Int) : ∀ k i, (∀ j, j < k → j ≤ i → f j * g (i - j) = 0) → cfF f g k i = 0
  | 0, _, _ => rfl
  | k + 1, i, h => by
    show cfF f g k i + (if k ≤ i then f k * g (i - k) else 0) = 0
    rw [cfF_zero f g k i fun j h1 h2 => h j (by omega) h2]
    split
    · rename_i c
      rw [h k (by omega) c]
      rfl
    · rfl
/-- one number alone, at place n -/
def dlt (n : Nat) : Nat → Int := fun i => if i = n then 1 else 0
theorem cfF_dlt (f : Nat → Int) (n : Nat) : ∀ k i, cfF f (dlt n) k i = if n ≤ i ∧ i - n < k then f (i - n) else 0
  | 0, i => by show (0 : Int) = _; rw [if_neg (by omega)]
  | k + 1, i => by
    show cfF f (dlt n) k i + (if k ≤ i then f k * dlt n (i - k) else 0) = _
    rw [cfF_dlt f n k i]
    unfold dlt
    by_cases h1 : n ≤ i ∧ i - n < k
    · rw [if_pos h1, if_pos (c := n ≤ i ∧ i - n < k + 1) (by omega)]
      by_cases h3 : k ≤ i
      · rw [if_pos h3, if_neg (by omega), Int.mul_zero, Int.add_zero]
      · rw [if_neg h3, Int.add_zero]
    · rw [if_neg h1, Int.zero_add]
      by_cases h2 : n ≤ i ∧ i - n = k
      · rw [if_pos (c := k ≤ i) (by omega), if_pos (c := i - k = n) (by omega), if_pos (c := n ≤ i ∧ i - n < k + 1) (by omega), Int.mul_one, h2.2]
      · rw [if_neg (c := n ≤ i ∧ i - n < k + 1) (by omega)]
        by_cases h3 : k ≤ i
        · rw [if_pos h3, if_neg (by omega), Int.mul_zero]
        · rw [if_neg h3]
/-- the top of a product -/
theorem cfF_top (f g : Nat → Int) (m n : Nat) (h : ∀ i, n < i → g i = 0) : cfF f g (m + 1) (n + m) = f m * g n := by
  show cfF f g m (n + m) + (if m ≤ n + m then f m * g (n + m - m) else 0) = _
  rw [cfF_zero f g m (n + m) fun j h1 h2 => by rw [h _ (by omega), Int.mul_zero], if_pos (by omega), Nat.add_sub_cancel, Int.zero_add]
theorem cfF_null {f g : Nat → Int} {m : Nat} (hf : f m ≠ 0) (hz : ∀ i, m ≤ i → cfF f g (m + 1) i = 0) : ∀ n, (∀ i, n ≤ i → g i = 0) → ∀ i, g i = 0
  | 0, h, i => h i (Nat.zero_le _)
  | n + 1, h, i => by
    refine cfF_null hf hz n (fun j hj => ?_) i
    rcases Nat.lt_or_ge n j with c | c
    · exact h j c
    · have e : j = n := by omega
      subst e
      have h1 := cfF_top f g m j fun i hi => h i hi
      rw [hz (j + m) (by omega)] at h1
      rcases Int.mul_eq_zero.mp h1.symm with z | z
      · exact absurd z hf
      · exact z
/-- L is what is left of P by B, up to a factor above 0 -/
def Rm (P B L : List Int) : Prop := Pol L ∧ L.length < B.length ∧ ∃ (g : Int) (q : Nat → Int) (N : Nat), 0 < g ∧ (∀ i, N ≤ i → q i = 0) ∧ ∀ i, g * P.getD i 0 = cfF (fun j => B.getD j 0) q B.length i + L.getD i 0
theorem getD_pol {L : List Int} (h : Pol L) {n : Nat} (hn : L.length = n + 1) : L.getD n 0 ≠ 0 := by
  have e : L[n]? = some L[n] := List.getElem?_eq_getElem (by omega)
  rw [getD_at e]
  refine h _ ?_
  have e2 : L.length - 1 = n := by omega
  rw [e2]
  exact e
theorem pol_len {L M : List Int} (hL : Pol L) (hM : Pol M) {a b : Int} (ha : 0 < a) (hb : 0 < b) (h : ∀ i, a * L.getD i 0 = b * M.getD i 0) : L.length ≤ M.length := by
  rcases Nat.lt_or_ge M.length L.length with c | c
  · exfalso
    obtain ⟨n, hn⟩ : ∃ n, L.length = n + 1 := ⟨L.length - 1, by omega⟩
    have h1 := h n
    rw [getD_out (l := M) (by omega), Int.mul_zero] at h1
    rcases Int.mul_eq_zero.mp h1 with z | z
    · omega
    · exact getD_pol hL hn z
  · exact c
theorem Rm.uniq {P B L M : List Int} (hB : Pol B) (h : Rm P B L) (k : Rm P B M) : prim L = prim M := by
  obtain ⟨l1, l2, g, q, N, g0, qz, qe⟩ := h
  obtain ⟨m1, m2, c, r, R, c0, rz, re⟩ := k
  obtain ⟨m, hm⟩ : ∃ m, B.length = m + 1 := ⟨B.length - 1, by omega⟩
  rw [hm] at qe re l2 m2
  have hw : ∀ i, cfF (fun j => B.getD j 0) (fun j => c * q j + (-g) * r j) (m + 1) i = g * M.getD i 0 - c * L.getD i 0 := by
    intro i
    rw [cfF_lin]
    have h1 := qe i
    have h2 := re i
    have h3 : c * (g * P.getD i 0) = g * (c * P.getD i 0) := Int.mul_left_comm _ _ _
    rw [h1, h2, Int.mul_add, Int.mul_add] at h3
    rw [Int.neg_mul]
    omega
  have hz : ∀ i, c * q i + (-g) * r i = 0 := by
    refine cfF_null (f := fun j => B.getD j 0) (g := fun j => c * q j + (-g) * r j) (m := m) (getD_pol hB hm) (fun i hi => ?_) (max N R) (fun i hi => ?_)
    · rw [hw i, getD_out (l := M) (by omega), getD_out (l := L) (by omega), Int.mul_zero, Int.mul_zero]
      rfl
    · show c * q i + (-g) * r i = 0
      rw [qz i (by omega), rz i (by omega), Int.mul_zero, Int.mul_zero]
      rfl
  have he : ∀ i, g * M.getD i 0 = c * L.getD i 0 := by
    intro i
    have := hw i
    rw [cfF_zero _ _ _ _ fun j _ _ => by rw [hz]; exact Int.mul_zero _] at this
    omega
  have hlen : L.length = M.length := Nat.le_antisymm (pol_len l1 m1 c0 g0 fun i => (he i).symm) (pol_len m1 l1 g0 c0 he)
  refine prim_eq (a := c.toNat) (b := g.toNat) (by omega) (by omega) ?_
  refine List.ext_getElem (by rw [List.length_map, List.length_map, hlen]) fun i h1 h2 => ?_
  rw [List.length_map] at h1 h2
  rw [List.getElem_map, List.getElem_map]
  have t := he i
  rw [getD_at (List.getElem?_eq_getElem h1), getD_at (List.getElem?_eq_getElem h2)] at t
  have ec : ((c.toNat : Nat) : Int) = c := Int.toNat_of_nonneg (by omega)
  have eg : ((g.toNat : Nat) : Int) = g := Int.toNat_of_nonneg (by omega)
  exact Eq.trans (congrArg (fun z => z * L[i]) ec) (Eq.trans t.symm (congrArg (fun z => z * M[i]) eg.symm))
theorem trm_getD (ns : List Int) (i : Nat) : (trm ns).getD i 0 = ns.getD i 0 := by
  unfold trm
  by_cases h : i < ns.length - tz ns
  · rw [List.getD_eq_getElem?_getD, List.getD_eq_getElem?_getD, List.getElem?_take, if_pos h]
  · rw [getD_out (by rw [List.length_take]; omega)]
    by_cases h2 : i < ns.length
    · have := tz_in ns (ns.length - 1 - i) (by omega)
      rw [show ns.length - 1 - (ns.length - 1 - i) = i by omega] at this
      rw [getD_at this]
    · rw [getD_out (by omega)]
end V2


namespace V2
def Rs (P B L : List Int) : Prop := ∃ (g : Int) (q : Nat → Int) (N : Nat), 0 < g ∧ (∀ i, N ≤ i → q i = 0) ∧ ∀ i, g * P.getD i 0 = cfF (fun j => B.getD j 0) q B.length i + L.getD i 0
theorem Rs.self (P B : List Int) : Rs P B P := ⟨1, fun _ => 0, 0, by decide, fun _ _ => rfl, fun i => by
  rw [cfF_zero _ _ _ _ fun _ _ _ => Int.mul_zero _, Int.one_mul, Int.zero_add]⟩
def tkn (B : List Int) (off : Nat) (t : Int) : List Int := List.replicate off 0 ++ B.map fun x => t * x
theorem tkn_getD (B : List Int) (off : Nat) (t : Int) (k : Nat) : (tkn B off t).getD k 0 = if off ≤ k then t * B.getD (k - off) 0 else 0 := by
  unfold tkn
  rw [(List.getD_eq_getElem?_getD)]
  by_cases h : off ≤ k
  · rw [if_pos h, List.getElem?_append_right (by rw [List.length_replicate]; exact h), List.length_replicate, List.getElem?_map, List.getD_eq_getElem?_getD]
    cases B[k - off]? with
    | none => show (0 : Int) = t * 0; rw [Int.mul_zero]
    | some x => rfl
  · rw [if_neg h, List.getElem?_append_left (by rw [List.length_replicate]; omega), List.getElem?_replicate, if_pos (by omega)]
    rfl
theorem tkn_len (B : List Int) (off : Nat) (t : Int) : (tkn B off t).length = off + B.length := by
  unfold tkn; rw [List.length_append, List.length_replicate, List.length_map]
/-- one step of the program -/
def stepL (B L : List Int) (g t : Int) : List Int := vec L.length fun k => g * L.getD k 0 - (tkn B (L.length - B.length) t).getD k 0
theorem vec_getD (N : Nat) (f : Nat → Int) (i : Nat) : (vec N f).getD i 0 = if i < N then f i else 0 := by
  by_cases h : i < N
  · rw [if_pos h, getD_at (vec_get h)]
  · rw [if_neg h, getD_out (by rw [vec_len]; omega)]
theorem trm_short {ns : List Int} {n : Nat} (hn : ns.length = n + 1) (h : ns.getD n 0 = 0) : (trm ns).length < ns.length := by
  rcases Nat.eq_zero_or_pos (tz ns) with z | z
  · exfalso
    obtain ⟨x, h1, h2⟩ := tz_at ns (by omega)
    rw [z, hn] at h1
    have h1 : ns[n]? = some x := h1
    rw [getD_at h1] at h
    exact h2 h
  · unfold trm
    rw [List.length_take]
    omega
theorem rs_step {P B L : List Int} (h0 : B ≠ []) (h : Rs P B L) (hl : B.length ≤ L.length) {g t : Int} (hg : 0 < g) (ht : g * L.getD (L.length - 1) 0 = t * B.getD (B.length - 1) 0) : Rs P B (trm (stepL B L g t)) ∧ (trm (stepL B L g t)).length < L.length := by
  have lb : 0 < B.length := List.length_pos_iff.mpr h0
  constructor
  · obtain ⟨c, q, N, c0, qz, qe⟩ := h
    refine ⟨g * c, fun j => g * q j + t * dlt (L.length - B.length) j, max N (L.length - B.length + 1), Int.mul_pos hg c0, fun i hi => ?_, fun i => ?_⟩
    · show g * q i + t * dlt (L.length - B.length) i = 0
      unfold dlt
      rw [qz i (by omega), if_neg (by omega), Int.mul_zero, Int.mul_zero]
      rfl
    · rw [Int.mul_assoc, qe i, cfF_lin, cfF_dlt, trm_getD, Int.mul_add]
      unfold stepL
      rw [vec_getD, tkn_getD]
      have hb : (if L.length - B.length ≤ i ∧ i - (L.length - B.length) < B.length then B.getD (i - (L.length - B.length)) 0 else 0) = if L.length - B.length ≤ i then B.getD (i - (L.length - B.length)) 0 else 0 := by
        by_cases h1 : L.length - B.length ≤ i
        · rw [if_pos h1]
          by_cases h2 : i - (L.length - B.length) < B.length
          · rw [if_pos ⟨h1, h2⟩]
          · rw [if_neg (by omega), getD_out (by omega)]
        · rw [if_neg h1, if_neg (by omega)]
      rw [hb]
      by_cases h3 : i < L.length
      · rw [if_pos h3]
        by_cases h1 : L.length - B.length ≤ i
        · rw [if_pos h1, if_pos h1]; omega
        · rw [if_neg h1, if_neg h1, Int.mul_zero]; omega
      · rw [if_neg h3, getD_out (l := L) (by omega), if_pos (by omega), getD_out (l := B) (by omega), Int.mul_zero, Int.mul_zero]
        omega
  · have := trm_short (ns := stepL B L g t) (n := L.length - 1) (by unfold stepL; rw [vec_len]; omega) (by
      unfold stepL
      rw [vec_getD, if_pos (by omega), tkn_getD, if_pos (by omega), ht, show L.length - 1 - (L.length - B.length) = B.length - 1 by omega]
      omega)
    unfold stepL at this ⊢
    rw [vec_len] at this
    exact this
/-- grow and take -/
theorem grow_take {t d : Int} (hd : d ≠ 0) : ∃ f : Int, ((Nat.gcd t.natAbs d.natAbs : Nat) : Int) = f ∧ 0 < f ∧ f.natAbs ≤ d.natAbs ∧ 0 < (if d < 0 then -d else d) / f ∧ ((if d < 0 then -d else d) / f).natAbs ≤ d.natAbs ∧ (t / f).natAbs ≤ t.natAbs ∧
    (if d < 0 then -d else d) / f * t = (if d < 0 then -(t / f) else t / f) * d := by
  refine ⟨_, rfl, ?_⟩
  have g0 : 0 < Nat.gcd t.natAbs d.natAbs := Nat.gcd_pos_of_pos_right _ (by omega)
  obtain ⟨p, hp⟩ : ((Nat.gcd t.natAbs d.natAbs : Nat) : Int) ∣ t := Int.ofNat_dvd_left.mpr (Nat.gcd_dvd_left _ _)
  obtain ⟨r, hr⟩ : ((Nat.gcd t.natAbs d.natAbs : Nat) : Int) ∣ d := Int.ofNat_dvd_left.mpr (Nat.gcd_dvd_right _ _)
  have gl : Nat.gcd t.natAbs d.natAbs ≤ d.natAbs := Nat.gcd_le_right _ (by omega)
  generalize Nat.gcd t.natAbs d.natAbs = f at *
  have f0 : (0 : Int) < (f : Int) := by omega
  have e1 : t / (f : Int) = p := by rw [hp, Int.mul_ediv_cancel_left _ (by omega)]
  have e2 : (if d < 0 then -d else d) / (f : Int) = if d < 0 then -r else r := by
    split
    · rw [hr, ← Int.mul_neg, Int.mul_ediv_cancel_left _ (by omega)]
    · rw [hr, Int.mul_ediv_cancel_left _ (by omega)]
  have ab : ∀ x : Int, x.natAbs ≤ ((f : Int) * x).natAbs := fun x => by
    rw [Int.natAbs_mul, Int.natAbs_natCast]
    exact Nat.le_mul_of_pos_left _ g0
  have r1 : d < 0 → r < 0 := fun c => by
    rcases Int.lt_or_le r 0 with z | z
    · exact z
    · have := Int.mul_nonneg (Int.le_of_lt f0) z
      omega
  have r2 : ¬ d < 0 → 0 < r := fun c => by
    rcases Int.lt_or_le 0 r with z | z
    · exact z
    · have := Int.mul_nonpos_of_nonneg_of_nonpos (Int.le_of_lt f0) z
      omega
  rw [e1, e2]
  refine ⟨f0, by omega, ?_, ?_, ?_, ?_⟩
  · split
    · have := r1 ‹_›; omega
    · exact r2 ‹_›
  · have := ab r
    rw [← hr] at this
    split <;> omega
  · have := ab p
    rw [← hp] at this
    exact this
  · split
    · conv => lhs; rw [hp]
      conv => rhs; rw [hr]
      rw [Int.neg_mul, Int.neg_mul, Int.mul_left_comm, Int.mul_left_comm p, Int.mul_comm r p]
    · conv => lhs; rw [hp]
      conv => rhs; rw [hr]
      rw [Int.mul_left_comm, Int.mul_left_comm p, Int.mul_comm r p]
end V2


namespace V2
open PySem L2
/-! the text by its places -/
def topS (i : Nat) : Stmt := PySem.Challenge.pw_valvelevels_k16_water_is_kept.main.body.getD i (.Pass ⟨0, 0, 0, 0⟩)
/-- a def in a class's body -/
def inClass (st : Stmt) (i : Nat) : Stmt := match st with
  | .ClassDef _ _ _ body _ _ _ _ _ _ _ => body.getD i (.Pass ⟨0, 0, 0, 0⟩)
  | _ => .Pass ⟨0, 0, 0, 0⟩

abbrev s__wall : Stmt := topS 1
abbrev n__wall : List Str := ["k"]
abbrev p__wall : List Str := ["k"]
theorem sc__wall : FnScope n__wall p__wall (defScope s__wall) := ⟨rfl, rfl, rfl, by decide +kernel, rfl, by decide +kernel, by decide +kernel⟩
abbrev s_order_of_fractions : Stmt := topS 3
abbrev n_order_of_fractions : List Str := ["one", "other"]
abbrev p_order_of_fractions : List Str := ["one", "other"]
theorem sc_order_of_fractions : FnScope n_order_of_fractions p_order_of_fractions (defScope s_order_of_fractions) := ⟨rfl, rfl, rfl, by decide +kernel, rfl, by decide +kernel, by decide +kernel⟩
abbrev s_sign_of : Stmt := topS 4
abbrev n_sign_of : List Str := ["number"]
abbrev p_sign_of : List Str := ["number"]
theorem sc_sign_of : FnScope n_sign_of p_sign_of (defScope s_sign_of) := ⟨rfl, rfl, rfl, by decide +kernel, rfl, by decide +kernel, by decide +kernel⟩
abbrev s_cut : Stmt := topS 5
abbrev n_cut : List Str := ["numbers", "many"]
abbrev p_cut : List Str := ["numbers"]
theorem sc_cut : FnScope n_cut p_cut (defScope s_cut) := ⟨rfl, rfl, rfl, by decide +kernel, rfl, by decide +kernel, by decide +kernel⟩
abbrev s_negated : Stmt := topS 6
abbrev n_negated : List Str := ["one", "number"]
abbrev p_negated : List Str := ["one"]
theorem sc_negated : FnScope n_negated p_negated (defScope s_negated) := ⟨rfl, rfl, rfl, by decide +kernel, rfl, by decide +kernel, by decide +kernel⟩
abbrev s_added : Stmt := topS 7
abbrev n_added : List Str := ["one", "other", "many", "mine", "yours", "k"]
abbrev p_added : List Str := ["one", "other"]
theorem sc_added : FnScope n_added p_added (defScope s_added) := ⟨rfl, rfl, rfl, by decide +kernel, rfl, by decide +kernel, by decide +kernel⟩
abbrev s_multiplied : Stmt := topS 8
abbrev n_multiplied : List Str := ["one", "other", "numbers", "k", "number", "j", "factor"]
abbrev p_multiplied : List Str := ["one", "other"]
theorem sc_multiplied : FnScope n_multiplied p_multiplied (defScope s_multiplied) := ⟨rfl, rfl, rfl, by decide +kernel, rfl, by decide +kernel, by decide +kernel⟩
abbrev s_scaled_value : Stmt := topS 9
abbrev n_scaled_value : List Str := ["one", "spot", "above", "below", "total", "power", "k", "number"]
abbrev p_scaled_value : List Str := ["one", "spot"]
theorem sc_scaled_value : FnScope n_scaled_value p_scaled_value (defScope s_scaled_value) := ⟨rfl, rfl, rfl, by decide +kernel, rfl, by decide +kernel, by decide +kernel⟩
abbrev s_sign_at_fraction : Stmt := topS 10
abbrev n_sign_at_fraction : List Str := ["one", "spot"]
abbrev p_sign_at_fraction : List Str := ["one", "spot"]
theorem sc_sign_at_fraction : FnScope n_sign_at_fraction p_sign_at_fraction (defScope s_sign_at_fraction) := ⟨rfl, rfl, rfl, by decide +kernel, rfl, by decide +kernel, by decide +kernel⟩
abbrev s_content : Stmt := topS 11
abbrev n_content : List Str := ["one", "factor", "number"]
abbrev p_content : List Str := ["one"]
theorem sc_content : FnScope n_content p_content (defScope s_content) := ⟨rfl, rfl, rfl, by decide +kernel, rfl, by decide +kernel, by decide +kernel⟩
abbrev s_primitive : Stmt := topS 12
abbrev n_primitive : List Str := ["one", "factor", "number"]
abbrev p_primitive : List Str := ["one"]
theorem sc_primitive : FnScope n_primitive p_primitive (defScope s_primitive) := ⟨rfl, rfl, rfl, by decide +kernel, rfl, by decide +kernel, by decide +kernel⟩
abbrev s_upright : Stmt := topS 13
abbrev n_upright : List Str := ["one", "told"]
abbrev p_upright : List Str := ["one"]
theorem sc_upright : FnScope n_upright p_upright (defScope s_upright) := ⟨rfl, rfl, rfl, by decide +kernel, rfl, by decide +kernel, by decide +kernel⟩
abbrev s_remainder : Stmt := topS 14
abbrev n_remainder : List Str := ["one", "other", "left", "lead", "factor", "grow", "take", "behind", "taken", "number", "k"]
abbrev p_remainder : List Str := ["one", "other"]
theorem sc_remainder : FnScope n_remainder p_remainder (defScope s_remainder) := ⟨rfl, rfl, rfl, by decide +kernel, rfl, by decide +kernel, by decide +kernel⟩
abbrev s_quotient : Stmt := topS 15
abbrev n_quotient : List Str := ["one", "other", "left", "many", "found", "at", "k", "number"]
abbrev p_quotient : List Str := ["one", "other"]
theorem sc_quotient : FnScope n_quotient p_quotient (defScope s_quotient) := ⟨rfl, rfl, rfl, by decide +kernel, rfl, by decide +kernel, by decide +kernel⟩
abbrev s_common_factor : Stmt := topS 16
abbrev n_common_factor : List Str := ["one", "other", "last", "this"]
abbrev p_common_factor : List Str := ["one", "other"]
theorem sc_common_factor : FnScope n_common_factor p_common_factor (defScope s_common_factor) := ⟨rfl, rfl, rfl, by decide +kernel, rfl, by decide +kernel, by decide +kernel⟩
abbrev s_copied : Stmt := topS 25
abbrev n_copied : List Str := ["thing", "part"]
abbrev p_copied : List Str := ["thing"]
theorem sc_copied : FnScope n_copied p_copied (defScope s_copied) := ⟨rfl, rfl, rfl, by decide +kernel, rfl, by decide +kernel, by decide +kernel⟩
abbrev s_is_integer : Stmt := topS 26
abbrev n_is_integer : List Str := ["thing"]
abbrev p_is_integer : List Str := ["thing"]
theorem sc_is_integer : FnScope n_is_integer p_is_integer (defScope s_is_integer) := ⟨rfl, rfl, rfl, by decide +kernel, rfl, by decide +kernel, by decide +kernel⟩
abbrev s_is_fraction : Stmt := topS 27
abbrev n_is_fraction : List Str := ["thing", "above", "below"]
abbrev p_is_fraction : List Str := ["thing"]
theorem sc_is_fraction : FnScope n_is_fraction p_is_fraction (defScope s_is_fraction) := ⟨rfl, rfl, rfl, by decide +kernel, rfl, by decide +kernel, by decide +kernel⟩
abbrev s_check_width : Stmt := topS 28
abbrev n_check_width : List Str := ["width"]
abbrev p_check_width : List Str := ["width"]
theorem sc_check_width : FnScope n_check_width p_check_width (defScope s_check_width) := ⟨rfl, rfl, rfl, by decide +kernel, rfl, by decide +kernel, by decide +kernel⟩
abbrev s_reduced : Stmt := topS 30
abbrev n_reduced : List Str := ["top", "bottom", "factor", "above", "below", "number", "part"]
abbrev p_reduced : List Str := ["top", "bottom"]
theorem sc_reduced : FnScope n_reduced p_reduced (defScope s_reduced) := ⟨rfl, rfl, rfl, by decide +kernel, rfl, by decide +kernel, by decide +kernel⟩
abbrev s_told_widths : Stmt := topS 32
abbrev n_told_widths : List Str := ["tanks", "spot", "above", "below", "width", "_"]
abbrev p_told_widths : List Str := ["tanks", "spot"]
theorem sc_told_widths : FnScope n_told_widths p_told_widths (defScope s_told_widths) := ⟨rfl, rfl, rfl, by decide +kernel, rfl, by decide +kernel, by decide +kernel⟩
abbrev s_first_water : Stmt := topS 33
abbrev n_first_water : List Str := ["tanks", "_", "amount"]
abbrev p_first_water : List Str := ["tanks"]
theorem sc_first_water : FnScope n_first_water p_first_water (defScope s_first_water) := ⟨rfl, rfl, rfl, by decide +kernel, rfl, by decide +kernel, by decide +kernel⟩
abbrev s_sum_of : Stmt := topS 34
abbrev n_sum_of : List Str := ["told", "total", "one"]
abbrev p_sum_of : List Str := ["told"]
theorem sc_sum_of : FnScope n_sum_of p_sum_of (defScope s_sum_of) := ⟨rfl, rfl, rfl, by decide +kernel, rfl, by decide +kernel, by decide +kernel⟩
abbrev s_together : Stmt := topS 35
abbrev n_together : List Str := ["tanks", "amounts", "widths", "k"]
abbrev p_together : List Str := ["tanks", "amounts", "widths"]
theorem sc_together : FnScope n_together p_together (defScope s_together) := ⟨rfl, rfl, rfl, by decide +kernel, rfl, by decide +kernel, by decide +kernel⟩
abbrev s_after : Stmt := topS 36
abbrev n_after : List Str := ["step", "water", "widths", "word"]
abbrev p_after : List Str := ["step", "water", "widths"]
theorem sc_after : FnScope n_after p_after (defScope s_after) := ⟨rfl, rfl, rfl, by decide +kernel, rfl, by decide +kernel, by decide +kernel⟩
abbrev s_opened : Stmt := topS 37
abbrev n_opened : List Str := ["tanks", "water", "widths", "amounts", "whole", "total", "width", "found", "k", "one"]
abbrev p_opened : List Str := ["tanks", "water", "widths"]
theorem sc_opened : FnScope n_opened p_opened (defScope s_opened) := ⟨rfl, rfl, rfl, by decide +kernel, rfl, by decide +kernel, by decide +kernel⟩
abbrev s_poured : Stmt := topS 38
abbrev n_poured : List Str := ["tank", "amount", "water", "amounts", "whole", "poured_in", "k", "one"]
abbrev p_poured : List Str := ["tank", "amount", "water"]
theorem sc_poured : FnScope n_poured p_poured (defScope s_poured) := ⟨rfl, rfl, rfl, by decide +kernel, rfl, by decide +kernel, by decide +kernel⟩
abbrev s_taken : Stmt := topS 39
abbrev n_taken : List Str := ["tank", "other", "part", "water", "amounts", "whole", "above", "below", "found", "one"]
abbrev p_taken : List Str := ["tank", "other", "part", "water"]
theorem sc_taken : FnScope n_taken p_taken (defScope s_taken) := ⟨rfl, rfl, rfl, by decide +kernel, rfl, by decide +kernel, by decide +kernel⟩
abbrev s_lead : Stmt := topS 40
abbrev n_lead : List Str := ["amount", "width", "other", "other_width", "whole", "told"]
abbrev p_lead : List Str := ["amount", "width", "other", "other_width", "whole"]
theorem sc_lead : FnScope n_lead p_lead (defScope s_lead) := ⟨rfl, rfl, rfl, by decide +kernel, rfl, by decide +kernel, by decide +kernel⟩
abbrev s_ahead : Stmt := topS 41
abbrev n_ahead : List Str := ["step", "water", "widths", "amounts", "whole", "_", "one", "other"]
abbrev p_ahead : List Str := ["step", "water", "widths"]
theorem sc_ahead : FnScope n_ahead p_ahead (defScope s_ahead) := ⟨rfl, rfl, rfl, by decide +kernel, rfl, by decide +kernel, by decide +kernel⟩
abbrev s_levels : Stmt := topS 42
abbrev n_levels : List Str := ["water", "widths", "scale", "amounts", "whole", "k", "one"]
abbrev p_levels : List Str := ["water", "widths", "scale"]
theorem sc_levels : FnScope n_levels p_levels (defScope s_levels) := ⟨rfl, rfl, rfl, by decide +kernel, rfl, by decide +kernel, by decide +kernel⟩
abbrev s_number_of : Stmt := topS 43
abbrev n_number_of : List Str := ["form", "top", "bottom"]
abbrev p_number_of : List Str := ["form"]
theorem sc_number_of : FnScope n_number_of p_number_of (defScope s_number_of) := ⟨rfl, rfl, rfl, by decide +kernel, rfl, by decide +kernel, by decide +kernel⟩
abbrev s_is_ended : Stmt := topS 44
abbrev n_is_ended : List Str := ["step", "water", "widths"]
abbrev p_is_ended : List Str := ["step", "water", "widths"]
theorem sc_is_ended : FnScope n_is_ended p_is_ended (defScope s_is_ended) := ⟨rfl, rfl, rfl, by decide +kernel, rfl, by decide +kernel, by decide +kernel⟩
abbrev s_told_levels : Stmt := topS 45
abbrev n_told_levels : List Str := ["water", "widths", "spot", "form"]
abbrev p_told_levels : List Str := ["water", "widths", "spot"]
theorem sc_told_levels : FnScope n_told_levels p_told_levels (defScope s_told_levels) := ⟨rfl, rfl, rfl, by decide +kernel, rfl, by decide +kernel, by decide +kernel⟩
abbrev s_run_of : Stmt := topS 46
abbrev n_run_of : List Str := ["tanks", "steps", "spot", "widths", "water", "index", "step"]
abbrev p_run_of : List Str := ["tanks", "steps", "spot"]
theorem sc_run_of : FnScope n_run_of p_run_of (defScope s_run_of) := ⟨rfl, rfl, rfl, by decide +kernel, rfl, by decide +kernel, by decide +kernel⟩
abbrev s_run : Stmt := topS 48
abbrev n_run : List Str := ["plan", "width"]
abbrev p_run : List Str := ["plan", "width"]
theorem sc_run : FnScope n_run p_run (defScope s_run) := ⟨rfl, rfl, rfl, by decide +kernel, rfl, by decide +kernel, by decide +kernel⟩
abbrev s_is_amount : Stmt := topS 51
abbrev n_is_amount : List Str := ["thing"]
abbrev p_is_amount : List Str := ["thing"]
theorem sc_is_amount : FnScope n_is_amount p_is_amount (defScope s_is_amount) := ⟨rfl, rfl, rfl, by decide +kernel, rfl, by decide +kernel, by decide +kernel⟩
abbrev s_is_tank : Stmt := topS 52
abbrev n_is_tank : List Str := ["thing", "width", "amount"]
abbrev p_is_tank : List Str := ["thing"]
theorem sc_is_tank : FnScope n_is_tank p_is_tank (defScope s_is_tank) := ⟨rfl, rfl, rfl, by decide +kernel, rfl, by decide +kernel, by decide +kernel⟩
abbrev s_check_tanks : Stmt := topS 53
abbrev n_check_tanks : List Str := ["tanks", "tank"]
abbrev p_check_tanks : List Str := ["tanks"]
theorem sc_check_tanks : FnScope n_check_tanks p_check_tanks (defScope s_check_tanks) := ⟨rfl, rfl, rfl, by decide +kernel, rfl, by decide +kernel, by decide +kernel⟩
abbrev s_is_ascending : Stmt := topS 54
abbrev n_is_ascending : List Str := ["told", "number", "k"]
abbrev p_is_ascending : List Str := ["told"]
theorem sc_is_ascending : FnScope n_is_ascending p_is_ascending (defScope s_is_ascending) := ⟨rfl, rfl, rfl, by decide +kernel, rfl, by decide +kernel, by decide +kernel⟩
abbrev s_is_step : Stmt := topS 55
abbrev n_is_step : List Str := ["thing", "word"]
abbrev p_is_step : List Str := ["thing"]
theorem sc_is_step : FnScope n_is_step p_is_step (defScope s_is_step) := ⟨rfl, rfl, rfl, by decide +kernel, rfl, by decide +kernel, by decide +kernel⟩
abbrev s_tanks_of : Stmt := topS 56
abbrev n_tanks_of : List Str := ["step"]
abbrev p_tanks_of : List Str := ["step"]
theorem sc_tanks_of : FnScope n_tanks_of p_tanks_of (defScope s_tanks_of) := ⟨rfl, rfl, rfl, by decide +kernel, rfl, by decide +kernel, by decide +kernel⟩
abbrev s_check_numbers : Stmt := topS 57
abbrev n_check_numbers : List Str := ["numbers", "many", "number"]
abbrev p_check_numbers : List Str := ["numbers", "many"]
theorem sc_check_numbers : FnScope n_check_numbers p_check_numbers (defScope s_check_numbers) := ⟨rfl, rfl, rfl, by decide +kernel, rfl, by decide +kernel, by decide +kernel⟩
abbrev s_check_part : Stmt := topS 58
abbrev n_check_part : List Str := ["part"]
abbrev p_check_part : List Str := ["part"]
theorem sc_check_part : FnScope n_check_part p_check_part (defScope s_check_part) := ⟨rfl, rfl, rfl, by decide +kernel, rfl, by decide +kernel, by decide +kernel⟩
abbrev s_check_step : Stmt := topS 59
abbrev n_check_step : List Str := ["step", "many"]
abbrev p_check_step : List Str := ["step", "many"]
theorem sc_check_step : FnScope n_check_step p_check_step (defScope s_check_step) := ⟨rfl, rfl, rfl, by decide +kernel, rfl, by decide +kernel, by decide +kernel⟩
abbrev s_check_index : Stmt := topS 60
abbrev n_check_index : List Str := ["index", "many"]
abbrev p_check_index : List Str := ["index", "many"]
theorem sc_check_index : FnScope n_check_index p_check_index (defScope s_check_index) := ⟨rfl, rfl, rfl, by decide +kernel, rfl, by decide +kernel, by decide +kernel⟩
abbrev s_Sc_init : Stmt := inClass (topS 62) 0
abbrev n_Sc_init : List Str := ["self", "tanks", "steps", "step"]
abbrev p_Sc_init : List Str := ["self", "tanks", "steps"]
theorem sc_Sc_init : FnScope n_Sc_init p_Sc_init (defScope s_Sc_init) := ⟨rfl, rfl, rfl, by decide +kernel, rfl, by decide +kernel, by decide +kernel⟩
abbrev s_Sc_tanks : Stmt := inClass (topS 62) 1
abbrev n_Sc_tanks : List Str := ["self"]
abbrev p_Sc_tanks : List Str := ["self"]
theorem sc_Sc_tanks : FnScope n_Sc_tanks p_Sc_tanks (defScope s_Sc_tanks) := ⟨rfl, rfl, rfl, by decide +kernel, rfl, by decide +kernel, by decide +kernel⟩
abbrev s_Sc_steps : Stmt := inClass (topS 62) 2
abbrev n_Sc_steps : List Str := ["self"]
abbrev p_Sc_steps : List Str := ["self"]
theorem sc_Sc_steps : FnScope n_Sc_steps p_Sc_steps (defScope s_Sc_steps) := ⟨rfl, rfl, rfl, by decide +kernel, rfl, by decide +kernel, by decide +kernel⟩
abbrev s_Sc_unknown : Stmt := inClass (topS 62) 3
abbrev n_Sc_unknown : List Str := ["self", "width", "_"]
abbrev p_Sc_unknown : List Str := ["self"]
theorem sc_Sc_unknown : FnScope n_Sc_unknown p_Sc_unknown (defScope s_Sc_unknown) := ⟨rfl, rfl, rfl, by decide +kernel, rfl, by decide +kernel, by decide +kernel⟩
abbrev s_Sc_getitem : Stmt := inClass (topS 62) 4
abbrev n_Sc_getitem : List Str := ["self", "at"]
abbrev p_Sc_getitem : List Str := ["self", "at"]
theorem sc_Sc_getitem : FnScope n_Sc_getitem p_Sc_getitem (defScope s_Sc_getitem) := ⟨rfl, rfl, rfl, by decide +kernel, rfl, by decide +kernel, by decide +kernel⟩
abbrev s_Sc_iter : Stmt := inClass (topS 62) 5
abbrev n_Sc_iter : List Str := ["self"]
abbrev p_Sc_iter : List Str := ["self"]
theorem sc_Sc_iter : FnScope n_Sc_iter p_Sc_iter (defScope s_Sc_iter) := ⟨rfl, rfl, rfl, by decide +kernel, rfl, by decide +kernel, by decide +kernel⟩
abbrev s_Sc_without : Stmt := inClass (topS 62) 6
abbrev n_Sc_without : List Str := ["self", "index"]
abbrev p_Sc_without : List Str := ["self", "index"]
theorem sc_Sc_without : FnScope n_Sc_without p_Sc_without (defScope s_Sc_without) := ⟨rfl, rfl, rfl, by decide +kernel, rfl, by decide +kernel, by decide +kernel⟩
abbrev s_Sc_exchanged : Stmt := inClass (topS 62) 7
abbrev n_Sc_exchanged : List Str := ["self", "index"]
abbrev p_Sc_exchanged : List Str := ["self", "index"]
theorem sc_Sc_exchanged : FnScope n_Sc_exchanged p_Sc_exchanged (defScope s_Sc_exchanged) := ⟨rfl, rfl, rfl, by decide +kernel, rfl, by decide +kernel, by decide +kernel⟩
abbrev s_Sc_len : Stmt := inClass (topS 62) 8
abbrev n_Sc_len : List Str := ["self"]
abbrev p_Sc_len : List Str := ["self"]
theorem sc_Sc_len : FnScope n_Sc_len p_Sc_len (defScope s_Sc_len) := ⟨rfl, rfl, rfl, by decide +kernel, rfl, by decide +kernel, by decide +kernel⟩
abbrev s_Sc_eq : Stmt := inClass (topS 62) 9
abbrev n_Sc_eq : List Str := ["self", "other"]
abbrev p_Sc_eq : List Str := ["self", "other"]
theorem sc_Sc_eq : FnScope n_Sc_eq p_Sc_eq (defScope s_Sc_eq) := ⟨rfl, rfl, rfl, by decide +kernel, rfl, by decide +kernel, by decide +kernel⟩
abbrev s__law_purse : Stmt := topS 64
abbrev n__law_purse : List Str := ["script", "place", "cell"]
abbrev p__law_purse : List Str := ["script", "place"]
theorem sc__law_purse : FnScope n__law_purse p__law_purse (defScope s__law_purse) := ⟨rfl, rfl, rfl, by decide +kernel, rfl, by decide +kernel, by decide +kernel⟩
abbrev s__law_coin : Stmt := topS 65
abbrev n__law_coin : List Str := ["purse", "many", "drawn", "stirred"]
abbrev p__law_coin : List Str := ["purse", "many"]
theorem sc__law_coin : FnScope n__law_coin p__law_coin (defScope s__law_coin) := ⟨rfl, rfl, rfl, by decide +kernel, rfl, by decide +kernel, by decide +kernel⟩
abbrev s__law_wl_divisor : Stmt := topS 66
abbrev n__law_wl_divisor : List Str := ["first", "second"]
abbrev p__law_wl_divisor : List Str := ["first", "second"]
theorem sc__law_wl_divisor : FnScope n__law_wl_divisor p__law_wl_divisor (defScope s__law_wl_divisor) := ⟨rfl, rfl, rfl, by decide +kernel, rfl, by decide +kernel, by decide +kernel⟩
abbrev s__law_wl_ratio : Stmt := topS 67
abbrev n__law_wl_ratio : List Str := ["first", "second", "share"]
abbrev p__law_wl_ratio : List Str := ["first", "second"]
theorem sc__law_wl_ratio : FnScope n__law_wl_ratio p__law_wl_ratio (defScope s__law_wl_ratio) := ⟨rfl, rfl, rfl, by decide +kernel, rfl, by decide +kernel, by decide +kernel⟩
abbrev s__law_wl_plus : Stmt := topS 68
abbrev n__law_wl_plus : List Str := ["first", "second"]
abbrev p__law_wl_plus : List Str := ["first", "second"]
theorem sc__law_wl_plus : FnScope n__law_wl_plus p__law_wl_plus (defScope s__law_wl_plus) := ⟨rfl, rfl, rfl, by decide +kernel, rfl, by decide +kernel, by decide +kernel⟩
abbrev s__law_wl_times : Stmt := topS 69
abbrev n__law_wl_times : List Str := ["first", "second"]
abbrev p__law_wl_times : List Str := ["first", "second"]
theorem sc__law_wl_times : FnScope n__law_wl_times p__law_wl_times (defScope s__law_wl_times) := ⟨rfl, rfl, rfl, by decide +kernel, rfl, by decide +kernel, by decide +kernel⟩
abbrev s__law_wl_less : Stmt := topS 70
abbrev n__law_wl_less : List Str := ["first", "second"]
abbrev p__law_wl_less : List Str := ["first", "second"]
theorem sc__law_wl_less : FnScope n__law_wl_less p__law_wl_less (defScope s__law_wl_less) := ⟨rfl, rfl, rfl, by decide +kernel, rfl, by decide +kernel, by decide +kernel⟩
abbrev s__law_wl_new : Stmt := topS 71
abbrev n__law_wl_new : List Str := ["shape", "deed"]
abbrev p__law_wl_new : List Str := ["shape"]
theorem sc__law_wl_new : FnScope n__law_wl_new p__law_wl_new (defScope s__law_wl_new) := ⟨rfl, rfl, rfl, by decide +kernel, rfl, by decide +kernel, by decide +kernel⟩
abbrev s__law_wl_part : Stmt := topS 72
abbrev n__law_wl_part : List Str := ["sack", "most", "foot"]
abbrev p__law_wl_part : List Str := ["sack", "most"]
theorem sc__law_wl_part : FnScope n__law_wl_part p__law_wl_part (defScope s__law_wl_part) := ⟨rfl, rfl, rfl, by decide +kernel, rfl, by decide +kernel, by decide +kernel⟩
abbrev s__law_wl_two : Stmt := topS 73
abbrev n__law_wl_two : List Str := ["sack", "many", "first"]
abbrev p__law_wl_two : List Str := ["sack", "many"]
theorem sc__law_wl_two : FnScope n__law_wl_two p__law_wl_two (defScope s__law_wl_two) := ⟨rfl, rfl, rfl, by decide +kernel, rfl, by decide +kernel, by decide +kernel⟩
abbrev s__law_wl_vats : Stmt := topS 74
abbrev n__law_wl_vats : List Str := ["sack", "many", "most", "rank", "found", "k", "amount", "size"]
abbrev p__law_wl_vats : List Str := ["sack", "many", "most"]
theorem sc__law_wl_vats : FnScope n__law_wl_vats p__law_wl_vats (defScope s__law_wl_vats) := ⟨rfl, rfl, rfl, by decide +kernel, rfl, by decide +kernel, by decide +kernel⟩
abbrev s__law_wl_deed : Stmt := topS 75
abbrev n__law_wl_deed : List Str := ["sack", "many", "most", "word", "first", "second", "some", "k"]
abbrev p__law_wl_deed : List Str := ["sack", "many", "most", "word"]
theorem sc__law_wl_deed : FnScope n__law_wl_deed p__law_wl_deed (defScope s__law_wl_deed) := ⟨rfl, rfl, rfl, by decide +kernel, rfl, by decide +kernel, by decide +kernel⟩
abbrev s__law_wl_plan : Stmt := topS 76
abbrev n__law_wl_plan : List Str := ["sack", "opens", "stops", "most", "left", "vats", "deeds", "many", "word"]
abbrev p__law_wl_plan : List Str := ["sack", "opens", "stops"]
theorem sc__law_wl_plan : FnScope n__law_wl_plan p__law_wl_plan (defScope s__law_wl_plan) := ⟨rfl, rfl, rfl, by decide +kernel, rfl, by decide +kernel, by decide +kernel⟩
abbrev s__law_wl_great : Stmt := topS 77
abbrev n__law_wl_great : List Str := ["sack", "many", "deeds", "turn", "word"]
abbrev p__law_wl_great : List Str := ["sack"]
theorem sc__law_wl_great : FnScope n__law_wl_great p__law_wl_great (defScope s__law_wl_great) := ⟨rfl, rfl, rfl, by decide +kernel, rfl, by decide +kernel, by decide +kernel⟩
abbrev s__law_wl_width : Stmt := topS 78
abbrev n__law_wl_width : List Str := ["sack", "foot"]
abbrev p__law_wl_width : List Str := ["sack"]
theorem sc__law_wl_width : FnScope n__law_wl_width p__law_wl_width (defScope s__law_wl_width) := ⟨rfl, rfl, rfl, by decide +kernel, rfl, by decide +kernel, by decide +kernel⟩
abbrev s__law_wl_fraction : Stmt := topS 79
abbrev n__law_wl_fraction : List Str := ["spot", "piece"]
abbrev p__law_wl_fraction : List Str := ["spot"]
theorem sc__law_wl_fraction : FnScope n__law_wl_fraction p__law_wl_fraction (defScope s__law_wl_fraction) := ⟨rfl, rfl, rfl, by decide +kernel, rfl, by decide +kernel, by decide +kernel⟩
abbrev s__law_step_right : Stmt := topS 80
abbrev n__law_step_right : List Str := ["deed", "ahead_v", "behind", "wides", "owed", "out", "before", "after_v", "total", "wide", "k", "lower", "higher", "level"]
abbrev p__law_step_right : List Str := ["deed", "ahead_v", "behind", "wides"]
theorem sc__law_step_right : FnScope n__law_step_right p__law_step_right (defScope s__law_step_right) := ⟨rfl, rfl, rfl, by decide +kernel, rfl, by decide +kernel, by decide +kernel⟩
abbrev s__law_waters : Stmt := topS 81
abbrev n__law_waters : List Str := ["levels_v", "wides", "k"]
abbrev p__law_waters : List Str := ["levels_v", "wides"]
theorem sc__law_waters : FnScope n__law_waters p__law_waters (defScope s__law_waters) := ⟨rfl, rfl, rfl, by decide +kernel, rfl, by decide +kernel, by decide +kernel⟩
abbrev s__law_right : Stmt := topS 82
abbrev n__law_right : List Str := ["sack", "vats", "deeds", "spot", "put_in", "wides", "ahead_v", "water", "k", "found", "behind", "deed", "vat", "level"]
abbrev p__law_right : List Str := ["sack"]
theorem sc__law_right : FnScope n__law_right p__law_right (defScope s__law_right) := ⟨rfl, rfl, rfl, by decide +kernel, rfl, by decide +kernel, by decide +kernel⟩
abbrev s_law : Stmt := topS 83
abbrev n_law : List Str := ["script", "spot", "sack"]
abbrev p_law : List Str := ["script"]
theorem sc_law : FnScope n_law p_law (defScope s_law) := ⟨rfl, rfl, rfl, by decide +kernel, rfl, by decide +kernel, by decide +kernel⟩
end V2


namespace V2
open PySem L2
open PySem.Spec PyProof.Rows
/-! ## rules of our own -/
def CPowX (i j : Int) : Prop := 0 ≤ j ∧ (Builtin.Int.intBits i : Int) * j ≤ 2 ^ 27
theorem op_powX {X : Cx} : OpR X (binaryOp .Pow) (rI CPowX fun i j => .int (i ^ j.toNat)) :=
  opI fun _ _ _ _ _ _ _ hc q => pow_int hc.1 hc.2 q
theorem pow_ok {i : Int} {k n : Nat} (hi : i.natAbs < 2 ^ k) (h : k * n ≤ 134217728) : CPowX i (n : Int) := by
  (refine ⟨Int.natCast_nonneg _, ?_⟩)
  have h1 := intBits_le hi
  have h2 : Builtin.Int.intBits i * n ≤ k * n := Nat.mul_le_mul_right n h1
  have h3 : ((Builtin.Int.intBits i * n : Nat) : Int) ≤ 134217728 := by omega
  have e : (2 : Int) ^ 27 = 134217728 := (by decide)
  rw [e, ← Int.natCast_mul]
  exact h3
/-- all but the list at p is as it was (and there may be new things) -/
def But (p : Addr) (H H' : Hp) : Prop := ∀ b o, b ≠ p → H b = some o → H' b = some o
theorem But.refl (p : Addr) (H : Hp) : But p H H := fun _ _ _ h => h
theorem But.trans {p : Addr} {H H1 H2 : Hp} (a : But p H H1) (b : But p H1 H2) : But p H H2 := fun c o n h => b c o n (a c o n h)
theorem But.of_ex {p : Addr} {H H' : Hp} (e : Evl.Ex H H') : But p H H' := fun b o _ h => e b o h
theorem But.upd {p : Addr} {H : Hp} {o : HO} : But p H (upd H p o) := fun b u n h => by
  rw [upd_ne n]; exact h
/-- the law's sack at p: three ints, at most m draws so far -/
def Sk (H : Hp) (p : Addr) (m : Nat) : Prop := ∃ a b c : Int, H p = some (.lst [.int a, .int b, .int c]) ∧ 0 ≤ a ∧ 0 ≤ b ∧ b < 2 ^ 80 ∧ 0 ≤ c ∧ c ≤ m
theorem Sk.le {H : Hp} {p : Addr} {m n : Nat} (h : Sk H p m) (l : m ≤ n) : Sk H p n := by
  obtain ⟨a, b, c, h1, h2, h3, h4, h5, h6⟩ := h
  exact ⟨a, b, c, h1, h2, h3, h4, h5, by omega⟩
theorem Sk.ex {H H' : Hp} {p : Addr} {m : Nat} (h : Sk H p m) (e : Evl.Ex H H') : Sk H' p m := by
  obtain ⟨a, b, c, h1, h2⟩ := h
  exact ⟨a, b, c, e _ _ h1, h2⟩
/-- a draw: any number below many, the sack goes on -/
def spCoin : Sp := fun vs H Q _ => ∃ (p : Addr) (many : Int) (m : Nat), vs = [.ref p, .int many] ∧ Sk H p m ∧ m ≤ 100000 ∧ 0 < many ∧ many.natAbs < 2 ^ 200 ∧
  ∀ (r : Int) (H' : Hp), 0 ≤ r → r < many → But p H H' → Sk H' p (m + 1) → (∀ q, H q = none → H' q = none) → Q (.int r) H'
structure T0 (mg : Str → Option Value) : Prop where
  len : mg "len" = none
  max : mg "max" = none
  abs : mg "abs" = none
  int : mg "int" = none
theorem at0 {a b c : V} : atI [a, b, c] 0 = some a := by rfl
theorem at1 {a b c : V} : atI [a, b, c] 1 = some b := by rfl
theorem at2 {a b c : V} : atI [a, b, c] 2 = some c := by rfl
theorem ixN3 (j : Nat) (h : j < 3) : ixN 3 (j : Int) = some j := Evl.ixN_nat h
section
variable {base : Heap} {mg : Str → Option Value} {K : PySem.W.Frag} {w : World} {P : Program}
end
end V2


namespace V2
open PySem L2
open PySem.Spec PyProof.Rows
def RetU (xs : List V) (H : Hp) (Q : VK) : Prop := ∀ p H2, H p = none → Evl.Ex H H2 → H2 p = some (.tup xs) → Q (.ref p) H2
def iV (ns : List Int) : List V := ns.map V.int
theorem iV_len (ns : List Int) : (iV ns).length = ns.length := List.length_map ..
theorem iV_at {ns : List Int} {j : Nat} {n : Int} (h : ns[j]? = some n) : (iV ns)[j]? = some (.int n) := by
  unfold iV; rw [List.getElem?_map, h]; rfl
theorem cut_to (xs : List V) {k : Nat} (h : k ≤ xs.length) : cutV xs none (some (k : Int)) = xs.take k := by
  unfold cutV HT.sIx
  have e1 : Int.toNat (k : Int) = k := Int.toNat_natCast k
  simp
  first
    | done
    | (split <;> simp_all <;> omega)
    | omega
/-- the script, the rank: a new sack -/
def spSack (K : PySem.W.Frag) : Sp := fun vs H Q _ => ∃ (a : Addr) (ns : List Int) (r : Nat), vs = [.ref a, .int (r : Int)] ∧ SqL K H a (iV ns) ∧ ns.length ≤ 63 ∧ r ≤ 63 ∧
  ∀ (q : Addr) (H' : Hp), H q = none → Evl.Ex H H' → Sk H' q 0 → Q (.ref q) H'
def spShared : Sp := fun vs H Q _ => ∃ x y : Int, vs = [.int x, .int y] ∧ x.natAbs < 2 ^ 9000 ∧ y.natAbs < 2 ^ 9000 ∧ Evl.RetV (.int (Int.gcd x y : Int)) H Q
def spRatio : Sp := fun vs H Q _ => ∃ x y : Int, vs = [.int x, .int y] ∧ x.natAbs < 2 ^ 9000 ∧ y.natAbs < 2 ^ 9000 ∧ 0 < y ∧ RetU [.int (fr x y).1, .int (fr x y).2] H Q
structure T1 (mg : Str → Option Value) (fS fR : Addr) : Prop extends T0 mg where
  rng : mg "range" = none
  lst : mg "list" = none
  gS : mg "_law_pv_shared" = some (.ref fS)
  gR : mg "_law_pv_ratio" = some (.ref fR)
section
variable {base : Heap} {mg : Str → Option Value} {K : PySem.W.Frag} {w : World} {P : Program}
end
end V2


namespace V2
open PySem L2
open PySem.Spec PyProof.Rows
/-- a def that may be called by its name x -/
def Cal (P : Program) (w : World) (K : PySem.W.Frag) (mg : Str → Option Value) (base : Heap) (k : Nat) (x : Str) (ps : List Str) (sp : Sp) : Prop :=
  ∃ (f : Addr) (fd : FuncData), FnOk P w K mg base CX0 k f fd ps sp ∧ mg x = some (.ref f) ∧ PySem.W.keepIn K (.ref f) = true ∧ Binds K fd ps []
theorem pe_c {X : Cx} {k : Nat} {x : Str} {ps : List Str} {sp : Sp} {e : Expr} {es : List Expr} {t : TA} {p pos : Pos} (c : Cal X.prog X.w X.K X.mg X.base k x ps sp) (hr : Room k X.A) (ha : PA X (e :: es) t) (hg : Gl X x := by rfl)
    (he : starEach (e :: es) X.env = (false, eval e X.env) :: starEach es X.env := by rfl)
    (hpl : (backTo pos (starEach es X.env)).any (fun b => b.1) = false := by rfl) (hdb : (x == ("__debug__" : Str)) = false := by decide) :
    PE X (.Call (.Name x p) (e :: es) [] pos) (tCall sp [] E0 t) := by
  obtain ⟨f, fd, F, hm, hk, hb⟩ := c
  exact pe_call F hr hg hm hk hb .nil pass0 ha hdb he hpl
def spAdd : Sp := fun vs H Q _ => ∃ (l r : Addr) (a b c d : Int), vs = [.ref l, .ref r] ∧ SqL2 H l a b ∧ SqL2 H r c d ∧ a.natAbs < 2 ^ 4000 ∧ b.natAbs < 2 ^ 4000 ∧ c.natAbs < 2 ^ 4000 ∧ d.natAbs < 2 ^ 4000 ∧ 0 < b ∧ 0 < d ∧
  RetU [.int (fr (a * d + c * b) (b * d)).1, .int (fr (a * d + c * b) (b * d)).2] H Q
where SqL2 (H : Hp) (l : Addr) (a b : Int) : Prop := H l = some (.tup [.int a, .int b])
def spMul : Sp := fun vs H Q _ => ∃ (l r : Addr) (a b c d : Int), vs = [.ref l, .ref r] ∧ H l = some (.tup [.int a, .int b]) ∧ H r = some (.tup [.int c, .int d]) ∧ a.natAbs < 2 ^ 4000 ∧ b.natAbs < 2 ^ 4000 ∧ c.natAbs < 2 ^ 4000 ∧ d.natAbs < 2 ^ 4000 ∧ 0 < b ∧ 0 < d ∧
  RetU [.int (fr (a * c) (b * d)).1, .int (fr (a * c) (b * d)).2] H Q
/-- a list of ints without the zeros at its end, new -/
def spTrim (K : PySem.W.Frag) : Sp := fun vs H Q _ => ∃ (a : Addr) (ns : List Int), vs = [.ref a] ∧ SqL K H a (iV ns) ∧ ns.length ≤ 1000 ∧ Evl.RetL (iV (trm ns)) H Q
theorem at2_0 {a b : V} : atI [a, b] 0 = some a := by rfl
theorem at2_1 {a b : V} : atI [a, b] 1 = some b := by rfl
theorem pw_mul {i j : Int} {n m k : Nat} (h1 : i.natAbs < 2 ^ n) (h2 : j.natAbs < 2 ^ m) (h : n + m ≤ k) : (i * j).natAbs < 2 ^ k :=
  Nat.lt_of_lt_of_le (wide_lt h1 h2) (Nat.pow_le_pow_right (by decide) h)
theorem pw_add {i j : Int} {n k : Nat} (h1 : i.natAbs < 2 ^ n) (h2 : j.natAbs < 2 ^ n) (h : n + 1 ≤ k) : (i + j).natAbs < 2 ^ k := by
  have h3 : (2 : Nat) ^ (n + 1) ≤ 2 ^ k := Nat.pow_le_pow_right (by decide) h
  rw [Nat.pow_succ] at h3
  omega
section
variable {base : Heap} {mg : Str → Option Value} {K : PySem.W.Frag} {w : World} {P : Program}
end
end V2


namespace V2
open PySem L2
open PySem.Spec PyProof.Rows
section
variable {base : Heap} {mg : Str → Option Value} {K : PySem.W.Frag} {w : World} {P : Program}
theorem if_t {c : Bool} {A B : Prop} (hc : c = true) (h : A) : if c = true then A else B := by
  rw [if_pos hc]; exact h
theorem if_f {c : Bool} {A B : Prop} (hc : c = false) (h : B) : if c = true then A else B := by
  rw [hc, if_neg Bool.false_ne_true]; exact h
theorem ok_cut {f : Addr} {fd : FuncData} (F : Fun K "cut" "cut" s_cut f fd) (mL : mg "len" = none) : FnOk P w K mg base CX0 1 f fd p_cut (spTrim K) := by
  refine F.ok sc_cut (fun vs H Q E h => ?_) (fun cdv A outer s H vs Q E hr h => ?_)
  · obtain ⟨a, ns, rfl, _⟩ := h
    rfl
  · obtain ⟨a, ns, rfl, hS, hl, k⟩ := h
    have nd := sc_cut.nd
    refine ⟨_, pss_cons (ps_set (i := 1) nd rfl (Or.inl rfl) (pe_callB call_len_seq (by rfl) mL PySem.boot_len (pa_cons (pv 0) pa_nil)))
      (pss_cons (ps_while PassesOwn.never (PW.pt (pw_and (pt_cmpR op_gt (pv 1) pe_int (nomark _)) (pw_and1 (pt_cmpR op_eq (pe_ix ix_list (pv 0) (pe_op op_sub (pv 1) pe_int) (fun _ _ => rfl)) pe_int (nomark _)))))
          (pss_one (ps_aug (i := 1) nd rfl (.inl rfl) pe_int ip_sub)))
      (pss_one (ps_ret (pe_slice sl_list (pv 0) po_none (po_some (pv 1)))))), ?_⟩
    have hz := tz_le ns
    refine ⟨_, rfl, a, _, rfl, .inl hS, ?_⟩
    refine ⟨fun m σ H' => H' = H ∧ ns.length - tz ns ≤ m ∧ m ≤ ns.length ∧ σ = [some (.ref a), some (.int (m : Int))], ⟨ns.length, rfl, by omega, Nat.le_refl _, by rw [← iV_len ns]; simp [L2.start]⟩, ?_⟩
    rintro m σ H' ⟨rfl, h1, h2, rfl⟩
    have fin : ns.length - tz ns = m → Q = Q := fun _ => rfl
    (refine ⟨_, rfl, _, _, rfl, rfl, _, rfl, ?_⟩)
    by_cases hm : 0 < m
    · refine if_t (decide_eq_true (by omega)) ?_
      obtain ⟨x, hx, q1, q2⟩ : ∃ x, ns[m - 1]? = some x ∧ (ns.length - tz ns < m → x = 0) ∧ (m = ns.length - tz ns → x ≠ 0) := by
        by_cases c : ns.length - tz ns < m
        · have := tz_in ns (ns.length - m) (by omega)
          rw [show ns.length - 1 - (ns.length - m) = m - 1 by omega] at this
          exact ⟨0, this, fun _ => rfl, fun z => by omega⟩
        · obtain ⟨x, h3, h4⟩ := tz_at ns (by omega)
          rw [show ns.length - 1 - tz ns = m - 1 by omega] at h3
          exact ⟨x, h3, fun z => absurd z c, fun _ => h4⟩
      have ei : ((m : Int) - 1) = ((m - 1 : Nat) : Int) := by omega
      refine ⟨_, rfl, _, rfl, _, _, rfl, rfl, a, _, _, .int x, rfl, rfl, hS, ?_, rfl, _, rfl, ?_⟩
      · show atI (iV ns) ((m : Int) - 1) = _
        rw [ei]
        exact atI_nat (iV_at hx)
      · by_cases e : x = 0
        · subst e
          refine if_t (decide_eq_true rfl) ?_
          have c : ns.length - tz ns < m := by
            rcases Nat.lt_or_ge (ns.length - tz ns) m with c | c
            · exact c
            · exact absurd rfl (q2 (by omega))
          refine ⟨fun σ H2 => H2 = H' ∧ σ = [some (.ref a), some (.int ((m - 1 : Nat) : Int))], fun σ H2 z => ⟨m - 1, by omega, z.1, by omega, by omega, z.2⟩, ?_⟩
          refine ⟨_, rfl, _, _, rfl, rfl, rfl, ?_⟩
          show [some (V.ref a), some (V.int ((m : Int) - 1))] = _
          rw [ei]
        · refine if_f (decide_eq_false fun z => e (by injection z)) ?_
          have c : m = ns.length - tz ns := by
            rcases Nat.lt_or_ge (ns.length - tz ns) m with c | c
            · exact absurd (q1 c) e
            · omega
          refine ⟨_, rfl, _, rfl, _, rfl, a, _, rfl, hS, fun p hp => k p _ hp (Evl.Ex.new hp) ?_⟩
          rw [upd_same, cut_to _ (by rw [iV_len]; omega), c]
          unfold trm iV
          rw [List.map_take]
    · refine if_f (decide_eq_false (by omega)) ?_
      have c : m = ns.length - tz ns := by omega
      refine ⟨_, rfl, _, rfl, _, rfl, a, _, rfl, hS, fun p hp => k p _ hp (Evl.Ex.new hp) ?_⟩
      rw [upd_same, cut_to _ (by rw [iV_len]; omega), c]
      unfold trm iV
      rw [List.map_take]
end
end V2


namespace V2
open PySem L2
open PySem.Spec PyProof.Rows
/-- a list of ints at a -/
def Li (H : Hp) (a : Addr) (ns : List Int) : Prop := H a = some (.lst (iV ns))
theorem Li.sq {K : PySem.W.Frag} {H : Hp} {a : Addr} {ns : List Int} (h : Li H a ns) : SqL K H a (iV ns) := SqL.of h
theorem iV_set (ns : List Int) (j : Nat) (v : Int) : (iV ns).set j (.int v) = iV (ns.set j v) := by
  unfold iV; rw [List.map_set]
theorem iV_get {ns : List Int} {i : Nat} {x : V} (h : (iV ns)[i]? = some x) : ∃ n, ns[i]? = some n ∧ x = .int n := by
  unfold iV at h
  rw [List.getElem?_map] at h
  cases e : ns[i]? with
  | none =>
    rw [e] at h
    cases h
  | some n => rw [e] at h; exact ⟨n, rfl, (Option.some.inj h).symm⟩
theorem rep_flat (k : Nat) (x : V) : (List.replicate k [x]).flatten = List.replicate k x := by simp
theorem iV_rep (k : Nat) : iV (List.replicate k 0) = List.replicate k (.int 0) := by unfold iV; simp
/-- the mutual rows of a product, as the loops of both texts run them -/
def tRowsIn (K : PySem.W.Frag) : TS := tAsg (tOp (rI0 fun i j => .int (i + j)) (tOp (rIxL K) (tVar 2) (tOp (rI0 fun i j => .int (i + j)) (tVar 3) (tVar 5))) (tOp (rI CMul fun i j => .int (i * j)) (tVar 4) (tVar 6))) (gSub (tVar 2) (tOp (rI0 fun i j => .int (i + j)) (tVar 3) (tVar 5)) rSetL)
def tRows (K : PySem.W.Frag) : TS := tFor (iEnum K (tCons (tVar 0) tNil)) (gTup K 2 (gCons (gName 3) (gCons (gName 4) gNil))) (tFor (iEnum K (tCons (tVar 1) tNil)) (gTup K 2 (gCons (gName 5) (gCons (gName 6) gNil))) (tRowsIn K))
theorem rows_read {K : PySem.W.Frag} {D : Ends} {H : Hp} {a b l : Addr} {xs ys : List Int} {N : Nat} {u3 u4 u5 u6 : Option V} (ha : Li H a xs) (hb : Li H b ys) (hl : Li H l (vec N fun _ => 0)) (na : a ≠ l) (nb : b ≠ l) (hN : xs.length + ys.length ≤ N + 1)
    (hx : ∀ x ∈ xs, -(2 ^ 64) < x ∧ x < 2 ^ 64) (k : ∀ (H' : Hp) v3 v4 v5 v6, But l H H' → Li H' l (vec N (cf xs ys xs.length)) → D.nx [some (.ref a), some (.ref b), some (.ref l), v3, v4, v5, v6] H') :
    tRows K D [some (.ref a), some (.ref b), some (.ref l), u3, u4, u5, u6] H := by
  refine ⟨_, rfl, a, _, rfl, ha.sq, for_it walk_enum (fun i σ H' => ∃ v3 v4 v5 v6, σ = [some (.ref a), some (.ref b), some (.ref l), v3, v4, v5, v6] ∧ But l H H' ∧ Li H' l (vec N (rw_ xs ys i 0)))
    ⟨_, _, _, _, rfl, But.refl _ _, ?_⟩ (fun i σ H' _ ⟨_, _, _, _, _, q, _⟩ => SqL.of (q _ _ na ha)) ?_ ?_⟩
  · rw [vec_congr (g := fun _ => 0) fun i _ => by rw [rw_0]; rfl]
    exact hl
  · rintro i x σ H' H2 hi ⟨v3, v4, v5, v6, rfl, q, hL⟩ ⟨T, z, y, rfl, hT, rfl, hz, hy⟩
    obtain rfl := (Option.some.inj hz).symm
    obtain ⟨n, hn, rfl⟩ := iV_get hy
    rw [iV_len] at hi
    have nTl : T ≠ l := (ne_of_none hL hT).symm
    have q2 : But l H (upd H' T (.tup [.int (i : Nat), .int n])) := fun c o nc e => by
      rw [upd_ne (ne_of_none (q c o nc e) hT)]; exact q c o nc e
    refine ⟨T, _, rfl, SqT.of upd_same, rfl, _, _, rfl, _, _, rfl, rfl, ?_⟩
    have hL2 : Li (upd H' T (.tup [.int (i : Nat), .int n])) l (vec N (rw_ xs ys i 0)) := Eq.trans (upd_ne nTl.symm) hL
    refine ⟨_, rfl, b, _, rfl, SqL.of (q2 _ _ nb hb), for_it walk_enum (fun j σ H3 => ∃ v5 v6, σ = [some (.ref a), some (.ref b), some (.ref l), some (.int (i : Nat)), some (.int n), v5, v6] ∧ But l H H3 ∧ Li H3 l (vec N (rw_ xs ys i j)))
      ⟨_, _, rfl, q2, hL2⟩ (fun i σ H' _ ⟨_, _, _, q, _⟩ => SqL.of (q _ _ nb hb)) ?_ ?_⟩
    · rintro j x σ H3 H4 hj ⟨v5, v6, rfl, q3, hL3⟩ ⟨T2, z, y, rfl, hT2, rfl, hz, hy⟩
      obtain rfl := (Option.some.inj hz).symm
      obtain ⟨m, hm, rfl⟩ := iV_get hy
      rw [iV_len] at hj
      have nTl2 : T2 ≠ l := (ne_of_none hL3 hT2).symm
      refine ⟨T2, _, rfl, SqT.of upd_same, rfl, _, _, rfl, _, _, rfl, rfl, ?_⟩
      have hL4 : Li (upd H3 T2 (.tup [.int (j : Nat), .int m])) l (vec N (rw_ xs ys i j)) := Eq.trans (upd_ne nTl2.symm) hL3
      have hp : i + j < N := by omega
      have ep : ((i : Nat) : Int) + ((j : Nat) : Int) = ((i + j : Nat) : Int) := by omega
      refine ⟨_, rfl, _, rfl, _, rfl, _, _, rfl, rfl, l, _, _, .int (rw_ xs ys i j (i + j)), rfl, rfl, SqL.of hL4, ?_, _, rfl, _, rfl, n, m, rfl, rfl, .inl (hx n (List.mem_of_getElem? hn)), _, _, rfl, rfl, ?_⟩
      · show atI _ (((i : Nat) : Int) + ((j : Nat) : Int)) = _
        rw [ep]
        exact atI_nat (iV_at (vec_get hp))
      refine ⟨_, rfl, _, rfl, _, rfl, _, _, rfl, rfl, l, _, _, i + j, rfl, rfl, hL4, ?_, ?_⟩
      · show ixN _ (((i : Nat) : Int) + ((j : Nat) : Int)) = _
        rw [ep]
        exact Evl.ixN_nat (by rw [iV_len, vec_len]; exact hp)
      refine ⟨_, _, rfl, fun c o nc e => ?_, ?_⟩
      · rw [upd_ne nc, upd_ne (ne_of_none (q3 c o nc e) hT2)]
        exact q3 c o nc e
      · unfold Li
        rw [upd_same]
        show some (HO.lst ((iV (vec N (rw_ xs ys i j))).set (i + j) (.int (rw_ xs ys i j (i + j) + n * m)))) = _
        rw [iV_set, vec_set (g := rw_ xs ys i (j + 1)) (by rw [rw_step, getD_at hn, getD_at hm]) fun p hp => rw_other hp]
    · rintro σ H3 ⟨v5, v6, rfl, q3, hL3⟩
      refine ⟨_, _, _, _, rfl, q3, ?_⟩
      rw [iV_len, vec_congr (g := rw_ xs ys (i + 1) 0) fun p _ => rw_end xs ys i p] at hL3
      exact hL3
  · rintro σ H' ⟨v3, v4, v5, v6, rfl, q, hL⟩
    rw [iV_len, vec_congr (g := cf xs ys xs.length) fun i _ => rw_0 _ _ _ _] at hL
    exact k H' v3 v4 v5 v6 q hL
/-- a polynomial that may be handed over: at most 16 numbers below 2 ^ 64 -/
def Pn (ns : List Int) : Prop := Pol ns ∧ ns.length ≤ 16 ∧ ∀ x ∈ ns, -(2 ^ 64) < x ∧ x < 2 ^ 64
def spTwo (m : List Int → List Int → List Int) : Sp := fun vs H Q _ => ∃ (a b : Addr) (xs ys : List Int), vs = [.ref a, .ref b] ∧ Li H a xs ∧ Li H b ys ∧ Pn xs ∧ Pn ys ∧ Evl.RetL (iV (m xs ys)) H Q
structure T2 (mg : Str → Option Value) : Prop where
  len : mg "len" = none
  max : mg "max" = none
  rng : mg "range" = none
  enu : mg "enumerate" = none
section
variable {base : Heap} {mg : Str → Option Value} {K : PySem.W.Frag} {w : World} {P : Program}
theorem tru_list {H : Hp} {a : Addr} {ns : List Int} (h : Li H a ns) : TruV K (.ref a) H (!(iV ns).isEmpty) := .inl ⟨_, SqL.of h, rfl⟩
end
end V2


namespace V2
open PySem L2
open PySem.Spec PyProof.Rows
theorem max_len (n m : Nat) : (if (m : Int) > (n : Int) then (m : Int) else (n : Int)) = ((max n m : Nat) : Int) := by
  split <;> omega
theorem gt_len (n m k : Nat) (h : k = max n m) : (if (m : Int) > (n : Int) then (m : Int) else (n : Int)) = (k : Int) := by
  rw [h]; exact max_len n m
/-- a list made longer by zeros -/
def pad (ns : List Int) (N : Nat) : List Int := ns ++ List.replicate (N - ns.length) 0
theorem pad_at {ns : List Int} {N i : Nat} (h : i < N) (hl : ns.length ≤ N) : (pad ns N)[i]? = some (ns.getD i 0) := by
  unfold pad
  by_cases h1 : i < ns.length
  · rw [List.getElem?_append_left h1, List.getD_eq_getElem?_getD, List.getElem?_eq_getElem h1]; rfl
  · rw [List.getElem?_append_right (by omega), getD_out (by omega), List.getElem?_replicate, if_pos (by omega)]
theorem iV_app (xs ys : List Int) : iV xs ++ iV ys = iV (xs ++ ys) := by unfold iV; rw [List.map_append]
theorem given_vec (n : Nat) (g : Nat → Int) : Evl.given n (fun _ => true) (fun i => .int (g i)) = iV (vec n g) := by
  unfold Evl.given iV vec
  rw [List.filter_eq_self.mpr (by simp), List.map_map]
  rfl
/-- xs + [0] * (n - len(xs)) -/
theorem el_pad {K : PySem.W.Frag} {σ : L2.St} {H : Hp} {i j : Nat} {a : Addr} {xs : List Int} {n : Nat} (hi : σ[i]? = some (some (.ref a))) (hj : σ[j]? = some (some (.int (n : Int)))) (ha : Li H a xs) (hl : xs.length ≤ n) (hn : n ≤ 100) :
    Evl.EvL (tOp rCat (tVar i) (tOp rRep (tLst (tCons (tC (.int 0)) tNil)) (tOp (rI0 fun i j => .int (i - j)) (tVar j) (tCB (Evl.rLenS K) (tCons (tVar i) tNil))))) σ H (iV (pad xs n)) := by
  intro H1 e1 Q k
  have ha1 : Li H1 a xs := e1 _ _ ha
  refine ⟨_, hi, (by show 1 ≤ sizeLine; decide), fun p hp => ?_⟩
  have e2 : Evl.Ex H1 (upd H1 p (.lst [.int 0])) := Evl.Ex.new hp
  refine ⟨_, hj, _, hi, a, _, rfl, .inl (SqL.of (e2 _ _ ha1)), _, _, rfl, rfl, p, _, _, rfl, rfl, upd_same, by rw [iV_len]; omega, by rw [iV_len]; omega, ?_, fun q hq => ?_⟩
  · rw [iV_len]
    show 1 * _ ≤ sizeLine
    exact Nat.le_trans (by omega) (show 100 ≤ sizeLine by decide)
  have e3 := e2.trans (Evl.Ex.new (o := .lst (List.replicate ((n : Int) - ((iV xs).length : Int)).toNat [V.int 0]).flatten) hq)
  refine ⟨a, q, _, _, rfl, rfl, e3 _ _ ha1, upd_same, ?_, fun r hr2 => ?_⟩
  · simp only [iV_len, rep_flat, List.length_replicate]
    exact Nat.le_trans (by omega) (show 100 ≤ sizeLine by decide)
  refine k r _ (Evl.fresh_back e3 hr2) (e3.trans (Evl.Ex.new hr2)) ?_
  rw [upd_same, rep_flat, iV_len, ← iV_rep, iV_app, show ((n : Int) - (xs.length : Int)).toNat = n - xs.length by omega]
  rfl
/-- [mine[k] + yours[k] for k in range(n)] -/
theorem el_sums {K : PySem.W.Frag} {σ : L2.St} {H : Hp} {im iy jn jk : Nat} {a b : Addr} {xs ys : List Int} {n : Nat} (hn : σ[jn]? = some (some (.int (n : Int)))) (ha : Li H a (pad xs n)) (hb : Li H b (pad ys n)) (hx : xs.length ≤ n) (hy : ys.length ≤ n) (h100 : n ≤ 100)
    (hw : ∀ x, wipe ((wipe σ [jk]).set jk (some x)) [jk] = wipe σ [jk]) (hm : ∀ x, ((wipe σ [jk]).set jk (some x))[im]? = some (some (.ref a))) (hyy : ∀ x, ((wipe σ [jk]).set jk (some x))[iy]? = some (some (.ref b))) (hk : ∀ x, ((wipe σ [jk]).set jk (some x))[jk]? = some (some x)) :
    Evl.EvL (tLc (iRng1 (tCons (tVar jn) tNil)) (gName jk) tYes (tOp (rI0 fun i j => .int (i + j)) (tOp (rIxL K) (tVar im) (tVar jk)) (tOp (rIxL K) (tVar iy) (tVar jk))) [jk]) σ H (iV (vec n fun k => xs.getD k 0 + ys.getD k 0)) := by
  have h := Evl.el_lcR1 (σ := σ) (H := H) (ta := tCons (tVar jn) tNil) (j := jk) (vs := [jk]) (t := tYes) (te := tOp (rI0 fun i j => .int (i + j)) (tOp (rIxL K) (tVar im) (tVar jk)) (tOp (rIxL K) (tVar iy) (tVar jk))) (n := (n : Int)) (fun _ => true) (fun k => .int (xs.getD k 0 + ys.getD k 0))
    (Evl.ea_cons (Evl.ev_var hn) Evl.ea_nil) ⟨by omega, by omega⟩ hw (fun i H1 _ _ => fun H2 e2 Q q => q H2 (Evl.Ex.refl _)) (fun i H1 e1 hi _ => ?_)
  · rw [Int.toNat_natCast, given_vec] at h
    exact h
  · have hi : i < n := by omega
    exact Evl.ev_op (Evl.ev_op (Evl.ev_var (hm _)) (Evl.ev_var (hk _)) (Evl.rv_ixL (SqL.of (e1 _ _ ha)) (atI_nat (iV_at (pad_at hi hx)))))
      (Evl.ev_op (Evl.ev_var (hyy _)) (Evl.ev_var (hk _)) (Evl.rv_ixL (SqL.of (e1 _ _ hb)) (atI_nat (iV_at (pad_at hi hy))))) Evl.rv_I0
section
variable {base : Heap} {mg : Str → Option Value} {K : PySem.W.Frag} {w : World} {P : Program}
end
end V2


namespace V2
open PySem L2
open PySem.Spec PyProof.Rows
/-- a fraction's tuple at a -/
def Fr (H : Hp) (a : Addr) (p q : Int) : Prop := H a = some (.tup [.int p, .int q])
def Qn (p q : Int) : Prop := 0 < q ∧ Int.gcd p q = 1 ∧ p.natAbs < 2 ^ 50 ∧ q.natAbs < 2 ^ 50
/-- the value of a polynomial at a fraction, a new fraction -/
def spVal : Sp := fun vs H Q _ => ∃ (a b : Addr) (xs : List Int) (p q : Int), vs = [.ref a, .ref b] ∧ Li H a xs ∧ Fr H b p q ∧ Pn xs ∧ Qn p q ∧ RetU [.int (fr (hA p q xs) (q ^ xs.length)).1, .int (fr (hA p q xs) (q ^ xs.length)).2] H Q
/-- its numerator and denominator, not in lowest terms -/
def spScaled : Sp := fun vs H Q _ => ∃ (a b : Addr) (xs : List Int) (p q : Int), vs = [.ref a, .ref b] ∧ Li H a xs ∧ Fr H b p q ∧ Pn xs ∧ Qn p q ∧ RetU [.int (hT p q xs), .int (q ^ (xs.length - 1))] H Q
theorem n64 {x : Int} (h : -(2 ^ 64) < x ∧ x < 2 ^ 64) : x.natAbs < 2 ^ 64 := by
  have e : (2 : Int) ^ 64 = 18446744073709551616 := by decide
  have e2 : (2 : Nat) ^ 64 = 18446744073709551616 := by decide
  rw [e] at h
  rw [e2]
  omega
section
variable {base : Heap} {mg : Str → Option Value} {K : PySem.W.Frag} {w : World} {P : Program}
end
end V2


namespace V2
open PySem L2
open PySem.Spec PyProof.Rows
theorem big {x : Int} {n m : Nat} (h : x.natAbs < 2 ^ n) (l : n ≤ m) : x.natAbs < 2 ^ m := Nat.lt_of_lt_of_le h (Nat.pow_le_pow_right (by decide) l)
theorem take_len {xs : List Int} {i : Nat} (h : i ≤ xs.length) : (xs.take i).length = i := by rw [List.length_take]; omega
theorem take_snoc {xs : List Int} {i : Nat} {x : Int} (h : xs[i]? = some x) : xs.take (i + 1) = xs.take i ++ [x] := by
  rw [List.take_add_one, h]; rfl
section
variable {base : Heap} {mg : Str → Option Value} {K : PySem.W.Frag} {w : World} {P : Program}
end
end V2


namespace V2
open PySem L2
open PySem.Spec PyProof.Rows
structure T3 (mg : Str → Option Value) : Prop where
  isi : mg "isinstance" = none
  int : mg "int" = none
  bool : mg "bool" = none
  lst : mg "list" = none
  tup : mg "tuple" = none
  len : mg "len" = none
  all : mg "all" = none
  gcd : mg "gcd" = some (.builtin "math.gcd")
def spInt : Sp := fun vs H Q _ => ∃ n : Int, vs = [.int n] ∧ Evl.RetV (.bl true) H Q
def spPol : Sp := fun vs H Q _ => ∃ (a : Addr) (ns : List Int), vs = [.ref a] ∧ Li H a ns ∧ Pn ns ∧ Evl.RetV (.bl true) H Q
def spIsFr : Sp := fun vs H Q _ => ∃ (a : Addr) (p q : Int), vs = [.ref a] ∧ Fr H a p q ∧ Qn p q ∧ Evl.RetV (.bl true) H Q
def spChk : Sp := fun vs H Q _ => ∃ (l : Addr) (as : List Addr), vs = [.ref l] ∧ H l = some (.lst (as.map V.ref)) ∧ as.length ≤ 10 ∧ (∀ a ∈ as, ∃ ns, Li H a ns ∧ Pn ns) ∧ Evl.RetV .non H Q
def spChkFr : Sp := fun vs H Q _ => ∃ (a : Addr) (p q : Int), vs = [.ref a] ∧ Fr H a p q ∧ Qn p q ∧ Evl.RetV .non H Q
theorem atI_end {ns : List Int} (h0 : ns ≠ []) : ∃ x, ns[ns.length - 1]? = some x ∧ atI (iV ns) (-1) = some (.int x) := by
  have e := List.dropLast_concat_getLast h0
  refine ⟨ns.getLast h0, ?_, ?_⟩
  · rw [← List.getLast?_eq_getElem?, List.getLast?_eq_some_getLast h0]
  · have e2 : iV ns = iV ns.dropLast ++ [.int (ns.getLast h0)] := by
      conv => lhs; rw [← e]
      unfold iV
      rw [List.map_append]
      rfl
    rw [e2]
    exact atI_last _ _
theorem rep_snoc (n : Nat) (x : V) : List.replicate n x ++ [x] = List.replicate (n + 1) x := by
  rw [List.replicate_succ']
section
variable {base : Heap} {mg : Str → Option Value} {K : PySem.W.Frag} {w : World} {P : Program}
theorem ok_is_integer {f : Addr} {fd : FuncData} (F : Fun K "is_integer" "is_integer" s_is_integer f fd) (T : T3 mg) : FnOk P w K mg base CX0 1 f fd p_is_integer spInt := by
  refine F.ok sc_is_integer (fun vs H Q E h => ?_) (fun cdv A outer s H vs Q E hr h => ?_)
  · obtain ⟨n, rfl, _⟩ := h
    rfl
  · obtain ⟨n, rfl, k⟩ := h
    refine ⟨_, pss_one (ps_ret (pe_and (pe_callB call_isi (by rfl) T.isi (by decide +kernel) (pa_cons (pv 0) (pa_cons (pe_bltn (v := .ty "int") (by rfl) T.int (by decide +kernel) rfl) pa_nil)))
      (pe_one (pe_not (pe_callB call_isi (by rfl) T.isi (by decide +kernel) (pa_cons (pv 0) (pa_cons (pe_bltn (v := .ty "bool") (by rfl) T.bool (by decide +kernel) rfl) pa_nil))))))), ?_⟩
    refine ⟨_, rfl, _, _, _, _, true, rfl, .ty "int", .base (.int n), kit_ty (by decide +kernel), true, rfl, if_t rfl ?_⟩
    refine ⟨_, rfl, _, _, _, _, false, rfl, .ty "bool", .base (.int n), kit_ty (by decide +kernel), false, rfl, ?_⟩
    exact k _ (Evl.Ex.refl _)
theorem ok_is_fraction {f : Addr} {fd : FuncData} (F : Fun K "is_fraction" "is_fraction" s_is_fraction f fd) (T : T3 mg) (cI : Cal P w K mg base 1 "is_integer" p_is_integer spInt) : FnOk P w K mg base CX0 2 f fd p_is_fraction spIsFr := by
  refine F.ok sc_is_fraction (fun vs H Q E h => ?_) (fun cdv A outer s H vs Q E hr h => ?_)
  · obtain ⟨a, p, q, rfl, _⟩ := h
    rfl
  · obtain ⟨a, p, q, rfl, ha, ⟨q0, qc, pb, qb⟩, k⟩ := h
    have nd := sc_is_fraction.nd
    refine ⟨_, pss_cons (ps_if (PW.pt (pw_or (pt_not (pt_val (pe_callB call_isi (by rfl) T.isi (by decide +kernel) (pa_cons (pv 0) (pa_cons (pe_bltn (v := .ty "tuple") (by rfl) T.tup (by decide +kernel) rfl) pa_nil)))))
        (pw_or1 (pt_cmpR op_ne (pe_callB call_len_seq (by rfl) T.len PySem.boot_len (pa_cons (pv 0) pa_nil)) pe_int (nomark _))))) (pss_one (ps_ret pe_bl)) pss_nil)
      (pss_cons (ps_asg (pv 0) (pg_tup rfl (pgs_cons (pg_name (i := 1) nd rfl (Or.inl rfl)) (pgs_cons (pg_name (i := 2) nd rfl (Or.inl rfl)) pgs_nil))))
      (pss_one (ps_ret (pe_and (pe_c cI hr (pa_cons (pv 1) pa_nil)) (pe_and (pe_c cI hr (pa_cons (pv 2) pa_nil)) (pe_and (pe_cmpR op_ge (pv 2) pe_int (nomark _)) (pe_one (pe_cmpR op_eq (pe_callBfun cr_gcd (by rfl) T.gcd (pa_cons (pv 1) (pa_cons (pv 2) pa_nil))) pe_int (nomark _))))))))), ?_⟩
    refine ⟨_, rfl, _, _, _, _, true, rfl, .ty "tuple", .base (.tup ha), kit_ty (by decide +kernel), true, rfl, if_f rfl ?_⟩
    refine ⟨_, rfl, a, _, rfl, .inr (SqT.of ha), rfl, false, rfl, if_f rfl ?_⟩
    refine ⟨_, rfl, a, _, rfl, SqT.of ha, rfl, _, _, rfl, _, _, rfl, rfl, ?_⟩
    refine ⟨_, rfl, p, rfl, fun H1 e1 => ⟨_, rfl, if_t rfl ⟨_, rfl, q, rfl, fun H2 e2 => ⟨_, rfl, if_t rfl ⟨_, rfl, _, _, rfl, rfl, _, rfl, if_t (decide_eq_true (by omega)) ?_⟩⟩⟩⟩⟩
    refine ⟨_, rfl, _, rfl, p, q, rfl, rfl, ?_⟩
    have e : decide (V.int ((Nat.gcd p.natAbs q.natAbs : Nat) : Int) = V.int 1) = true := decide_eq_true (by
      have : Nat.gcd p.natAbs q.natAbs = 1 := qc
      rw [this]; rfl)
    show Q (.bl (decide (V.int ((Nat.gcd p.natAbs q.natAbs : Nat) : Int) = V.int 1))) H2
    rw [e]
    exact k _ (e1.trans e2)
end
end V2


namespace V2
open PySem L2
open PySem.Spec PyProof.Rows
/-- keywords alone -/
def CalK (P : Program) (w : World) (K : PySem.W.Frag) (mg : Str → Option Value) (base : Heap) (k : Nat) (x : Str) (ps ks : List Str) (gV : List V → List V) (sp : Sp) : Prop :=
  ∃ (f : Addr) (fd : FuncData) (g : List Value → List Value → List Value), FnOk P w K mg base CX0 k f fd ps sp ∧ mg x = some (.ref f) ∧ PySem.W.keepIn K (.ref f) = true ∧ KBn K fd ps 0 ks g (fun _ zs => gV zs)
theorem pe_ck {X : Cx} {k : Nat} {x : Str} {ps ks : List Str} {gV : List V → List V} {sp : Sp} {kws : List Keyword} {t : TA} {p pos : Pos} (c : CalK X.prog X.w X.K X.mg X.base k x ps ks gV sp) (hr : Room k X.A) (hkw : PK X kws t) (hg : Gl X x := by rfl)
    (hall : (backToKw pos (keywordEach kws X.env)).all (fun b => b.1.isSome) = true := by rfl)
    (hks : (backToKw pos (keywordEach kws X.env)).filterMap (fun b => b.1) = ks := by rfl) (hdb : (x == ("__debug__" : Str)) = false := by decide)
    (hpl : ((backTo pos (starEach [] X.env)).any (fun b => b.1) || (backToKw pos (keywordEach kws X.env)).any (fun b => b.1.isNone)) = false := by rfl) :
    PE X (.Call (.Name x p) [] kws pos) (fun σ H Q => t σ H fun zs H1 => zs.length = ks.length ∧ sp (gV zs) H1 Q E0) := by
  obtain ⟨f, fd, g, F, hm, hk, hb⟩ := c
  constructor
  intro pins s σ H Q I h
  apply wpAny_Call_Name_kw
  apply ld_glob I hg hm _ hdb
  apply PySem.W.callWith_KW0 (h₀ := X.base) I.ok.mod.kin hk hall _ hpl
  apply thn (hkw.run pos pins s σ H _ I h)
  rintro ws s2 ⟨zs, H2, I2, rz, l2, q2⟩
  rw [hks]
  exact ⟨I2.kIn, run_fnN (us := []) (vs := []) F hr hb pass0 I2 .nil rz rfl l2 q2⟩
section
variable {base : Heap} {mg : Str → Option Value} {K : PySem.W.Frag} {w : World} {P : Program}
end
end V2


namespace V2
open PySem L2
open PySem.Spec PyProof.Rows
/-! ## defs that show things: they are called where no repr is under way -/
structure FnG (P : Program) (w : World) (K : PySem.W.Frag) (mg : Str → Option Value) (base : Heap) (k : Nat) (f : Addr) (fd : FuncData) (ps : List Str) (sp : Sp) : Prop where
  len : ∀ vs H Qv Ee, sp vs H Qv Ee → vs.length = ps.length
  run : ∀ (A : Around) (outer : List Env) (s : Shared) (H : Hp) (args : Args) (us : List Value) (vs : List V) (Q : VK) (E : XK), A.guards = some [] → Room k A → Env0 P w K mg base A outer s H → BindsTo s fd args (ps.zip us) → Vals vs us → sp vs H Q E →
    codeAny (model P w) A (.call (.ref f) args) (CR CX0 outer P w H s Q E) s
theorem guards_deeper (A : Around) (env : Env) : (A.deeper env).guards = A.guards := rfl
/-- a def by its body, the way in told -/
theorem Fun.okG {P : Program} {w : World} {K : PySem.W.Frag} {mg : Str → Option Value} {base : Heap} {x qual : Str} {st : Stmt} {f : Addr} {fd : FuncData} {N ps : List Str} {k : Nat} {sp : Sp} (F : Fun K x qual st f fd) (S : FnScope N ps (defScope st))
    (len : ∀ vs H Qv Ee, sp vs H Qv Ee → vs.length = ps.length)
    (hbody : ∀ (cdv : Value) (A : Around) (outer : List Env) (s : Shared) (H : Hp) (vs : List V) (Q : VK) (E : XK), A.guards = some [] → Room k (A.deeper (envOfC qual (defScope st) s.heap.objs.size f cdv)) → sp vs H Q E →
      ∃ t, PSs (cxOf CX0 P w K mg base N qual (defScope st) f cdv A outer s H E).nox (defBody st) t ∧ t { nx := fun _ H' => Q .non H', rt := Q } (start N vs) H) :
    FnG P w K mg base (k + 1) f fd ps sp := by
  obtain ⟨ow, oe, kw, dc, pn, am, cdv, cu, sl, rfl, lk, hcd⟩ := F.ex
  constructor
  · exact len
  intro A outer s H args us vs Q E hg hr e0 hb r hsp
  have hl := len vs H Q E hsp
  have st1 : ∀ b o, base.get? b = some o → s.heap.get? b = some o := fun b o e => (e0.bs b o e).1
  have KX : K.In s.heap := e0.mod.kin.keeps st1
  have lim := e0.mod.nolimit.keeps st1
  have kinds : ∀ y ∈ ps.zip us, (defScope st).names.lookup y.1 = some .local ∨ ((defScope st).names.lookup y.1 = some .cell ∧ ((cellsFrom (s.heap.objs.size + 1) (defScope st).names []).lookup y.1).isSome = true) := by
    rintro ⟨n, v⟩ hy
    cases S.par n (List.of_mem_zip hy).1 with
    | inl q => exact .inl q
    | inr q => exact .inr ⟨q, PySem.W.cellsFrom_some _ _ _ (.inl q)⟩
  apply codeAny_call_function hr.depth (KX _ _ lk) rfl S.co S.gen rfl (PySem.W.codeRec_of KX hcd)
  apply hb
  apply wpAny_newFunctionEnv_cells S.kind kinds
  rintro env rfl s1 ic
  constructor
  · exact lim.keeps ic.toInCall.keep
  apply codeAny_func
  obtain ⟨t, ht, hq⟩ := hbody cdv A outer s H vs Q E hg (hr.deeper _) hsp
  have I := inv_start (CX := CX0) (E := E) (qual := qual) (f := f) (cd := cdv) S hr.hd e0 hl r ic
  apply wpAny_mono (ht.nox.run [] s1 (start N vs) H _ I hq)
  · intro fl s' hs
    cases fl with
    | ret u =>
      obtain ⟨v, σ', Hb, J, rr, q⟩ := hs
      exact ⟨v, Hb, J.os, J.bare, J.base, J.hok, rr, q⟩
    | next =>
      obtain ⟨σ', H', J, q⟩ := hs
      exact ⟨V.non, H', J.os, J.bare, J.base, J.hok, rfl, q⟩
    | brk => exact hs.elim fun _ z => z.elim fun _ z => z.2.elim
    | cont => exact hs.elim fun _ z => z.elim fun _ z => z.2.elim
  · exact fun e s' hs => hs
theorem FnOk.toG {P : Program} {w : World} {K : PySem.W.Frag} {mg : Str → Option Value} {base : Heap} {k : Nat} {f : Addr} {fd : FuncData} {ps : List Str} {sp : Sp} (F : FnOk P w K mg base CX0 k f fd ps sp) : FnG P w K mg base k f fd ps sp :=
  ⟨F.len, fun A outer s H args us vs Q E _ => F.run A outer s H args us vs Q E⟩
def CalG (P : Program) (w : World) (K : PySem.W.Frag) (mg : Str → Option Value) (base : Heap) (k : Nat) (x : Str) (ps : List Str) (sp : Sp) : Prop :=
  ∃ (f : Addr) (fd : FuncData), FnG P w K mg base k f fd ps sp ∧ mg x = some (.ref f) ∧ PySem.W.keepIn K (.ref f) = true ∧ Binds K fd ps []
theorem pe_cg {X : Cx} {k : Nat} {x : Str} {ps : List Str} {sp : Sp} {e : Expr} {es : List Expr} {t : TA} {p pos : Pos} (c : CalG X.prog X.w X.K X.mg X.base k x ps sp) (hgd : X.A.guards = some []) (hr : Room k X.A) (ha : PA X (e :: es) t) (hg : Gl X x := by rfl)
    (he : starEach (e :: es) X.env = (false, eval e X.env) :: starEach es X.env := by rfl)
    (hpl : (backTo pos (starEach es X.env)).any (fun b => b.1) = false := by rfl) (hdb : (x == ("__debug__" : Str)) = false := by decide) :
    PE X (.Call (.Name x p) (e :: es) [] pos) (tCall sp [] E0 t) := by
  obtain ⟨f, fd, F, hm, hk, hb⟩ := c
  constructor
  intro pins s σ H Q I h
  apply wpAny_Call_Name_kw
  apply ld_glob I hg hm _ hdb
  refine PySem.W.callWith_K (h₀ := X.base) I.ok.mod.kin hk ?_ he hpl
  apply thn (ha.run pos pins s σ H _ I h)
  rintro us s1 ⟨vs, H1, I1, r, q⟩
  refine ⟨I1.kIn, ?_⟩
  (show wpAny _ _ (call (.ref f) us) _ _ _)
  have q : sp (vs ++ []) H1 Q E0 := q
  rw [List.append_nil] at q
  have hl : us.length = ps.length := by rw [← Paired.length r]; exact F.len _ _ _ _ q
  have bb := hb s1 us I1.kIn (by rw [List.append_nil]; exact hl)
  rw [List.append_nil] at bb
  apply wpAny_call
  apply codeAny_mono (F.run X.A X.stack s1 H1 ⟨us, []⟩ us vs Q E0 hgd hr I1.env0 bb r q)
  intro r' s' hq
  cases r' with
  | error e => exact hq.elim
  | ok fl =>
    cases fl with
    | ret u => exact I1.after hq
    | next => exact hq.elim
    | brk => exact hq.elim
    | cont => exact hq.elim
/-- repr of what is data -/
def rShow (K : PySem.W.Frag) : List V → Hp → VK → Prop := fun xs H Q => ∃ (a : Addr) (d : PyData), xs = [.ref a] ∧ Dp K H (.ref a) d ∧ d.showable = true ∧ d.hasDict = false ∧ d.depth ≤ 60 ∧ d.shown.length ≤ sizeLine ∧ Q (.str d.shown) H
theorem call_show {X : Cx} (hgd : X.A.guards = some []) (hu : X.A.units + 64 < cLine) : CallR X (.builtin "repr") (rShow X.K) := by
  intro pins
  intro s σ H xs us Q I r h
  obtain ⟨a, d, rfl, hd, hs, hn, hp, hz, q⟩ := h
  obtain ⟨u, rfl, ru⟩ : ∃ u, us = [u] ∧ RelV (.ref a) u := by
    cases r with
    | cons ra rb =>
      cases rb
      exact ⟨_, rfl, ra⟩
  have eu : u = Value.ref a := ru
  subst eu
  obtain ⟨as, rd⟩ := Dp.reads I d (.ref a) (.ref a) hd rfl
  apply repr_of_reads' rd hs (fun z => by rw [hn] at z; cases z) hgd (by omega) (fun _ _ e => e) _ hz
  intro h' u tk k
  exact ⟨.str d.shown, H, I.kept (t' := tk) k, ⟨u, rfl⟩, q⟩
end V2


namespace V2
open PySem L2
open PySem.Spec PyProof.Rows
/-! ## the law's own call -/
/-- it says True and leaves what it found -/
def Fine (s₁ : Shared) : Result → Shared → Prop := fun r s2 =>
  r = .ok (.ret (.bool true)) ∧ OldK s₁.heap s2.heap ∧ s2.os = s₁.os ∧ AllBare s2.gens
section
variable {P : Program} {w : World} {K : PySem.W.Frag} {mg mb : Str → Option Value} {k : Nat} {fa a : Addr} {fd : FuncData} {x : Str} {sp : Sp} {s₁ : Shared} {vs : List Value} {ns : List Int}
/-- from an abstract heap that tracks the script at most -/
theorem core_G (KX : K.In s₁.heap) (hns : s₁.heap.Ns mainGlobals mg) (hb : s₁.heap.Ns builtinsNs mb) (hbb : ∀ x : Str, x ≠ "__name__" → mb x = bootBuiltins x) (hlim : s₁.heap.NoLimit) (hg : s₁.gens = #[])
    (ha : s₁.heap.get? a = some { cls := .type "list", data := .seq vs.toArray }) (hr : Room k callerA)
    (F : ∀ base : Heap, K.In base → base.Ns mainGlobals mg → FnG P w K mg base k fa fd [x] sp) (hbind : ∀ (s : Shared) (u : Value), BindsTo s fd ⟨[u], []⟩ [(x, u)])
    (H : Hp) (hO : Only H) (hq : sp [.ref a] H (fun v _ => v = .bl true) fun _ _ _ => False) (hok : HOk P w H s₁.heap) (hA : ∀ b u, H b = some u → b = a) (hK : ∀ u, H a = some u → K.lookup a = none) :
    codeAny (model P w) callerA (.call (.ref fa) ⟨[.ref a], []⟩) (Fine s₁) s₁ := by
  have dictNo : ∀ {b : Addr} {o : Obj} {es : Array DictEntry} {ep : Nat}, s₁.heap.get? b = some o → o.data = .dict es ep → H b = none := by
    intro b o es ep e d
    cases q : H b with
    | none => rfl
    | some u =>
      obtain rfl := hA b u q
      rw [ha] at e
      cases e
      cases d
  have hideNs : ∀ {b : Addr} {m : Str → Option Value}, s₁.heap.Ns b m → (hidT s₁.heap H).Ns b m := by
    rintro b m ⟨o, es, ep, e, d, r⟩
    exact ⟨o, es, ep, hidT_get e (dictNo e d), d, r⟩
  have hKb : K.In (hidT s₁.heap H) := by
    intro b o e
    apply hidT_get (KX b o e)
    cases q : H b with
    | none => rfl
    | some u =>
      obtain rfl := hA b u q
      rw [hK u q] at e
      cases e
  have hM : Mod K mg (hidT s₁.heap H) := by
    obtain ⟨mc, h1, h2⟩ := hlim
    exact ⟨hKb, hideNs hns, ⟨mb, hideNs hb, hbb⟩, ⟨mc, hideNs h1, h2⟩⟩
  have none_ : ∀ b ∈ frs [], H b = none := by
    intro b hb
    cases (show b ∈ ([] : List Addr) from hb)
  have e0 : Env0 P w K mg (hidT s₁.heap H) callerA [] s₁ H := ⟨rfl, hM, fun b o e => of_hidT e, Nat.le_of_eq (hidT_size _ _), trivial, none_, hok, .of_eq hg⟩
  apply codeAny_mono ((F _ hKb (hideNs hns)).run callerA [] s₁ H ⟨[.ref a], []⟩ [.ref a] [.ref a] _ _ rfl hr e0 (hbind s₁ (.ref a)) (.cons rfl .nil) hq)
  intro r s' h
  cases r with
  | error e => exact h.elim
  | ok fl =>
    cases fl with
    | next => exact h.elim
    | brk => exact h.elim
    | cont => exact h.elim
    | ret u =>
      obtain ⟨v, H', os, bare, un, hok', r', rfl⟩ := h
      have eu : u = Value.bool true := r'
      subst eu
      refine ⟨rfl, OldK.of_keep ?_, os, bare⟩
      intro b o e
      cases q : H b with
      | none => exact un.keep b o e q (by intro z; cases (show b ∈ ([] : List Addr) from z)) (by intro z; cases z)
      | some u =>
        (rcases hO b with z | ⟨ob, xs, z⟩)
        · rw [q] at z; cases z
        · have e1 := (hok b _ z).1
          have e2 := (hok' b _ (un.frzs b ob _ z)).1
          rw [e] at e1
          cases e1
          exact e2
theorem law_G (KX : K.In s₁.heap) (hns : s₁.heap.Ns mainGlobals mg) (hb : s₁.heap.Ns builtinsNs mb) (hbb : ∀ x : Str, x ≠ "__name__" → mb x = bootBuiltins x) (hlim : s₁.heap.NoLimit) (hg : s₁.gens = #[])
    (ha : s₁.heap.get? a = some { cls := .type "list", data := .seq vs.toArray })
    (hi : IntsAre vs ns) (hl : ns.length ≤ sizeLine) (hr : Room k callerA)
    (F : ∀ base : Heap, K.In base → base.Ns mainGlobals mg → FnG P w K mg base k fa fd [x] sp) (hbind : ∀ (s : Shared) (u : Value), BindsTo s fd ⟨[u], []⟩ [(x, u)])
    (hsp : ∀ H : Hp, Only H → SqL K H a (ns.map V.int) → sp [.ref a] H (fun v _ => v = .bl true) fun _ _ _ => False) :
    codeAny (model P w) callerA (.call (.ref fa) ⟨[.ref a], []⟩) (Fine s₁) s₁ := by
  have rv := vals_ints hi
  have lenV := hi.length
  cases hk : K.lookup a with
  | some o =>
    have e := KX a o hk
    rw [ha] at e
    cases e
    have hS : SqL K (fun _ => none) a (ns.map V.int) := .inr ⟨_, vs.toArray, _, hk, rfl, rfl, rfl, by rw [List.size_toArray, lenV]; exact hl, by simpa using rv⟩
    have hO : Only (fun _ => none) := fun _ => .inl rfl
    exact core_G KX hns hb hbb hlim hg ha hr F hbind _ hO (hsp _ hO hS) (fun b u z => by cases (show (none : Option HO) = some u from z)) (fun b u z => by cases (show (none : Option HO) = some u from z)) fun u z => by cases (show (none : Option HO) = some u from z)
  | none =>
    let H : Hp := fun b => if b = a then some (.frz { cls := .type "list", data := .seq vs.toArray } (.lst (ns.map V.int))) else none
    have at_a : H a = some (.frz { cls := .type "list", data := .seq vs.toArray } (.lst (ns.map V.int))) := if_pos rfl
    have off : ∀ b u, H b = some u → b = a := by
      intro b u z
      by_cases e : b = a
      · exact e
      · rw [show H b = none from if_neg e] at z; cases z
    have hO : Only H := by
      intro b
      by_cases e : b = a
      · exact .inr ⟨_, _, by rw [e]; exact at_a⟩
      · exact .inl (if_neg e)
    have hok : HOk P w H s₁.heap := by
      intro b u z
      obtain rfl := off b u z
      rw [at_a] at z
      cases z
      (exact ⟨ha, by rw [List.length_map]; exact hl, vs, _, rv, ha⟩)
    exact core_G KX hns hb hbb hlim hg ha hr F hbind H hO (hsp H hO (.inl (.inr ⟨_, at_a⟩))) hok off fun _ _ => hk
end
theorem walk_G {l : PySem.W.OpenLaw} {n k : Nat} {q : Program} {loose : List Str} {XP : (Str → Option Value) → Heap → Prop} {YP : World → Heap → Prop} {d : DefRec} {K : Params → PySem.W.Frag} {sp : PySem.W.Frag → Sp} {x : Str}
    (hn : l.most = some n) (hn2 : n ≤ sizeLine)
    (hdf : d.params.defaults = []) (hr : Room k callerA)
    (hY : ∀ (w : World) (hp : Heap), YP w hp → (K w.params).In hp)
    (F : ∀ (w : World) (mg : Str → Option Value) (fa : Addr) (hp : Heap), (K w.params).In hp → hp.Ns mainGlobals mg → mg d.name = some (.ref fa) →
      ∃ fd : FuncData, (∀ (s : Shared) (u : Value), BindsTo s fd ⟨[u], []⟩ [(x, u)]) ∧ ∀ base : Heap, (K w.params).In base → base.Ns mainGlobals mg → FnG l.prog w (K w.params) mg base k fa fd [x] (sp (K w.params)))
    (hsp : ∀ (K : PySem.W.Frag) (H : Hp) (a : Addr) (ns : List Int), ns.length ≤ n → Only H → SqL K H a (ns.map V.int) → sp K [.ref a] H (fun v _ => v = .bl true) fun _ _ _ => False) :
    PySem.W.WalkO q loose XP YP l.row.toRowW d []
      (fun f us => PySem.call f us) := by
  apply Att.attach_call hn hdf
  intro w s₀ s₁ mg mb fa o pm cd doc a vs ns G Y ho hd hcd hmg hobj hints hlen hg
  obtain ⟨fd, hb, hF⟩ := F w mg fa _ (hY w _ Y) G.T.g hmg
  exact law_G (hY w _ Y) G.T.g G.T.b G.T.builtins G.T.nolimit hg hobj hints (Nat.le_trans hlen hn2) hr hF hb fun H hO hS => hsp _ H a ns hlen hO hS
end V2


namespace V2
open PySem L2
open PySem.Spec PyProof.Rows
theorem ex_but {p : Addr} {H H1 H2 : Hp} (e : Evl.Ex H H1) (b : But p H1 H2) : But p H H2 := (But.of_ex e).trans b
theorem but_back {p q : Addr} {H H' : Hp} (b : But p H H') (h : H' q = none) (hp : ∃ o, H' p = some o) : H q = none := by
  cases e : H q with
  | none => rfl
  | some o =>
    have n : q ≠ p := by
      intro z
      obtain ⟨o', h2⟩ := hp
      rw [← z, h] at h2
      cases h2
    rw [b q o n e] at h
    cases h
theorem sk_some {H : Hp} {p : Addr} {m : Nat} (h : Sk H p m) : ∃ o, H p = some o := by
  obtain ⟨a, b, c, h1, _⟩ := h
  exact ⟨_, h1⟩
theorem sk_ne {H : Hp} {p q : Addr} {m : Nat} (h : Sk H p m) (hq : H q = none) : q ≠ p := by
  intro z
  obtain ⟨o, h2⟩ := sk_some h
  rw [← z, hq] at h2
  cases h2
/-- small polynomials as the law draws them -/
def Sp6 (ns : List Int) : Prop := Pol ns ∧ ns.length ≤ 8 ∧ ∀ x ∈ ns, -1000000 ≤ x ∧ x ≤ 1000000
theorem Sp6.pn {ns : List Int} (h : Sp6 ns) : Pn ns := by
  refine ⟨h.1, by have := h.2.1; omega, fun x hx => ?_⟩
  have e : (2 : Int) ^ 64 = 18446744073709551616 := by decide
  have := h.2.2 x hx
  rw [e]
  omega
def spPoly : Sp := fun vs H Q _ => ∃ (p : Addr) (m : Nat), vs = [.ref p, .int 8] ∧ Sk H p m ∧ m ≤ 90000 ∧
  ∀ (q : Addr) (ns : List Int) (H' : Hp), But p H H' → Sk H' p (m + 20) → H q = none → Li H' q ns → Sp6 ns → Q (.ref q) H'
def spAny : Sp := fun vs H Q _ => ∃ (p : Addr) (m : Nat), vs = [.ref p] ∧ Sk H p m ∧ m ≤ 90000 ∧
  ∀ (q : Addr) (u d : Int) (H' : Hp), But p H H' → Sk H' p (m + 4) → H q = none → Fr H' q u d → Qn u d → Q (.ref q) H'
theorem at4 {a b c d r : Int} (h0 : 0 ≤ r) (h1 : r < 4) : ∃ v, atI [V.int a, .int b, .int c, .int d] r = some (.int v) ∧ (v = a ∨ v = b ∨ v = c ∨ v = d) := by
  have : r = 0 ∨ r = 1 ∨ r = 2 ∨ r = 3 := by omega
  rcases this with rfl | rfl | rfl | rfl
  · exact ⟨a, rfl, .inl rfl⟩
  · exact ⟨b, rfl, .inr (.inl rfl)⟩
  · exact ⟨c, rfl, .inr (.inr (.inl rfl))⟩
  · exact ⟨d, rfl, .inr (.inr (.inr rfl))⟩
theorem at3_ {a b c r : Int} (h0 : 0 ≤ r) (h1 : r < 3) : ∃ v, atI [V.int a, .int b, .int c] r = some (.int v) ∧ (v = a ∨ v = b ∨ v = c) := by
  have : r = 0 ∨ r = 1 ∨ r = 2 := by omega
  rcases this with rfl | rfl | rfl
  · exact ⟨a, rfl, .inl rfl⟩
  · exact ⟨b, rfl, .inr (.inl rfl)⟩
  · exact ⟨c, rfl, .inr (.inr rfl)⟩
theorem shaped_ints (ns : List Int) : SeqAt.shaped (.list (ns.map .int)) = true := by
  have h1 : ∀ l : List Int, PyData.canLayAll0 (l.map .int) = true := by
    intro l
    induction l with
    | nil => rfl
    | cons n r ih => simp [PyData.canLayAll0, PyData.canLay0, ih]
  have h2 : ∀ l : List Int, PyData.depthAll (l.map .int) ≤ 1 := by
    intro l
    induction l with
    | nil => simp [PyData.depthAll]
    | cons n r ih => simp [PyData.depthAll, PyData.depth]; omega
  unfold SeqAt.shaped
  have h3 := h2 ns
  simp [PyData.canLay0, PyData.depth, h1 ns]
  omega
section
variable {base : Heap} {mg : Str → Option Value} {K : PySem.W.Frag} {w : World} {P : Program}
end
end V2


namespace V2
open PySem L2
open PySem.Spec PyProof.Rows
/-! ## the program: what divides all, the rest -/
def spCont (K : PySem.W.Frag) : Sp := fun vs H Q _ => ∃ (a : Addr) (ns : List Int), vs = [.ref a] ∧ Li H a ns ∧ Evl.RetV (.int (cont ns : Int)) H Q
def spPrim : Sp := fun vs H Q _ => ∃ (a : Addr) (ns : List Int), vs = [.ref a] ∧ Li H a ns ∧ ns.length ≤ 100 ∧ (∀ x ∈ ns, x.natAbs < 2 ^ 9000) ∧ Pol ns ∧ Evl.RetL (iV (prim ns)) H Q
theorem cont_pos {ns : List Int} (h : Pol ns) (h0 : ns ≠ []) : 0 < cont ns := by
  rcases Nat.eq_zero_or_pos (cont ns) with z | z
  · exfalso
    have l0 : 0 < ns.length := List.length_pos_iff.mpr h0
    obtain ⟨n, hn⟩ : ∃ n, ns.length = n + 1 := ⟨ns.length - 1, by omega⟩
    have hg := getD_pol h hn
    have e : ns[n]? = some ns[n] := List.getElem?_eq_getElem (by omega)
    rw [getD_at e] at hg
    exact hg (cont_zero z _ (List.getElem_mem (by omega)))
  · exact z
theorem cont_lt {ns : List Int} {B : Nat} (h : Pol ns) (hb : ∀ x ∈ ns, x.natAbs < 2 ^ B) : cont ns < 2 ^ B := by
  by_cases h0 : ns = []
  · subst h0
    exact Nat.pow_pos (by decide)
  · have l0 : 0 < ns.length := List.length_pos_iff.mpr h0
    obtain ⟨n, hn⟩ : ∃ n, ns.length = n + 1 := ⟨ns.length - 1, by omega⟩
    have hg := getD_pol h hn
    have e : ns[n]? = some ns[n] := List.getElem?_eq_getElem (by omega)
    rw [getD_at e] at hg
    have hm : ns[n] ∈ ns := List.getElem_mem (by omega)
    have := Int.natAbs_dvd_natAbs.mpr (cont_dvd hm)
    rw [Int.natAbs_natCast] at this
    exact Nat.lt_of_le_of_lt (Nat.le_of_dvd (by omega) this) (hb _ hm)
theorem prim_at {ns : List Int} {i : Nat} {n : Int} (h : ns[i]? = some n) : (prim ns)[i]? = some (n / (cont ns : Int)) := by
  unfold prim
  rw [List.getElem?_map, h]
  rfl
theorem prim_len (ns : List Int) : (prim ns).length = ns.length := by unfold prim; rw [List.length_map]
theorem take_next {ns : List Int} {i : Nat} {n : Int} (h : ns[i]? = some n) : iV (ns.take (i + 1)) = iV (ns.take i) ++ [.int n] := by
  rw [List.take_add_one, h]
  unfold iV
  rw [List.map_append]
  rfl
section
variable {base : Heap} {mg : Str → Option Value} {K : PySem.W.Frag} {w : World} {P : Program}
theorem ok_content {f : Addr} {fd : FuncData} (F : Fun K "content" "content" s_content f fd) (mG : mg "gcd" = some (.builtin "math.gcd")) : FnOk P w K mg base CX0 1 f fd p_content (spCont K) := by
  refine F.ok sc_content (fun vs H Q E h => ?_) (fun cdv A outer s H vs Q E hr h => ?_)
  · obtain ⟨a, ns, rfl, _⟩ := h
    rfl
  · obtain ⟨a, ns, rfl, hL, k⟩ := h
    have nd := sc_content.nd
    refine ⟨_, pss_cons (ps_set (i := 1) nd rfl (Or.inl rfl) pe_int)
      (pss_cons (ps_for PassesOwn.never rfl (pi_list (pv 0)) (pg_name (i := 2) nd rfl (Or.inl rfl))
        (pss_one (ps_set (i := 1) nd rfl (Or.inl rfl) (pe_callBfun cr_gcd (by rfl) mG (pa_cons (pv 1) (pa_cons (pv 2) pa_nil))))))
      (pss_one (ps_ret (pv 1))) ), ?_⟩
    refine ⟨_, rfl, a, rfl, ⟨_, SqL.of hL⟩, for_list (xs := iV ns) (fun i σ H' => H' = H ∧ ∃ v, σ = [some (.ref a), some (.int (((ns.take i).foldl (fun g x => Nat.gcd g x.natAbs) 0 : Nat) : Int)), v]) ⟨rfl, none, rfl⟩ (fun i σ H' _ q => by rw [q.1]; exact SqL.of hL) ?_ ?_⟩
    · rintro i x σ H' hi ⟨rfl, v, rfl⟩
      obtain ⟨n, hn, rfl⟩ := iV_get hi
      refine ⟨_, rfl, _, rfl, _, _, rfl, rfl, some (.int n), ?_⟩
      rw [List.take_add_one, hn, List.foldl_append]
      rfl
    · rintro σ H' ⟨rfl, v, rfl⟩
      rw [iV_len, List.take_length, cont_fold, Nat.gcd_zero_left]
      exact ⟨_, rfl, k _ (Evl.Ex.refl _)⟩
theorem ok_primitive {f : Addr} {fd : FuncData} (F : Fun K "primitive" "primitive" s_primitive f fd) (cC : Cal P w K mg base 1 "content" p_content (spCont K)) : FnOk P w K mg base CX0 2 f fd p_primitive spPrim := by
  refine F.ok sc_primitive (fun vs H Q E h => ?_) (fun cdv A outer s H vs Q E hr h => ?_)
  · obtain ⟨a, ns, rfl, _⟩ := h
    rfl
  · obtain ⟨a, ns, rfl, hL, hl, hb, hp, k⟩ := h
    have nd := sc_primitive.nd
    refine ⟨_, pss_cons (ps_set (i := 1) nd rfl (Or.inr rfl) (pe_c cC hr (pa_cons (pv 0) pa_nil)))
      (pss_one (ps_ret (pe_lc (own := [("number", 2)]) (g := gName 2) (tt := tYes) (te := tOp (rI CDivW fun i j => .int (i / j)) (tVar 2) (tVar 1)) rfl nd (pi_list (pv 0)) (blkOk_by (N := n_primitive) (sc := defScope s_primitive) (by decide +kernel)) (fun _ _ _ _ _ => pg_name (i := 2) nd rfl (Or.inl rfl)) (fun _ _ _ _ _ => pts_nil)
          (fun _ _ _ _ _ => pe_op op_fdivW (pv 2) (pv 1))))), ?_⟩
    refine ⟨_, rfl, a, ns, rfl, hL, fun H1 e1 => ?_⟩
    have hL1 : Li H1 a ns := e1 _ _ hL
    refine ⟨_, rfl, a, rfl, ⟨_, SqL.of hL1⟩, fun D hD => lc_list (xs := iV ns) (fun i H' => Evl.Ex H1 H' ∧ H' D = some (.lst (iV ((prim ns).take i)))) ⟨Evl.Ex.new hD, upd_same⟩ (fun i H' _ q => SqL.of (q.1 _ _ hL1)) ?_ ?_⟩
    · rintro i x H' hi ⟨e2, h2⟩
      obtain ⟨n, hn, rfl⟩ := iV_get hi
      have h0 : ns ≠ [] := fun z => by rw [z] at hn; cases hn
      have cp := cont_pos hp h0
      refine ⟨rfl, ?_⟩
      show tOp (rI CDivW fun i j => .int (i / j)) (tVar 2) (tVar 1) _ _ _
      refine ⟨_, rfl, _, rfl, _, _, rfl, rfl, wide_div (b := 9000) (by omega) (by rw [Int.natAbs_natCast]; exact cont_lt hp hb) (by decide) (by decide), _, h2, ?_, Evl.Ex.mut e2 hD, ?_⟩
      · rw [iV_len, List.length_take]
        exact Nat.lt_of_le_of_lt (show _ ≤ 100 by rw [prim_len]; omega) (by decide)
      · rw [upd_same, take_next (prim_at hn)]
    · rintro H' ⟨e2, h2⟩
      rw [iV_len, ← prim_len, List.take_length] at h2
      exact k D H' (Evl.fresh_back e1 hD) (e1.trans e2) h2
end
end V2


namespace V2
open PySem L2
open PySem.Spec PyProof.Rows
/-- the rest: whatever is left, divided by what divides all -/
def spRem : Sp := fun vs H Q _ => ∃ (a b : Addr) (xs ys : List Int), vs = [.ref a, .ref b] ∧ Li H a xs ∧ Li H b ys ∧ Sp6 xs ∧ Sp6 ys ∧ ys ≠ [] ∧ ∀ L, Rm xs ys L → (∀ x ∈ L, x.natAbs < 2 ^ 190) → Evl.RetL (iV (prim L)) H Q
structure T7 (mg : Str → Option Value) : Prop where
  len : mg "len" = none
  abs : mg "abs" = none
  enu : mg "enumerate" = none
  gcd : mg "gcd" = some (.builtin "math.gcd")
theorem tkn_next {ys : List Int} {t n : Int} {i : Nat} (h : ys[i]? = some n) : iV ((ys.map fun x => t * x).take (i + 1)) = iV ((ys.map fun x => t * x).take i) ++ [.int (t * n)] :=
  take_next (by rw [List.getElem?_map, h]; rfl)
theorem vec_mem {N : Nat} {f : Nat → Int} {x : Int} (h : x ∈ vec N f) : ∃ i, i < N ∧ x = f i := by
  unfold vec at h
  obtain ⟨i, hi, e⟩ := List.mem_map.mp h
  exact ⟨i, List.mem_range.mp hi, e.symm⟩
theorem getD_mem {L : List Int} {B : Nat} (hb : ∀ x ∈ L, x.natAbs < 2 ^ B) (i : Nat) : (L.getD i 0).natAbs < 2 ^ B := by
  rw [(List.getD_eq_getElem?_getD)]
  cases e : L[i]? with
  | none => exact Nat.pow_pos (by decide)
  | some x => exact hb x (List.mem_of_getElem? e)
theorem vec_take {N : Nat} {f : Nat → Int} {i : Nat} (h : i < N) : iV ((vec N f).take (i + 1)) = iV ((vec N f).take i) ++ [.int (f i)] := take_next (vec_get h)
theorem tkn_bd {ys : List Int} {t : Int} {B : Nat} (ht : t.natAbs < 2 ^ B) (hy : ∀ x ∈ ys, x.natAbs < 2 ^ 20) (off k : Nat) : ((tkn ys off t).getD k 0).natAbs < 2 ^ (B + 20) := by
  rw [tkn_getD]
  split
  · exact wide_lt ht (getD_mem hy _)
  · exact Nat.pow_pos (by decide)
theorem step_bd {ys L : List Int} {g t : Int} {B : Nat} (hL : ∀ x ∈ L, x.natAbs < 2 ^ B) (hg : g.natAbs < 2 ^ 20) (ht : t.natAbs < 2 ^ B) (hy : ∀ x ∈ ys, x.natAbs < 2 ^ 20) : ∀ x ∈ trm (stepL ys L g t), x.natAbs < 2 ^ (B + 21) := by
  intro x hx
  obtain ⟨i, _, rfl⟩ := vec_mem (trm_mem hx)
  have h1 := tkn_bd ht hy (L.length - ys.length) i
  have h2 := wide_lt hg (getD_mem hL i)
  have e : (2 : Nat) ^ (B + 21) = 2 ^ (B + 20) + 2 ^ (B + 20) := by
    rw [show B + 21 = B + 20 + 1 from rfl, Nat.pow_succ]; omega
  rw [Nat.add_comm 20 B] at h2
  rw [e]
  omega
theorem Sp6.b20 {ns : List Int} (h : Sp6 ns) : ∀ x ∈ ns, x.natAbs < 2 ^ 20 := fun x hx => by
  have := h.2.2 x hx
  have e : (2 : Nat) ^ 20 = 1048576 := (by decide)
  rw [e]; omega
/-- ahead of each turn of the loop -/
def Wh (H : Hp) (a b : Addr) (ld : Int) (xs ys : List Int) (m : Nat) (σ : L2.St) (H' : Hp) : Prop := ∃ (l : Addr) (L : List Int) (v4 v5 v6 v7 v8 : Option V), σ = [some (.ref a), some (.ref b), some (.ref l), some (.int ld), v4, v5, v6, v7, v8, none, none] ∧
  Evl.Ex H H' ∧ Li H' l L ∧ Pol L ∧ L.length = m ∧ m ≤ 8 ∧ (∀ x ∈ L, x.natAbs < 2 ^ (21 * (9 - m))) ∧ Rs xs ys L
theorem more {ns : List Int} {A B : Nat} (h : ∀ x ∈ ns, x.natAbs < 2 ^ A) (hl : A ≤ B) : ∀ x ∈ ns, x.natAbs < 2 ^ B := fun x hx => big (h x hx) hl
section
variable {base : Heap} {mg : Str → Option Value} {K : PySem.W.Frag} {w : World} {P : Program}
end
end V2


namespace V2
/-! ## rows of rests: mathematics -/
def Bs (n : Nat) (ns : List Int) : Prop := ∀ x ∈ ns, x.natAbs < 2 ^ n
theorem Bs.le {n m : Nat} {ns : List Int} (h : Bs n ns) (l : n ≤ m) : Bs m ns := fun x hx => Nat.lt_of_lt_of_le (h x hx) (Nat.pow_le_pow_right (by decide) l)
theorem Bs.at_ {n : Nat} {ns : List Int} (h : Bs n ns) (i : Nat) : (ns.getD i 0).natAbs < 2 ^ n := by
  rw [List.getD_eq_getElem?_getD]
  cases e : ns[i]? with
  | none => exact Nat.pow_pos (by decide)
  | some x => exact h x (List.mem_of_getElem? e)
theorem bs_mul {i j : Int} {n m : Nat} (h1 : i.natAbs < 2 ^ n) (h2 : j.natAbs < 2 ^ m) : (i * j).natAbs < 2 ^ (n + m) := by
  rw [Int.natAbs_mul, Nat.pow_add]
  exact Nat.mul_lt_mul'' h1 h2
theorem vec_in {N : Nat} {f : Nat → Int} {x : Int} (h : x ∈ vec N f) : ∃ i, i < N ∧ x = f i := by
  unfold vec at h
  obtain ⟨i, hi, e⟩ := List.mem_map.mp h
  exact ⟨i, List.mem_range.mp hi, e.symm⟩
theorem bs_trm {n : Nat} {ns : List Int} (h : Bs n ns) : Bs n (trm ns) := fun x hx => h x (trm_mem hx)
theorem bs_step {B L : List Int} {g t : Int} {b c : Nat} (hL : Bs c L) (hg : g.natAbs < 2 ^ b) (ht : t.natAbs < 2 ^ c) (hB : Bs b B) : Bs (c + (b + 1)) (trm (stepL B L g t)) := by
  intro x hx
  obtain ⟨i, _, rfl⟩ := vec_in (trm_mem hx)
  have h2 := bs_mul hg (hL.at_ i)
  have h1 : ((tkn B (L.length - B.length) t).getD i 0).natAbs < 2 ^ (c + b) := by
    rw [tkn_getD]
    split
    · exact bs_mul ht (hB.at_ _)
    · exact Nat.pow_pos (by decide)
  have e : (2 : Nat) ^ (c + (b + 1)) = 2 ^ (c + b) + 2 ^ (c + b) := by
    rw [show c + (b + 1) = c + b + 1 from rfl, Nat.pow_succ]; omega
  rw [Nat.add_comm b c] at h2
  rw [e]
  omega
theorem last_at {ns : List Int} (h : ns ≠ []) : ∃ x, ns[ns.length - 1]? = some x ∧ x ∈ ns := by
  have l := List.length_pos_iff.mpr h
  exact ⟨ns[ns.length - 1]'(by omega), List.getElem?_eq_getElem (by omega), List.getElem_mem _⟩
theorem rem_loop {P B : List Int} {b : Nat} (hB : Pol B) (h0 : B ≠ []) (bb : Bs b B) : ∀ (n : Nat) (L : List Int) (c : Nat), L.length ≤ n → Pol L → Rs P B L → Bs c L → ∃ M, Rm P B M ∧ Bs (c + (L.length + 1 - B.length) * (b + 1)) M := by
  intro n
  have lb := List.length_pos_iff.mpr h0
  induction n with
  | zero =>
    intro L c hl hp hR hb
    exact ⟨L, ⟨hp, by omega, hR⟩, hb.le (by omega)⟩
  | succ n ih =>
    intro L c hl hp hR hb
    by_cases h : L.length < B.length
    · exact ⟨L, ⟨hp, h, hR⟩, hb.le (by omega)⟩
    · have L0 : L ≠ [] := fun z => by
        rw [z] at h
        exact h lb
      obtain ⟨tp, htp, htm⟩ := last_at L0
      obtain ⟨ld, hld, hlm⟩ := last_at h0
      have ld0 := hB ld hld
      obtain ⟨f, hf, f0, fb, g0, gb, tb, ge⟩ := grow_take (t := tp) (d := ld) ld0
      have ge' : (if ld < 0 then -ld else ld) / f * L.getD (L.length - 1) 0 = (if ld < 0 then -(tp / f) else tp / f) * B.getD (B.length - 1) 0 := by
        rw [getD_at htp, getD_at hld]
        exact ge
      obtain ⟨r1, r2⟩ := rs_step h0 hR (by omega) g0 ge'
      have hg : ((if ld < 0 then -ld else ld) / f).natAbs < 2 ^ b := Nat.lt_of_le_of_lt gb (bb ld hlm)
      have ht : (if ld < 0 then -(tp / f) else tp / f).natAbs < 2 ^ c := by
        have h1 := hb tp htm
        have h2 : (if ld < 0 then -(tp / f) else tp / f).natAbs = (tp / f).natAbs := by split <;> omega
        omega
      have hs := bs_step hb hg ht bb
      obtain ⟨M, hM, bM⟩ := ih _ (c + (b + 1)) (by omega) (pol_trm _) r1 hs
      refine ⟨M, hM, bM.le ?_⟩
      generalize (trm (stepL B L ((if ld < 0 then -ld else ld) / f) (if ld < 0 then -(tp / f) else tp / f))).length = k at r2
      have e1 : (k + 1 - B.length) + 1 ≤ L.length + 1 - B.length := by omega
      have e2 := Nat.mul_le_mul_right (b + 1) e1
      rw [Nat.succ_mul] at e2
      omega
theorem rem_ex {A B : List Int} {a b : Nat} (hA : Pol A) (hB : Pol B) (h0 : B ≠ []) (ba : Bs a A) (bb : Bs b B) : ∃ M, Rm A B M ∧ Bs (a + (A.length + 1 - B.length) * (b + 1)) M :=
  rem_loop hB h0 bb A.length A a (Nat.le_refl _) hA (Rs.self _ _) ba
open Classical in
/-- some rest, if there is one -/
noncomputable def remF (A B : List Int) : List Int := if h : ∃ L, Rm A B L then h.choose else []
theorem remF_rm {A B L : List Int} (h : Rm A B L) : Rm A B (remF A B) := by
  have hx : ∃ L, Rm A B L := ⟨L, h⟩
  unfold remF
  rw [dif_pos hx]
  exact hx.choose_spec
def negL (ns : List Int) : List Int := ns.map fun x => -x
/-- the next one of a row -/
noncomputable def nx (A B : List Int) : List Int := negL (prim (remF A B))
theorem nx_eq {A B L : List Int} (hB : Pol B) (h : Rm A B L) : nx A B = negL (prim L) := by
  unfold nx
  rw [(remF_rm h).uniq hB h]
theorem prim_length (ns : List Int) : (prim ns).length = ns.length := by unfold prim; rw [List.length_map]
theorem negL_length (ns : List Int) : (negL ns).length = ns.length := by unfold negL; rw [List.length_map]
theorem nx_len {A B : List Int} (h : B ≠ []) : (nx A B).length < B.length := by
  unfold nx
  rw [negL_length, prim_length]
  by_cases hx : ∃ L, Rm A B L
  · obtain ⟨L, hL⟩ := hx
    exact (remF_rm hL).2.1
  · unfold remF
    rw [dif_neg hx]
    exact List.length_pos_iff.mpr h
theorem bs_prim {L : List Int} {B : Nat} (h : Bs B L) : Bs B (prim L) := by
  intro y hy
  unfold prim at hy
  obtain ⟨x, hx, rfl⟩ := List.mem_map.mp hy
  obtain ⟨p, hp⟩ := cont_dvd hx
  rcases Nat.eq_zero_or_pos (cont L) with z | z
  · rw [z]
    show (x / 0).natAbs < 2 ^ B
    rw [Int.ediv_zero]
    exact Nat.pow_pos (by decide)
  · have e : x / (cont L : Int) = p := by
      conv => lhs; rw [hp]
      rw [Int.mul_ediv_cancel_left _ (by omega)]
    rw [e]
    have h1 := h x hx
    rw [hp, Int.natAbs_mul, Int.natAbs_natCast] at h1
    exact Nat.lt_of_le_of_lt (Nat.le_mul_of_pos_left _ z) h1
theorem bs_neg {L : List Int} {B : Nat} (h : Bs B L) : Bs B (negL L) := by
  intro y hy
  unfold negL at hy
  obtain ⟨x, hx, rfl⟩ := List.mem_map.mp hy
  rw [Int.natAbs_neg]
  exact h x hx
theorem pol_negL {L : List Int} (h : Pol L) : Pol (negL L) := by
  intro y hy
  unfold negL at hy
  rw [List.length_map, List.getElem?_map] at hy
  cases e : L[L.length - 1]? with
  | none => rw [e] at hy; cases hy
  | some x =>
    rw [e] at hy
    have := h x e
    have hy : -x = y := Option.some.inj hy
    omega
theorem pol_prim {L : List Int} (h : Pol L) : Pol (prim L) := by
  intro y hy
  unfold prim at hy
  rw [List.length_map, List.getElem?_map] at hy
  cases e : L[L.length - 1]? with
  | none => rw [e] at hy; cases hy
  | some x =>
    rw [e] at hy
    have hx := h x e
    have hy : x / (cont L : Int) = y := Option.some.inj hy
    have hm : x ∈ L := List.mem_of_getElem? e
    obtain ⟨p, hp⟩ := cont_dvd hm
    intro y0
    have c0 : (cont L : Int) ≠ 0 := fun z => by
      rw [z, Int.zero_mul] at hp
      exact hx hp
    have : x / (cont L : Int) = p := by
      conv => lhs; rw [hp]
      rw [Int.mul_ediv_cancel_left _ c0]
    rw [this, y0] at hy
    rw [hy, Int.mul_zero] at hp
    exact hx hp
theorem prim_one {x : Int} (h : x ≠ 0) : Bs 1 (prim [x]) := by
  intro y hy
  have e : prim [x] = [x / (x.natAbs : Int)] := by
    unfold prim cont cont
    rw [Nat.gcd_zero_right]
    rfl
  rw [e] at hy
  obtain rfl := List.mem_singleton.mp hy
  rcases Int.lt_or_gt_of_ne h with c | c
  · have e1 : (x.natAbs : Int) = -x := by omega
    rw [e1, Int.ediv_neg, Int.ediv_self h]
    decide
  · have e1 : (x.natAbs : Int) = x := by omega
    rw [e1, Int.ediv_self h]
    decide
/-! ### the slope -/
def slopeL (p : List Int) : List Int := vec (p.length - 1) fun k => ((k + 1 : Nat) : Int) * p.getD (k + 1) 0
theorem slopeL_len (p : List Int) : (slopeL p).length = p.length - 1 := vec_len _ _
theorem slopeL_getD (p : List Int) (i : Nat) : (slopeL p).getD i 0 = ((i + 1 : Nat) : Int) * p.getD (i + 1) 0 := by
  unfold slopeL
  rw [vec_getD]
  split
  · rfl
  · rw [getD_out (l := p) (by omega), Int.mul_zero]
theorem pol_slope {p : List Int} (h : Pol p) : Pol (slopeL p) := by
  intro x hx
  rw [slopeL_len] at hx
  have hl : p.length - 1 - 1 < p.length - 1 := by
    have := (List.getElem?_eq_some_iff.mp hx).1
    rwa [slopeL_len] at this
  unfold slopeL at hx
  rw [vec_get hl] at hx
  have hx := Option.some.inj hx
  have e : p[p.length - 1]? = some (p[p.length - 1]'(by omega)) := List.getElem?_eq_getElem (by omega)
  rw [show p.length - 1 - 1 + 1 = p.length - 1 by omega, getD_at e] at hx
  rw [← hx]
  exact Int.mul_ne_zero (by omega) (h _ e)
/-- a polynomial that may be passed: at most eight numbers to 10 ** 6 -/
def P6 (p : List Int) : Prop := Pol p ∧ p.length ≤ 8 ∧ ∀ x ∈ p, -1000000 ≤ x ∧ x ≤ 1000000
theorem P6.at_ {p : List Int} (h : P6 p) (i : Nat) : -1000000 ≤ p.getD i 0 ∧ p.getD i 0 ≤ 1000000 := by
  rw [List.getD_eq_getElem?_getD]
  cases e : p[i]? with
  | none => exact ⟨by decide, by decide⟩
  | some x => exact h.2.2 x (List.mem_of_getElem? e)
theorem small_mul {k : Nat} {x : Int} (hk : k ≤ 7) (h : -1000000 ≤ x ∧ x ≤ 1000000) : (((k : Nat) : Int) * x).natAbs < 2 ^ 23 := by
  rw [Int.natAbs_mul, Int.natAbs_natCast]
  have : k * x.natAbs ≤ 7 * 1000000 := Nat.mul_le_mul hk (by omega)
  have e : (2 : Nat) ^ 23 = 8388608 := by decide
  omega
theorem P6.slope {p : List Int} (h : P6 p) : Bs 23 (slopeL p) := by
  intro x hx
  obtain ⟨i, hi, rfl⟩ := vec_in hx
  have := h.2.1
  exact small_mul (by omega) (h.at_ _)
theorem P6.b20 {p : List Int} (h : P6 p) : Bs 20 p := fun x hx => by
  have := h.2.2 x hx
  have e : (2 : Nat) ^ 20 = 1048576 := (by decide)
  rw [e]; omega
/-- a first step for the rest by the slope -/
def firstL (p : List Int) : List Int := vec (p.length - 1) fun k => (((p.length - 1 - k : Nat) : Int)) * p.getD k 0
theorem first_rs {p : List Int} (h2 : 2 ≤ p.length) : Rs p (slopeL p) (firstL p) := by
  refine ⟨((p.length - 1 : Nat) : Int), dlt 1, 2, by omega, fun i hi => by unfold dlt; rw [if_neg (by omega)], fun i => ?_⟩
  rw [cfF_dlt, slopeL_len]
  unfold firstL
  rw [vec_getD]
  by_cases h1 : 1 ≤ i ∧ i - 1 < p.length - 1
  · rw [if_pos h1, slopeL_getD, show i - 1 + 1 = i by omega]
    by_cases h3 : i < p.length - 1
    · rw [if_pos h3, ← Int.add_mul]
      congr 1
      omega
    · rw [if_neg h3, Int.add_zero]
      congr 2
      omega
  · rw [if_neg h1]
    by_cases h3 : i < p.length - 1
    · rw [if_pos h3, Int.zero_add]
      congr 2
      omega
    · rw [if_neg h3, getD_out (l := p) (by omega), Int.mul_zero]
      rfl
theorem rs_trm {P B L : List Int} (h : Rs P B L) : Rs P B (trm L) := by
  obtain ⟨g, q, N, h1, h2, h3⟩ := h
  exact ⟨g, q, N, h1, h2, fun i => by rw [trm_getD]; exact h3 i⟩
theorem rem_first {p : List Int} (h : P6 p) (h2 : 2 ≤ p.length) : ∃ M, Rm p (slopeL p) M ∧ Bs 47 M := by
  have s0 : slopeL p ≠ [] := fun z => by
    have := slopeL_len p
    rw [z, List.length_nil] at this
    omega
  have fb : Bs 23 (trm (firstL p)) := bs_trm (by
    intro x hx
    obtain ⟨i, hi, rfl⟩ := vec_in hx
    have := h.2.1
    exact small_mul (by omega) (h.at_ _))
  obtain ⟨M, hM, bM⟩ := rem_loop (pol_slope h.1) s0 h.slope _ _ 23 (Nat.le_refl _) (pol_trm _) (rs_trm (first_rs h2)) fb
  refine ⟨M, hM, bM.le ?_⟩
  have l1 := trm_len (firstL p)
  have l2 : (firstL p).length = p.length - 1 := vec_len _ _
  rw [slopeL_len]
  have : (trm (firstL p)).length + 1 - (p.length - 1) ≤ 1 := by omega
  have := Nat.mul_le_mul_right (23 + 1) this
  omega
/-! ### the row -/
noncomputable def rowF : Nat → List Int → List Int → List (List Int)
  | 0, _, _ => []
  | n + 1, A, B => if B = [] then [] else B :: rowF n B (nx A B)
theorem rowF_ext : ∀ (n m : Nat) (A B : List Int), B.length ≤ n → B.length ≤ m → rowF n A B = rowF m A B
  | 0, 0, _, _, _, _ => rfl
  | 0, m + 1, A, B, h, _ => by
    have : B = [] := List.eq_nil_of_length_eq_zero (by omega)
    subst this
    rfl
  | n + 1, 0, A, B, _, h => by
    have : B = [] := List.eq_nil_of_length_eq_zero (by omega)
    subst this
    rfl
  | n + 1, m + 1, A, B, h1, h2 => by
    unfold rowF
    by_cases e : B = []
    · rw [if_pos e, if_pos e]
    · rw [if_neg e, if_neg e]
      have := nx_len (A := A) e
      rw [rowF_ext n m B (nx A B) (by omega) (by omega)]
noncomputable def rowT (A B : List Int) : List (List Int) := rowF B.length A B
theorem rowT_nil (A : List Int) : rowT A [] = [] := rfl
theorem rowT_cons {A B : List Int} (h : B ≠ []) : rowT A B = B :: rowT B (nx A B) := by
  have l := List.length_pos_iff.mpr h
  unfold rowT
  obtain ⟨n, hn⟩ : ∃ n, B.length = n + 1 := ⟨B.length - 1, by omega⟩
  rw [hn]
  show (if B = [] then [] else B :: rowF n B (nx A B)) = _
  rw [if_neg h]
  have := nx_len (A := A) h
  rw [rowF_ext n _ B (nx A B) (by omega) (Nat.le_refl _)]
theorem rowF_len : ∀ (n : Nat) (A B : List Int), (rowF n A B).length ≤ n
  | 0, _, _ => Nat.le_refl _
  | n + 1, A, B => by
    unfold rowF
    split
    · exact Nat.zero_le _
    · have := rowF_len n B (nx A B)
      simp only [List.length_cons]
      omega
noncomputable def rowL (p : List Int) : List (List Int) := p :: rowT p (slopeL p)
theorem rowL_len {p : List Int} (h : p ≠ []) : (rowL p).length ≤ p.length := by
  have l := List.length_pos_iff.mpr h
  unfold rowL rowT
  have := rowF_len (slopeL p).length p (slopeL p)
  rw [slopeL_len] at this ⊢
  simp only [List.length_cons]
  omega
/-- how many bits -/
def gam : Nat → Nat
  | 0 => 20
  | 1 => 23
  | 2 => 47
  | 3 => 119
  | 4 => 287
  | 5 => 695
  | 6 => 1679
  | _ => 4055
/-- two neighbours in a row -/
structure Nb (A B : List Int) : Prop where
  pa : Pol A
  pb : Pol B
  la : A.length ≤ 8
  lt : B.length < A.length
  ba : Bs (gam (8 - A.length)) A
  bb : Bs (gam (9 - A.length)) B
  b1 : B.length = 1 → Bs 23 B
  sm : Bs 1700 A
theorem gam_mono : ∀ i j : Nat, i ≤ j → gam i ≤ gam j := by
  have h1 : ∀ i, i < 9 → gam i ≤ 4055 := by decide
  have h2 : ∀ j, j < 8 → ∀ i, i ≤ j → gam i ≤ gam j := by decide
  intro i j h
  by_cases c : j < 8
  · exact h2 j c i h
  · have e : gam j = 4055 := by
      match j, c with
      | 0, c => exact absurd (by decide) c
      | 1, c => exact absurd (by decide) c
      | 2, c => exact absurd (by decide) c
      | 3, c => exact absurd (by decide) c
      | 4, c => exact absurd (by decide) c
      | 5, c => exact absurd (by decide) c
      | 6, c => exact absurd (by decide) c
      | n + 7, _ => rfl
    rw [e]
    by_cases c2 : i < 9
    · exact h1 i c2
    · have : gam i = 4055 := by
        match i, c2 with
        | n + 7, _ => rfl
        | 0, c => exact absurd (by decide) c
        | 1, c => exact absurd (by decide) c
        | 2, c => exact absurd (by decide) c
        | 3, c => exact absurd (by decide) c
        | 4, c => exact absurd (by decide) c
        | 5, c => exact absurd (by decide) c
        | 6, c => exact absurd (by decide) c
      omega
theorem gam_step : ∀ a, a < 8 → ∀ b, b < a → 2 ≤ b → gam (8 - a) + (a + 1 - b) * (gam (9 - a) + 1) ≤ gam (9 - b) := by decide
theorem gam_room : ∀ a, a < 9 → ∀ b, b < a → 2 ≤ b → gam (8 - a) + (a + 1 - b) * (2 * gam (9 - a) + 1) ≤ 8000 := by decide
theorem gam_room1 : ∀ a, a < 9 → 2 ≤ a → gam (8 - a) + a * 47 ≤ 8000 := by decide
theorem Nb.smb {A B : List Int} (h : Nb A B) : Bs 1700 B := by
  by_cases c : B.length = 1
  · exact (h.b1 c).le (by decide)
  · by_cases c2 : B.length = 0
    · have : B = [] := List.eq_nil_of_length_eq_zero c2
      subst this
      intro x hx
      cases hx
    · refine h.bb.le ?_
      have := h.lt
      have := gam_mono (9 - A.length) 6 (by omega)
      have : gam 6 = 1679 := rfl
      omega
/-- bits of both, and the room that a rest of them takes -/
theorem Nb.room {A B : List Int} (h : Nb A B) (h0 : B ≠ []) : ∃ bx by_ : Nat, Bs bx A ∧ Bs by_ B ∧ bx + (A.length + 1 - B.length) * (2 * by_ + 1) ≤ 8000 ∧ by_ ≤ 4055 := by
  have l := List.length_pos_iff.mpr h0
  have hl := h.lt
  have ha := h.la
  by_cases c : B.length = 1
  · refine ⟨_, 23, h.ba, h.b1 c, ?_, by decide⟩
    have := gam_room1 A.length (by omega) (by omega)
    rw [c]
    simp only [Nat.add_sub_cancel]
    omega
  · refine ⟨_, _, h.ba, h.bb, ?_, ?_⟩
    · exact gam_room A.length (by omega) B.length (by omega) (by omega)
    · exact gam_mono _ 7 (by omega)
theorem pol_one {L : List Int} (h : Pol L) (hl : L.length = 1) : ∃ x, L = [x] ∧ x ≠ 0 := by
  match L, hl with
  | [x], _ => exact ⟨x, rfl, h x rfl⟩
theorem nx_small {A B M : List Int} {m : Nat} (hB : Pol B) (hM : Rm A B M) (bM : Bs m M) : Pol (nx A B) ∧ Bs m (nx A B) ∧ ((nx A B).length = 1 → Bs 23 (nx A B)) := by
  rw [nx_eq hB hM]
  refine ⟨pol_negL (pol_prim hM.1), bs_neg (bs_prim bM), fun h => ?_⟩
  rw [negL_length, prim_length] at h
  obtain ⟨x, rfl, hx⟩ := pol_one hM.1 h
  exact (bs_neg (prim_one hx)).le (by decide)
theorem nb_first {p : List Int} (h : P6 p) (h0 : p ≠ []) : Nb p (slopeL p) where
  pa := h.1
  pb := pol_slope h.1
  la := h.2.1
  lt := by
    have := List.length_pos_iff.mpr h0
    rw [slopeL_len]
    omega
  ba := h.b20.le (gam_mono 0 _ (Nat.zero_le _))
  bb := h.slope.le (gam_mono 1 _ (by have := h.2.1; omega))
  b1 := fun _ => h.slope
  sm := h.b20.le (by decide)
theorem nb_second {p : List Int} (h : P6 p) (s0 : slopeL p ≠ []) : Nb (slopeL p) (nx p (slopeL p)) := by
  have l := List.length_pos_iff.mpr s0
  have sl := slopeL_len p
  obtain ⟨M, hM, bM⟩ := rem_first h (by omega)
  obtain ⟨n1, n2, n3⟩ := nx_small (pol_slope h.1) hM bM
  have h8 := h.2.1
  exact {
    pa := pol_slope h.1
    pb := n1
    la := by omega
    lt := nx_len s0
    ba := h.slope.le (gam_mono 1 _ (by omega))
    bb := n2.le (gam_mono 2 _ (by omega))
    b1 := n3
    sm := h.slope.le (by decide) }
theorem nb_next {A B : List Int} (h : Nb A B) (h7 : A.length ≤ 7) (h0 : B ≠ []) : Nb B (nx A B) := by
  have l := List.length_pos_iff.mpr h0
  have hl := h.lt
  obtain ⟨M, hM, bM⟩ := rem_ex h.pa h.pb h0 h.ba h.bb
  obtain ⟨n1, n2, n3⟩ := nx_small h.pb hM bM
  refine { pa := h.pb, pb := n1, la := by omega, lt := nx_len h0, ba := h.bb.le (gam_mono _ _ (by omega)), bb := ?_, b1 := n3, sm := h.smb }
  by_cases c : B.length = 1
  · have := nx_len (A := A) h0
    have : nx A B = [] := List.eq_nil_of_length_eq_zero (by omega)
    rw [this]
    intro x hx
    cases hx
  · exact n2.le (gam_step A.length (by omega) B.length (by omega) (by omega))
/-- where a row of p stands -/
structure Wr (p : List Int) (pre : List (List Int)) (A B : List Int) : Prop where
  nb : Nb A B
  hd : (A = p ∧ B = slopeL p) ∨ A.length ≤ 7
  all : pre ++ A :: rowT A B = rowL p
theorem Wr.start {p : List Int} (h : P6 p) (h0 : p ≠ []) : Wr p [] p (slopeL p) := ⟨nb_first h h0, .inl ⟨rfl, rfl⟩, rfl⟩
theorem Wr.next {p : List Int} {pre : List (List Int)} {A B : List Int} (hp : P6 p) (h : Wr p pre A B) (h0 : B ≠ []) : Wr p (pre ++ [A]) B (nx A B) := by
  obtain ⟨h1, h2, h3⟩ := h
  refine ⟨?_, .inr (by have := h1.la; have := h1.lt; omega), ?_⟩
  · rcases h2 with ⟨rfl, rfl⟩ | h2
    · exact nb_second hp h0
    · exact nb_next h1 h2 h0
  · rw [← h3, rowT_cons h0, List.append_assoc]
    rfl
theorem Wr.done {p : List Int} {pre : List (List Int)} {A : List Int} (h : Wr p pre A []) : pre ++ [A] = rowL p := by
  rw [← h.all, rowT_nil]
theorem Wr.one {p : List Int} {pre : List (List Int)} {A B : List Int} (h : Wr p pre A B) (h1 : B.length = 1) : pre ++ [A] ++ [B] = rowL p := by
  have h0 : B ≠ [] := fun z => by rw [z] at h1; cases h1
  have : nx A B = [] := List.eq_nil_of_length_eq_zero (by have := nx_len (A := A) h0; omega)
  rw [← h.all, rowT_cons h0, this, rowT_nil, List.append_assoc]
  rfl
theorem Wr.pre_len {p : List Int} {pre : List (List Int)} {A B : List Int} (hp : P6 p) (h0 : p ≠ []) (h : Wr p pre A B) : pre.length ≤ 7 := by
  have h1 := rowL_len h0
  rw [← h.all] at h1
  have := hp.2.1
  simp only [List.length_append, List.length_cons] at h1
  omega
/-- what is known of each one in a row -/
def Rw5 (R : List Int) : Prop := Pol R ∧ R ≠ [] ∧ R.length ≤ 8 ∧ Bs 1700 R
theorem rowF_ok : ∀ (n : Nat) (A B : List Int), Nb A B → A.length ≤ 7 → ∀ R ∈ rowF n A B, Rw5 R
  | 0, _, _, _, _, R, h => by cases h
  | n + 1, A, B, hn, h7, R, h => by
    unfold rowF at h
    by_cases e : B = []
    · rw [if_pos e] at h
      cases h
    · rw [if_neg e] at h
      rcases List.mem_cons.mp h with rfl | h
      · exact ⟨hn.pb, e, by have := hn.lt; omega, hn.smb⟩
      · exact rowF_ok n B (nx A B) (nb_next hn h7 e) (by have := hn.lt; omega) R h
theorem rowL_ok {p : List Int} (h : P6 p) (h0 : p ≠ []) : ∀ R ∈ rowL p, Rw5 R := by
  intro R hR
  have hl := List.length_pos_iff.mpr h0
  rcases List.mem_cons.mp hR with rfl | hR
  · exact ⟨h.1, h0, h.2.1, h.b20.le (by decide)⟩
  · by_cases e : slopeL p = []
    · rw [e] at hR
      rw [rowT_nil] at hR
      cases hR
    · rw [rowT_cons e] at hR
      have sl := slopeL_len p
      have h8 := h.2.1
      rcases List.mem_cons.mp hR with rfl | hR
      · exact ⟨pol_slope h.1, e, by omega, h.slope.le (by decide)⟩
      · exact rowF_ok _ _ _ (nb_second h e) (by omega) R hR
end V2



namespace V2
open PySem L2
open PySem.Spec PyProof.Rows
/-- the rest of greater polynomials -/
def spRemW : Sp := fun vs H Q _ => ∃ (a b : Addr) (xs ys : List Int) (bx by_ : Nat), vs = [.ref a, .ref b] ∧ Li H a xs ∧ Li H b ys ∧ Pol xs ∧ Pol ys ∧ xs.length ≤ 8 ∧ ys.length ≤ 8 ∧ Bs bx xs ∧ Bs by_ ys ∧ ys ≠ [] ∧ bx + (xs.length + 1 - ys.length) * (2 * by_ + 1) ≤ 8000 ∧ by_ ≤ 4055 ∧ ∀ L, Rm xs ys L → Evl.RetL (iV (prim L)) H Q
/-- ahead of each turn of the loop -/
def Wh5 (H : Hp) (a b : Addr) (ld : Int) (xs ys : List Int) (bx by_ : Nat) (m : Nat) (σ : L2.St) (H' : Hp) : Prop := ∃ (l : Addr) (L : List Int) (v4 v5 v6 v7 v8 : Option V) (j : Nat), σ = [some (.ref a), some (.ref b), some (.ref l), some (.int ld), v4, v5, v6, v7, v8, none, none] ∧
  Evl.Ex H H' ∧ Li H' l L ∧ Pol L ∧ L.length = m ∧ m ≤ 8 ∧ j ≤ xs.length + 1 - ys.length ∧ j + m ≤ xs.length ∧ Bs (bx + j * (by_ + 1)) L ∧ Rs xs ys L
section
variable {base : Heap} {mg : Str → Option Value} {K : PySem.W.Frag} {w : World} {P : Program}
theorem ok_remainder {f : Addr} {fd : FuncData} (F : Fun K "remainder" "remainder" s_remainder f fd) (T : T7 mg) (cC : Cal P w K mg base 1 "cut" p_cut (spTrim K)) (cP : Cal P w K mg base 2 "primitive" p_primitive spPrim) : FnOk P w K mg base CX0 3 f fd p_remainder spRemW := by
  refine F.ok sc_remainder (fun vs H Q E h => ?_) (fun cdv A outer s H vs Q E hr h => ?_)
  · obtain ⟨a, b, xs, ys, bx, b2, rfl, _⟩ := h
    rfl
  · obtain ⟨a, b, xs, ys, bx, by_, rfl, ha, hb, px, py, lx8, ly8, hbx, hby, y0, hroom, hby9, k⟩ := h
    have nd := sc_remainder.nd
    have r1 : Room 1 _ := hr.mono (by decide)
    refine ⟨_, pss_cons (ps_set (i := 2) nd rfl (Or.inl rfl) (pv 0))
      (pss_cons (ps_set (i := 3) nd rfl (Or.inl rfl) (pe_ix ix_list (pv 1) (pe_un un_neg pe_int) (fun _ _ => rfl)))
      (pss_cons (ps_while PassesOwn.never (pt_cmpR op_ge (pe_callB call_len_seq (by rfl) T.len PySem.boot_len (pa_cons (pv 2) pa_nil)) (pe_callB call_len_seq (by rfl) T.len PySem.boot_len (pa_cons (pv 1) pa_nil)) (nomark _))
        (pss_cons (ps_set (i := 4) nd rfl (Or.inl rfl) (pe_callBfun cr_gcd (by rfl) T.gcd (pa_cons (pe_ix ix_list (pv 2) (pe_un un_neg pe_int) (fun _ _ => rfl)) (pa_cons (pv 3) pa_nil))))
        (pss_cons (ps_asg (pe_tup (pa_cons (pe_op op_fdivW (pe_callB call_abs (by rfl) T.abs (by decide +kernel) (pa_cons (pv 3) pa_nil)) (pv 4)) (pa_cons (pe_op op_fdivW (pe_ix ix_list (pv 2) (pe_un un_neg pe_int) (fun _ _ => rfl)) (pv 4)) pa_nil)))
            (pg_tup rfl (pgs_cons (pg_name (i := 5) nd rfl (Or.inr rfl)) (pgs_cons (pg_name (i := 6) nd rfl (Or.inr rfl)) pgs_nil))))
        (Evl.pss_cut (ps_if (pt_cmpR op_lt (pv 3) pe_int (nomark _)) (pss_one (ps_set (i := 6) nd rfl (Or.inr rfl) (pe_un un_neg (pv 6)))) pss_nil)
        (pss_cons (ps_set (i := 7) nd rfl (Or.inl rfl) (pe_op op_sub (pe_callB call_len_seq (by rfl) T.len PySem.boot_len (pa_cons (pv 2) pa_nil)) (pe_callB call_len_seq (by rfl) T.len PySem.boot_len (pa_cons (pv 1) pa_nil))))
        (pss_cons (ps_set (i := 8) nd rfl (Or.inr rfl) (pe_op op_cat (pe_op op_rep (pe_lst (pa_cons pe_int pa_nil)) (pv 7))
            (pe_lc (own := [("number", 9)]) (g := gName 9) (tt := tYes) (te := tOp (rI CMulW fun i j => .int (i * j)) (tVar 6) (tVar 9)) rfl nd (pi_list (pv 1)) (blkOk_by (N := n_remainder) (sc := defScope s_remainder) (by decide +kernel)) (fun _ _ _ _ _ => pg_name (i := 9) nd rfl (Or.inl rfl)) (fun _ _ _ _ _ => pts_nil)
              (fun _ _ _ _ _ => pe_op op_mulW (pv 6) (pv 9)))))
        (pss_one (ps_set (i := 2) nd rfl (Or.inl rfl) (pe_c cC r1 (pa_cons
            (pe_lc (own := [("k", 10), ("number", 9)]) (g := gTup K 2 (gCons (gName 10) (gCons (gName 9) gNil))) (tt := tYes) (te := tOp (rI0 fun i j => .int (i - j)) (tOp (rI CMulW fun i j => .int (i * j)) (tVar 5) (tVar 9)) (tOp (rIxL K) (tVar 8) (tVar 10))) rfl nd (pi_enum (by rfl) T.enu (pa_cons (pv 2) pa_nil)) (blkOk_by (N := n_remainder) (sc := defScope s_remainder) (by decide +kernel)) (fun _ _ _ _ _ => pg_tup rfl (pgs_cons (pg_name (i := 10) nd rfl (Or.inl rfl)) (pgs_cons (pg_name (i := 9) nd rfl (Or.inl rfl)) pgs_nil))) (fun _ _ _ _ _ => pts_nil)
              (fun _ _ _ _ _ => pe_op op_sub (pe_op op_mulW (pv 5) (pv 9)) (pe_ix ix_list (pv 8) (pv 10) (fun _ _ => rfl)))) pa_nil)))))))))) 
      (pss_one (ps_ret (pe_c cP (hr.mono (by decide)) (pa_cons (pv 2) pa_nil)))))), ?_⟩
    have one : 1 ≤ sizeLine := by show 1 ≤ sizeLine; decide
    have two : 2 ≤ sizeLine := by show 2 ≤ sizeLine; decide
    obtain ⟨ld, hld, hld2⟩ := atI_end y0
    have ld0 := py ld hld
    have lb : 0 < ys.length := List.length_pos_iff.mpr y0
    have ldb : ld.natAbs < 2 ^ by_ := hby ld (List.mem_of_getElem? hld)
    have by0 : 0 < by_ := by
      rcases Nat.eq_zero_or_pos by_ with z | z
      · rw [z] at ldb
        have : (2 : Nat) ^ 0 = 1 := rfl
        omega
      · exact z
    have room1 : ∀ j, j ≤ xs.length + 1 - ys.length → bx + j * (by_ + 1) ≤ 8000 := fun j hj => by
      have h1 := Nat.mul_le_mul hj (show by_ + 1 ≤ 2 * by_ + 1 by omega)
      omega
    refine ⟨_, rfl, _, rfl, _, rfl, b, _, _, _, rfl, rfl, hb.sq, hld2, ?_⟩
    refine ⟨Wh5 H a b ld xs ys bx by_, ⟨xs.length, a, xs, none, none, none, none, none, 0, rfl, Evl.Ex.refl _, ha, px, rfl, lx8, by omega, by omega, hbx.le (by omega), Rs.self _ _⟩, ?_⟩
    rintro m σ H1 ⟨l, L, v4, v5, v6, v7, v8, j0, rfl, e1, hL, hp, hm, hm8, hj1, hj2, hbd, hR⟩
    subst hm
    have rj := room1 j0 hj1
    refine ⟨_, rfl, l, _, rfl, .inl hL.sq, _, rfl, b, _, rfl, .inl (SqL.of (e1 _ _ hb)), _, _, rfl, rfl, _, rfl, ?_⟩
    by_cases c : ys.length ≤ L.length
    · refine if_t (decide_eq_true (by rw [iV_len, iV_len]; omega)) ?_
      have L0 : L ≠ [] := fun z => by
        rw [z, List.length_nil] at c
        omega
      obtain ⟨tp, htp, htp2⟩ := atI_end L0
      obtain ⟨f, hf, f0, fb, g0, gb, tb, ge⟩ := grow_take (t := tp) (d := ld) ld0
      subst hf
      refine ⟨fun σ H' => ∃ m', m' < L.length ∧ Wh5 H a b ld xs ys bx by_ m' σ H', fun σ H' z => z, ?_⟩
      refine ⟨_, rfl, _, rfl, l, _, _, _, rfl, rfl, hL.sq, htp2, _, rfl, tp, ld, rfl, ?_⟩
      generalize hfe : ((Nat.gcd tp.natAbs ld.natAbs : Nat) : Int) = f at *
      refine ⟨_, rfl, ld, rfl, _, rfl, _, _, rfl, rfl, wide_div (b := by_) f0 (by omega) by0 (by omega), ?_⟩
      refine ⟨_, rfl, _, rfl, l, _, _, _, rfl, rfl, hL.sq, htp2, _, rfl, _, _, rfl, rfl, wide_div (b := by_) f0 (by omega) by0 (by omega), two, fun t ht => ?_⟩
      refine ⟨t, _, rfl, SqT.of upd_same, rfl, _, _, rfl, _, _, rfl, rfl, ?_⟩
      have et := Evl.Ex.new (o := .tup [.int ((if ld < 0 then -ld else ld) / f), .int (tp / f)]) ht
      obtain ⟨g, hg⟩ : ∃ g, (if ld < 0 then -ld else ld) / f = g := ⟨_, rfl⟩
      rw [hg] at g0 gb ge
      generalize htk : (if ld < 0 then -(tp / f) else tp / f) = tk at ge
      refine ⟨fun σ H' => ∃ v7 v8, σ = [some (.ref a), some (.ref b), some (.ref l), some (.int ld), some (.int f), some (.int g), some (.int tk), v7, v8, none, none] ∧ Evl.Ex H1 H', ?_, ?_⟩
      · refine ⟨_, rfl, _, _, rfl, rfl, _, rfl, ?_⟩
        refine ite2 (fun z => ?_) (fun z => ?_)
        · have z1 : ld < 0 := of_decide_eq_true z
          rw [if_pos z1] at htk
          refine ⟨_, rfl, _, rfl, v7, v8, ?_, et⟩
          rw [← htk, ← hg]
          rfl
        · have z1 : ¬ ld < 0 := fun y => z (decide_eq_true y)
          rw [if_neg z1] at htk
          refine ⟨v7, v8, ?_, et⟩
          rw [← htk, ← hg]
          rfl
      have tkb : tk.natAbs < 2 ^ (bx + j0 * (by_ + 1)) := by
        have h1 := hbd tp (List.mem_of_getElem? htp)
        have h2 : tk.natAbs = (tp / f).natAbs := by rw [← htk]; split <;> omega
        omega
      clear et ht
      rintro σ H2 ⟨w7, w8, rfl, e2⟩
      have hL2 : Li H2 l L := e2 _ _ hL
      have hb2 : Li H2 b ys := (e1.trans e2) _ _ hb
      refine ⟨_, rfl, l, _, rfl, .inl hL2.sq, _, rfl, b, _, rfl, .inl hb2.sq, _, _, rfl, rfl, ?_⟩
      refine ⟨one, fun p1 hp1 => ⟨_, rfl, p1, _, _, rfl, rfl, upd_same, by rw [iV_len, iV_len]; omega, by rw [iV_len, iV_len]; omega, ?_, fun p2 hp2 => ?_⟩⟩
      · rw [iV_len, iV_len]
        show 1 * _ ≤ sizeLine
        exact Nat.le_trans (show 1 * ((L.length : Int) - (ys.length : Int)).toNat ≤ 100 by omega) (by decide)
      rw [iV_len, iV_len, rep_flat, ← iV_rep, show ((L.length : Int) - (ys.length : Int)).toNat = L.length - ys.length by omega]
      have e3 : Evl.Ex H2 (upd H2 p1 (.lst [.int 0])) := Evl.Ex.new hp1
      have e4 := e3.trans (Evl.Ex.new (o := .lst (iV (List.replicate (L.length - ys.length) 0))) hp2)
      generalize hH3 : upd (upd H2 p1 (.lst [.int 0])) p2 (.lst (iV (List.replicate (L.length - ys.length) 0))) = H3 at *
      have hp23 : H3 p2 = some (.lst (iV (List.replicate (L.length - ys.length) 0))) := by rw [← hH3]; exact upd_same
      refine ⟨_, rfl, b, rfl, ⟨_, SqL.of (e4 _ _ hb2)⟩, fun D hD => lc_list (xs := iV ys) (fun i H' => Evl.Ex H3 H' ∧ H' D = some (.lst (iV ((ys.map fun x => tk * x).take i)))) ⟨Evl.Ex.new hD, upd_same⟩ (fun i H' _ q => SqL.of (q.1 _ _ (e4 _ _ hb2))) ?_ ?_⟩
      · rintro i x H' hi ⟨e5, h5⟩
        obtain ⟨n, hn, rfl⟩ := iV_get hi
        refine ⟨rfl, ?_⟩
        show tOp (rI CMulW fun i j => .int (i * j)) (tVar 6) (tVar 9) _ _ _
        refine ⟨_, rfl, _, rfl, _, _, rfl, rfl, wide_mul (a := bx + j0 * (by_ + 1) + 1) (big tkb (by omega)) (hby n (List.mem_of_getElem? hn)) (by omega) by0 (by omega), _, h5, ?_, Evl.Ex.mut e5 hD, ?_⟩
        · rw [iV_len, List.length_take, List.length_map]
          exact Nat.lt_of_le_of_lt (show min i ys.length ≤ 8 by omega) (by decide)
        · rw [upd_same, tkn_next hn]
      rintro H4 ⟨e5, h5⟩
      rw [iV_len, List.take_of_length_le (by rw [List.length_map]; exact Nat.le_refl _)] at h5
      refine ⟨p2, D, _, _, rfl, rfl, e5 _ _ hp23, h5, ?_, fun p3 hp3 => ?_⟩
      · rw [iV_len, iV_len, List.length_replicate, List.length_map]
        exact Nat.le_trans (show L.length - ys.length + ys.length ≤ 100 by omega) (by decide)
      rw [iV_app]
      have htkn : List.replicate (L.length - ys.length) 0 ++ ys.map (fun x => tk * x) = tkn ys (L.length - ys.length) tk := rfl
      rw [htkn]
      have e6 : Evl.Ex H4 (upd H4 p3 (.lst (iV (tkn ys (L.length - ys.length) tk)))) := Evl.Ex.new hp3
      have hp34 : Li (upd H4 p3 (.lst (iV (tkn ys (L.length - ys.length) tk)))) p3 (tkn ys (L.length - ys.length) tk) := upd_same
      generalize upd H4 p3 (.lst (iV (tkn ys (L.length - ys.length) tk))) = H5 at e6 hp34
      have e25 : Evl.Ex H2 H5 := (e4.trans e5).trans e6
      have hL5 : Li H5 l L := e25 _ _ hL2
      have gb20 : g.natAbs < 2 ^ by_ := by omega
      have hc := rs_step y0 hR c g0 (t := tk) (by rw [getD_at htp, getD_at hld]; exact ge)
      have hbd2 := bs_step (B := ys) hbd gb20 tkb hby
      have ej : bx + j0 * (by_ + 1) + (by_ + 1) = bx + (j0 + 1) * (by_ + 1) := by rw [Nat.succ_mul]; omega
      rw [ej] at hbd2
      refine ⟨_, rfl, l, _, rfl, hL5.sq, fun D2 hD2 => lc_it walk_enum (fun i H' => Evl.Ex H5 H' ∧ H' D2 = some (.lst (iV ((stepL ys L g tk).take i)))) ⟨Evl.Ex.new hD2, upd_same⟩ (fun i H' _ q => SqL.of (q.1 _ _ hL5)) ?_ ?_⟩
      · rintro i x H' H6 hi ⟨e7, h7⟩ ⟨t3, z, y, rfl, ht3, rfl, hz, hyy⟩
        obtain rfl := (Option.some.inj hz).symm
        obtain ⟨n, hn, rfl⟩ := iV_get hyy
        rw [iV_len] at hi
        have e8 := e7.trans (Evl.Ex.new (o := .tup [.int (i : Nat), .int n]) ht3)
        refine ⟨t3, _, rfl, SqT.of upd_same, rfl, _, _, rfl, _, _, rfl, rfl, rfl, ?_⟩
        show tOp (rI0 fun i j => .int (i - j)) (tOp (rI CMulW fun i j => .int (i * j)) (tVar 5) (tVar 9)) (tOp (rIxL K) (tVar 8) (tVar 10)) _ _ _
        have tl : i < (tkn ys (L.length - ys.length) tk).length := by rw [tkn_len]; omega
        refine ⟨_, rfl, _, rfl, _, _, rfl, rfl, wide_mul (b := bx + j0 * (by_ + 1) + 1) gb20 (big (hbd n (List.mem_of_getElem? hn)) (by omega)) by0 (by omega) (by omega), _, rfl, _, rfl, p3, _, _, _, rfl, rfl, SqL.of (e8 _ _ hp34), atI_nat (iV_at (List.getElem?_eq_getElem tl)), _, _, rfl, rfl, ?_⟩
        have h8 : (upd H' t3 (.tup [.int (i : Nat), .int n])) D2 = some (.lst (iV ((stepL ys L g tk).take i))) := by
          rw [upd_ne (ne_of_none h7 ht3)]
          exact h7
        refine ⟨_, h8, ?_, Evl.Ex.mut e8 hD2, ?_⟩
        · rw [iV_len, List.length_take]
          exact Nat.lt_of_le_of_lt (show min i (stepL ys L g tk).length ≤ 8 by omega) (by decide)
        · rw [upd_same]
          unfold stepL
          rw [vec_take hi, getD_at hn, getD_at (List.getElem?_eq_getElem tl)]
      · rintro H' ⟨e7, h7⟩
        rw [iV_len, show (stepL ys L g tk).take L.length = stepL ys L g tk from List.take_of_length_le (by unfold stepL; rw [vec_len]; exact Nat.le_refl _)] at h7
        refine ⟨D2, _, rfl, SqL.of h7, by unfold stepL; rw [vec_len]; omega, fun q H7 hq e9 h9 => ?_⟩
        have el : (trm (stepL ys L g tk)).length ≤ 8 := by omega
        exact ⟨_, hc.2, q, trm (stepL ys L g tk), _, _, _, _, _, j0 + 1, rfl, (((e1.trans e2).trans e25).trans e7).trans e9, h9, pol_trm _, rfl, el, by omega, by omega, hbd2, hc.1⟩
    · refine if_f (decide_eq_false (by rw [iV_len, iV_len]; omega)) ?_
      refine ⟨_, rfl, l, L, rfl, hL, by omega, hbd.le (by omega), hp, fun q H2 hq e2 h2 => ?_⟩
      exact k L ⟨hp, by omega, hR⟩ q H2 (Evl.fresh_back e1 hq) (e1.trans e2) h2
end
end V2


namespace V2
open PySem L2
open PySem.Spec PyProof.Rows
/-! ## constants: polynomials of one number at most -/
def tRowsInW (K : PySem.W.Frag) : TS := tAsg (tOp (rI0 fun i j => .int (i + j)) (tOp (rIxL K) (tVar 2) (tOp (rI0 fun i j => .int (i + j)) (tVar 3) (tVar 5))) (tOp (rI CMulW fun i j => .int (i * j)) (tVar 4) (tVar 6))) (gSub (tVar 2) (tOp (rI0 fun i j => .int (i + j)) (tVar 3) (tVar 5)) rSetL)
def tRowsW (K : PySem.W.Frag) : TS := tFor (iEnum K (tCons (tVar 0) tNil)) (gTup K 2 (gCons (gName 3) (gCons (gName 4) gNil))) (tFor (iEnum K (tCons (tVar 1) tNil)) (gTup K 2 (gCons (gName 5) (gCons (gName 6) gNil))) (tRowsInW K))
theorem rowsW_read {K : PySem.W.Frag} {D : Ends} {H : Hp} {a b l : Addr} {xs ys : List Int} {N : Nat} {u3 u4 u5 u6 : Option V} (ha : Li H a xs) (hb : Li H b ys) (hl : Li H l (vec N fun _ => 0)) (na : a ≠ l) (nb : b ≠ l) (hN : xs.length + ys.length ≤ N + 1)
    (hx : ∀ x ∈ xs, ∀ y ∈ ys, CMulW x y) (k : ∀ (H' : Hp) v3 v4 v5 v6, But l H H' → Li H' l (vec N (cf xs ys xs.length)) → D.nx [some (.ref a), some (.ref b), some (.ref l), v3, v4, v5, v6] H') :
    tRowsW K D [some (.ref a), some (.ref b), some (.ref l), u3, u4, u5, u6] H := by
  refine ⟨_, rfl, a, _, rfl, ha.sq, for_it walk_enum (fun i σ H' => ∃ v3 v4 v5 v6, σ = [some (.ref a), some (.ref b), some (.ref l), v3, v4, v5, v6] ∧ But l H H' ∧ Li H' l (vec N (rw_ xs ys i 0)))
    ⟨_, _, _, _, rfl, But.refl _ _, ?_⟩ (fun i σ H' _ ⟨_, _, _, _, _, q, _⟩ => SqL.of (q _ _ na ha)) ?_ ?_⟩
  · rw [vec_congr (g := fun _ => 0) fun i _ => by rw [rw_0]; rfl]
    exact hl
  · rintro i x σ H' H2 hi ⟨v3, v4, v5, v6, rfl, q, hL⟩ ⟨T, z, y, rfl, hT, rfl, hz, hy⟩
    obtain rfl := (Option.some.inj hz).symm
    obtain ⟨n, hn, rfl⟩ := iV_get hy
    rw [iV_len] at hi
    have nTl : T ≠ l := (ne_of_none hL hT).symm
    have q2 : But l H (upd H' T (.tup [.int (i : Nat), .int n])) := fun c o nc e => by
      rw [upd_ne (ne_of_none (q c o nc e) hT)]; exact q c o nc e
    refine ⟨T, _, rfl, SqT.of upd_same, rfl, _, _, rfl, _, _, rfl, rfl, ?_⟩
    have hL2 : Li (upd H' T (.tup [.int (i : Nat), .int n])) l (vec N (rw_ xs ys i 0)) := Eq.trans (upd_ne nTl.symm) hL
    refine ⟨_, rfl, b, _, rfl, SqL.of (q2 _ _ nb hb), for_it walk_enum (fun j σ H3 => ∃ v5 v6, σ = [some (.ref a), some (.ref b), some (.ref l), some (.int (i : Nat)), some (.int n), v5, v6] ∧ But l H H3 ∧ Li H3 l (vec N (rw_ xs ys i j)))
      ⟨_, _, rfl, q2, hL2⟩ (fun i σ H' _ ⟨_, _, _, q, _⟩ => SqL.of (q _ _ nb hb)) ?_ ?_⟩
    · rintro j x σ H3 H4 hj ⟨v5, v6, rfl, q3, hL3⟩ ⟨T2, z, y, rfl, hT2, rfl, hz, hy⟩
      obtain rfl := (Option.some.inj hz).symm
      obtain ⟨m, hm, rfl⟩ := iV_get hy
      rw [iV_len] at hj
      have nTl2 : T2 ≠ l := (ne_of_none hL3 hT2).symm
      refine ⟨T2, _, rfl, SqT.of upd_same, rfl, _, _, rfl, _, _, rfl, rfl, ?_⟩
      have hL4 : Li (upd H3 T2 (.tup [.int (j : Nat), .int m])) l (vec N (rw_ xs ys i j)) := Eq.trans (upd_ne nTl2.symm) hL3
      have hp : i + j < N := by omega
      have ep : ((i : Nat) : Int) + ((j : Nat) : Int) = ((i + j : Nat) : Int) := by omega
      refine ⟨_, rfl, _, rfl, _, rfl, _, _, rfl, rfl, l, _, _, .int (rw_ xs ys i j (i + j)), rfl, rfl, SqL.of hL4, ?_, _, rfl, _, rfl, n, m, rfl, rfl, hx n (List.mem_of_getElem? hn) m (List.mem_of_getElem? hm), _, _, rfl, rfl, ?_⟩
      · show atI _ (((i : Nat) : Int) + ((j : Nat) : Int)) = _
        rw [ep]
        exact atI_nat (iV_at (vec_get hp))
      refine ⟨_, rfl, _, rfl, _, rfl, _, _, rfl, rfl, l, _, _, i + j, rfl, rfl, hL4, ?_, ?_⟩
      · show ixN _ (((i : Nat) : Int) + ((j : Nat) : Int)) = _
        rw [ep]
        exact Evl.ixN_nat (by rw [iV_len, vec_len]; exact hp)
      refine ⟨_, _, rfl, fun c o nc e => ?_, ?_⟩
      · rw [upd_ne nc, upd_ne (ne_of_none (q3 c o nc e) hT2)]
        exact q3 c o nc e
      · unfold Li
        rw [upd_same]
        show some (HO.lst ((iV (vec N (rw_ xs ys i j))).set (i + j) (.int (rw_ xs ys i j (i + j) + n * m)))) = _
        rw [iV_set, vec_set (g := rw_ xs ys i (j + 1)) (by rw [rw_step, getD_at hn, getD_at hm]) fun p hp => rw_other hp]
    · rintro σ H3 ⟨v5, v6, rfl, q3, hL3⟩
      refine ⟨_, _, _, _, rfl, q3, ?_⟩
      rw [iV_len, vec_congr (g := rw_ xs ys (i + 1) 0) fun p _ => rw_end xs ys i p] at hL3
      exact hL3
  · rintro σ H' ⟨v3, v4, v5, v6, rfl, q, hL⟩
    rw [iV_len, vec_congr (g := cf xs ys xs.length) fun i _ => rw_0 _ _ _ _] at hL
    exact k H' v3 v4 v5 v6 q hL
/-- at most 16 numbers, of any size -/
def Pw (ns : List Int) : Prop := Pol ns ∧ ns.length ≤ 16
def spTwoW (C : Int → Int → Prop) (m : List Int → List Int → List Int) : Sp := fun vs H Q _ => ∃ (a b : Addr) (xs ys : List Int), vs = [.ref a, .ref b] ∧ Li H a xs ∧ Li H b ys ∧ Pw xs ∧ Pw ys ∧ (∀ x ∈ xs, ∀ y ∈ ys, C x y) ∧ Evl.RetL (iV (m xs ys)) H Q
/-- the constant n -/
def cp (n : Int) : List Int := if n = 0 then [] else [n]
theorem cp_0 : cp 0 = [] := rfl
theorem cp_n {n : Int} (h : n ≠ 0) : cp n = [n] := if_neg h
theorem cp_pw (n : Int) : Pw (cp n) := by
  unfold cp
  split
  · exact ⟨fun x h => (by cases h), Nat.zero_le _⟩
  · rename_i h
    refine ⟨fun x e => ?_, by show 1 ≤ 16; decide⟩
    cases e
    exact h
theorem cp_mem {n x : Int} (h : x ∈ cp n) : x = n := by
  unfold cp at h
  split at h
  · cases h
  · exact List.mem_singleton.mp h
theorem trm_1 (n : Int) : trm [n] = cp n := by
  by_cases h : n = 0
  · subst h
    decide
  · rw [cp_n h]
    exact trm_pol fun x e => by
      cases e
      exact h
theorem cp_add (x y : Int) : trm (padd (cp x) (cp y)) = cp (x + y) := by
  by_cases hx : x = 0
  · by_cases hy : y = 0
    · subst hx hy
      decide
    · have e : padd (cp x) (cp y) = [x + y] := by
        rw [hx, cp_0, cp_n hy]
        simp [padd, vec]
      rw [e, trm_1]
  · by_cases hy : y = 0
    · have e : padd (cp x) (cp y) = [x + y] := by
        rw [hy, cp_0, cp_n hx]
        simp [padd, vec]
      rw [e, trm_1]
    · have e : padd (cp x) (cp y) = [x + y] := by
        rw [cp_n hx, cp_n hy]
        simp [padd, vec]
      rw [e, trm_1]
theorem cp_mul (x y : Int) : trm (pmul (cp x) (cp y)) = cp (x * y) := by
  by_cases hx : x = 0
  · subst hx
    rw [Int.zero_mul, cp_0]
    exact nil_pmul _
  · by_cases hy : y = 0
    · subst hy
      rw [Int.mul_zero, cp_0]
      exact pmul_nil _
    · have e : pmul (cp x) (cp y) = [x * y] := by
        rw [cp_n hx, cp_n hy]
        simp [pmul, vec, cf]
      rw [e, trm_1]
section
variable {base : Heap} {mg : Str → Option Value} {K : PySem.W.Frag} {w : World} {P : Program}
theorem ok_multipliedW {f : Addr} {fd : FuncData} (F : Fun K "multiplied" "multiplied" s_multiplied f fd) (T : T2 mg) : FnOk P w K mg base CX0 1 f fd p_multiplied (spTwoW (fun x y => CMulW x y) fun xs ys => trm (pmul xs ys)) := by
  refine F.ok sc_multiplied (fun vs H Q E h => ?_) (fun cdv A outer s H vs Q E hr h => ?_)
  · obtain ⟨a, b, xs, ys, rfl, _⟩ := h
    rfl
  · obtain ⟨a, b, xs, ys, rfl, ha, hb, hx, hy, hxy, k⟩ := h
    have k : Evl.RetL (iV (trm (pmul xs ys))) H Q := k
    have nd := sc_multiplied.nd
    refine ⟨_, pss_cons (ps_if (PW.pt (pw_or (pt_not (pt_truth (pv 0) (by intro _; rfl))) (pw_or1 (pt_not (pt_truth (pv 1) (by intro _; rfl)))))) (pss_one (ps_ret (pe_lst pa_nil))) pss_nil)
      (pss_cons (ps_set (i := 2) nd rfl (Or.inl rfl) (pe_op op_rep (pe_lst (pa_cons pe_int pa_nil)) (pe_op op_sub (pe_op op_add (pe_callB call_len_seq (by rfl) T.len PySem.boot_len (pa_cons (pv 0) pa_nil)) (pe_callB call_len_seq (by rfl) T.len PySem.boot_len (pa_cons (pv 1) pa_nil))) pe_int)))
      (pss_cons (ps_for PassesOwn.never rfl (pi_enum (by rfl) T.enu (pa_cons (pv 0) pa_nil)) (pg_tup rfl (pgs_cons (pg_name (i := 3) nd rfl (Or.inl rfl)) (pgs_cons (pg_name (i := 4) nd rfl (Or.inl rfl)) pgs_nil)))
        (pss_one (ps_for PassesOwn.never rfl (pi_enum (by rfl) T.enu (pa_cons (pv 1) pa_nil)) (pg_tup rfl (pgs_cons (pg_name (i := 5) nd rfl (Or.inl rfl)) (pgs_cons (pg_name (i := 6) nd rfl (Or.inl rfl)) pgs_nil)))
          (pss_one (ps_asg (pe_op op_add (pe_ix ix_list (pv 2) (pe_op op_add (pv 3) (pv 5)) (fun _ _ => rfl)) (pe_op op_mulW (pv 4) (pv 6))) (pg_sub (pv 2) (pe_op op_add (pv 3) (pv 5)) set_list))))))
      (pss_one (ps_ret (pv 2))))), ?_⟩
    have none_ : xs = [] ∨ ys = [] → trm (pmul xs ys) = [] := by
      rintro (e | e)
      · rw [e]; exact nil_pmul ys
      · rw [e]; exact pmul_nil xs
    refine ⟨_, rfl, _, tru_list ha, ?_⟩
    by_cases ex : xs = []
    · refine if_t (by rw [ex]; rfl) ?_
      refine ite2 (fun _ => ?_) (fun z => absurd rfl z)
      refine ⟨Nat.zero_le _, fun p hp => k p _ hp (Evl.Ex.new hp) ?_⟩
      rw [upd_same, none_ (.inl ex)]; rfl
    refine if_f (by cases xs with | nil => exact absurd rfl ex | cons _ _ => rfl) ⟨_, rfl, _, tru_list hb, ?_⟩
    by_cases ey : ys = []
    · refine if_t (by rw [ey]; rfl) ?_
      refine ⟨Nat.zero_le _, fun p hp => k p _ hp (Evl.Ex.new hp) ?_⟩
      rw [upd_same, none_ (.inr ey)]; rfl
    refine if_f (by cases ys with | nil => exact absurd rfl ey | cons _ _ => rfl) ?_
    have lx : 0 < xs.length := List.length_pos_iff.mpr ex
    have ly : 0 < ys.length := List.length_pos_iff.mpr ey
    obtain ⟨px, hx2⟩ := hx
    obtain ⟨py, hy2⟩ := hy
    refine ⟨(by show 1 ≤ sizeLine; decide), fun p hp => ?_⟩
    have ha1 : Li (upd H p (.lst [.int 0])) a xs := Eq.trans (upd_ne (ne_of_none ha hp)) ha
    have hb1 : Li (upd H p (.lst [.int 0])) b ys := Eq.trans (upd_ne (ne_of_none hb hp)) hb
    refine ⟨_, rfl, a, _, rfl, .inl ha1.sq, _, rfl, b, _, rfl, .inl hb1.sq, _, _, rfl, rfl, _, _, rfl, rfl, p, _, _, rfl, rfl, upd_same, by rw [iV_len, iV_len]; omega, by rw [iV_len, iV_len]; omega, ?_, fun l hl => ?_⟩
    · rw [iV_len, iV_len]
      show 1 * _ ≤ sizeLine
      refine Nat.le_trans ?_ (show 100 ≤ sizeLine by decide)
      omega
    have eN : (((iV xs).length : Int) + ((iV ys).length : Int) - 1).toNat = xs.length + ys.length - 1 := by rw [iV_len, iV_len]; omega
    refine rowsW_read (K := K) (N := xs.length + ys.length - 1) (Eq.trans (upd_ne (ne_of_none ha1 hl)) ha1) (Eq.trans (upd_ne (ne_of_none hb1 hl)) hb1) ?_ (ne_of_none ha1 hl) (ne_of_none hb1 hl) (by omega) hxy fun H' v3 v4 v5 v6 q hL => ?_
    · unfold Li
      rw [upd_same]
      show some (HO.lst (List.replicate (((iV xs).length : Int) + ((iV ys).length : Int) - 1).toNat [V.int 0]).flatten) = _
      rw [eN, rep_flat, vec_zero, iV_rep]
    · refine ⟨_, rfl, k l H' (Evl.fresh_back (Evl.Ex.new hp) hl) (fun c o e => ?_) ?_⟩
      · have e1 : upd H p (.lst [.int 0]) c = some o := Eq.trans (upd_ne (ne_of_none e hp)) e
        exact q c o (ne_of_none e1 hl) (Eq.trans (upd_ne (ne_of_none e1 hl)) e1)
      · rw [trm_pol (pol_pmul px py ex ey)]
        exact hL
theorem ok_addedW {f : Addr} {fd : FuncData} (F : Fun K "added" "added" s_added f fd) (T : T2 mg) (cT : Cal P w K mg base 1 "cut" p_cut (spTrim K)) : FnOk P w K mg base CX0 2 f fd p_added (spTwoW (fun _ _ => True) fun xs ys => trm (padd xs ys)) := by
  refine F.ok sc_added (fun vs H Q E h => ?_) (fun cdv A outer s H vs Q E hr h => ?_)
  · obtain ⟨a, b, xs, ys, rfl, _⟩ := h
    rfl
  · obtain ⟨a, b, xs, ys, rfl, ha, hb, hx, hy, _, k⟩ := h
    have k : Evl.RetL (iV (trm (padd xs ys))) H Q := k
    have nd := sc_added.nd
    refine ⟨_, pss_cons (ps_set (i := 2) nd rfl (Or.inl rfl) (pe_callB (call_max2 rfl) (by rfl) T.max (by decide +kernel) (pa_cons (pe_callB call_len_seq (by rfl) T.len PySem.boot_len (pa_cons (pv 0) pa_nil)) (pa_cons (pe_callB call_len_seq (by rfl) T.len PySem.boot_len (pa_cons (pv 1) pa_nil)) pa_nil))))
      (pss_cons (ps_asg (pe_tup (pa_cons (pe_op op_cat (pv 0) (pe_op op_rep (pe_lst (pa_cons pe_int pa_nil)) (pe_op op_sub (pv 2) (pe_callB call_len_seq (by rfl) T.len PySem.boot_len (pa_cons (pv 0) pa_nil)))))
          (pa_cons (pe_op op_cat (pv 1) (pe_op op_rep (pe_lst (pa_cons pe_int pa_nil)) (pe_op op_sub (pv 2) (pe_callB call_len_seq (by rfl) T.len PySem.boot_len (pa_cons (pv 1) pa_nil))))) pa_nil))) (pg_tup rfl (pgs_cons (pg_name (i := 3) nd rfl (Or.inr rfl)) (pgs_cons (pg_name (i := 4) nd rfl (Or.inr rfl)) pgs_nil))))
      (pss_one (ps_ret (pe_c cT hr (pa_cons (pe_lc (own := [("k", 5)]) (g := gName 5) (tt := tYes) (te := tOp (rI0 fun i j => .int (i + j)) (tOp (rIxL K) (tVar 3) (tVar 5)) (tOp (rIxL K) (tVar 4) (tVar 5))) rfl nd (pi_range1 (by rfl) T.rng (pa_cons (pv 2) pa_nil)) (blkOk_by (N := n_added) (sc := defScope s_added) (by decide +kernel)) (fun _ _ _ _ _ => pg_name (i := 5) nd rfl (Or.inl rfl)) (fun _ _ _ _ _ => pts_nil)
        (fun _ _ _ _ _ => pe_op op_add (pe_ix ix_list (pv 3) (pv 5) (fun _ _ => rfl)) (pe_ix ix_list (pv 4) (pv 5) (fun _ _ => rfl)))) pa_nil))))), ?_⟩
    obtain ⟨px, hx2⟩ := hx
    obtain ⟨py, hy2⟩ := hy
    generalize hn : max xs.length ys.length = n
    have em : (if ((iV ys).length : Int) > ((iV xs).length : Int) then ((iV ys).length : Int) else ((iV xs).length : Int)) = (n : Int) := by
      rw [iV_len, iV_len]; exact gt_len _ _ _ hn.symm
    refine ⟨_, rfl, a, _, rfl, .inl ha.sq, _, rfl, b, _, rfl, .inl hb.sq, _, _, rfl, ?_⟩
    rw [em]
    refine el_pad (K := K) (n := n) (xs := xs) (a := a) rfl rfl ha (by omega) (by omega) H (Evl.Ex.refl _) _ fun p H1 hp e1 h1 => ?_
    refine el_pad (K := K) (n := n) (xs := ys) (a := b) rfl rfl (e1 _ _ hb) (by omega) (by omega) H1 (Evl.Ex.refl _) _ fun q H2 hq e2 h2 => ?_
    refine ⟨(by show 2 ≤ sizeLine; decide), fun t ht => ?_⟩
    have e3 : Evl.Ex H2 (upd H2 t (.tup [.ref p, .ref q])) := Evl.Ex.new ht
    refine ⟨t, _, rfl, SqT.of upd_same, rfl, _, _, rfl, _, _, rfl, rfl, ?_⟩
    have hG := el_sums (K := K) (σ := [some (.ref a), some (.ref b), some (.int (n : Int)), some (.ref p), some (.ref q), none]) (jn := 2) (jk := 5) (im := 3) (iy := 4) (n := n) (xs := xs) (ys := ys) (a := p) (b := q) rfl (e3 _ _ (e2 _ _ h1)) (e3 _ _ h2) (by omega) (by omega) (by omega) (by intro _; rfl) (by intro _; rfl) (by intro _; rfl) (by intro _; rfl) _ (Evl.Ex.refl _) (fun x H1 => spTrim K [x] H1 Q E0) (fun r H4 hr4 e4 h4 => by
      refine ⟨r, _, rfl, SqL.of h4, by rw [vec_len]; omega, fun z H5 hz e5 h5 => ?_⟩
      have e05 := ((e1.trans e2).trans e3).trans e4
      refine k z H5 (Evl.fresh_back e05 hz) (e05.trans e5) ?_
      rw [h5, ← hn]
      rfl)
    exact hG
end
end V2


namespace V2
open PySem L2
open PySem.Spec PyProof.Rows
theorem pe_never {X : Cx} {e : Expr} : PE X e (fun _ _ _ => False) := ⟨fun _ _ _ _ _ _ h => h.elim⟩
theorem cont_1 (b : Int) : cont [b] = b.natAbs := by
  simp [cont]
theorem prim_1 {b : Int} (h : 0 < b) : prim [b] = [1] := by
  unfold prim
  rw [cont_1]
  have e : ((b.natAbs : Nat) : Int) = b := by omega
  rw [List.map_cons, List.map_nil, e, Int.ediv_self (by omega)]
theorem prim_nil : prim [] = [] := rfl
def B26 (n : Int) : Prop := n.natAbs < 2 ^ 2600
/-- the way up of a constant above 0 -/
def spUp1 : Sp := fun vs H Q _ => ∃ (a : Addr) (b : Int), vs = [.ref a] ∧ Li H a [b] ∧ 0 < b ∧ B26 b ∧ Evl.RetL (iV [1]) H Q
def spCf1 : Sp := fun vs H Q _ => ∃ (a b : Addr) (t m : Int), vs = [.ref a, .ref b] ∧ Li H a [t] ∧ Li H b [m] ∧ t ≠ 0 ∧ 0 < m ∧ B26 t ∧ B26 m ∧ Evl.RetL (iV [1]) H Q
def spQ1 : Sp := fun vs H Q _ => ∃ (a b : Addr) (t : Int), vs = [.ref a, .ref b] ∧ Li H a [t] ∧ Li H b [1] ∧ B26 t ∧ Evl.RetL (iV [t]) H Q
section
variable {base : Heap} {mg : Str → Option Value} {K : PySem.W.Frag} {w : World} {P : Program}
theorem ok_upright1 {f : Addr} {fd : FuncData} (F : Fun K "upright" "upright" s_upright f fd) (cP : Cal P w K mg base 2 "primitive" p_primitive spPrim) : FnOk P w K mg base CX0 3 f fd p_upright spUp1 := by
  refine F.ok sc_upright (fun vs H Q E h => ?_) (fun cdv A outer s H vs Q E hr h => ?_)
  · obtain ⟨a, b, rfl, _⟩ := h
    rfl
  · obtain ⟨a, b, rfl, ha, hb, hB, k⟩ := h
    have nd := sc_upright.nd
    refine ⟨_, pss_cons (ps_set (i := 1) nd rfl (Or.inl rfl) (pe_c cP hr (pa_cons (pv 0) pa_nil)))
      (pss_one (ps_ret (pe_ifExp (PW.pt (pw_and (pt_truth (pv 1) (by intro _; rfl)) (pw_and1 (pt_cmpR op_lt (pe_ix ix_list (pv 1) (pe_un un_neg pe_int) (fun _ _ => rfl)) pe_int (nomark _))))) pe_never (pv 1)))), ?_⟩
    refine ⟨_, rfl, a, [b], rfl, ha, by show 1 ≤ 100; decide, ?_, ?_, fun l H1 hl e1 h1 => ?_⟩
    · intro x hx
      obtain rfl := List.mem_singleton.mp hx
      exact Nat.lt_of_lt_of_le hB (Nat.pow_le_pow_right (by decide) (by decide))
    · intro x e
      cases e
      omega
    · rw [prim_1 hb] at h1
      refine ⟨_, rfl, _, tru_list (ns := [1]) h1, if_t rfl ?_⟩
      refine ⟨_, rfl, _, rfl, l, _, _, _, rfl, rfl, SqL.of h1, rfl, _, _, rfl, rfl, _, rfl, if_f (by decide) ?_⟩
      exact ⟨_, rfl, k l H1 hl e1 h1⟩
theorem ok_common1 {f : Addr} {fd : FuncData} (F : Fun K "common_factor" "common_factor" s_common_factor f fd) (cR : Cal P w K mg base 3 "remainder" p_remainder spRemW) (cU : Cal P w K mg base 3 "upright" p_upright spUp1) : FnOk P w K mg base CX0 4 f fd p_common_factor spCf1 := by
  refine F.ok sc_common_factor (fun vs H Q E h => ?_) (fun cdv A outer s H vs Q E hr h => ?_)
  · obtain ⟨a, b, t, m, rfl, _⟩ := h
    rfl
  · obtain ⟨a, b, t, m, rfl, ha, hb, ht, hm, hT, hM, k⟩ := h
    have nd := sc_common_factor.nd
    refine ⟨_, pss_cons (ps_par (i := 2) (j := 3) rfl nd rfl rfl (by decide) rfl rfl (pa_cons (pv 0) (pa_cons (pv 1) pa_nil)) (by rfl))
      (pss_cons (ps_while PassesOwn.never (pt_truth (pv 3) (by intro _; rfl)) (pss_one (ps_par (i := 2) (j := 3) rfl nd rfl rfl (by decide) rfl rfl (pa_cons (pv 3) (pa_cons (pe_c cR hr (pa_cons (pv 2) (pa_cons (pv 3) pa_nil))) pa_nil)) (by rfl))))
      (pss_one (ps_ret (pe_c cU hr (pa_cons (pv 2) pa_nil))))), ?_⟩
    refine ⟨_, rfl, _, rfl, _, _, rfl, ?_⟩
    refine ⟨fun n σ H' => Evl.Ex H H' ∧ ((n = 1 ∧ σ = [some (.ref a), some (.ref b), some (.ref a), some (.ref b)]) ∨ ∃ r, n = 0 ∧ Li H' r [] ∧ σ = [some (.ref a), some (.ref b), some (.ref b), some (.ref r)]), ⟨1, Evl.Ex.refl _, .inl ⟨rfl, rfl⟩⟩, ?_⟩
    rintro n σ H1 ⟨e1, ⟨rfl, rfl⟩ | ⟨r, rfl, hr0, rfl⟩⟩
    · refine ⟨_, rfl, _, tru_list (e1 _ _ hb), if_t rfl ?_⟩
      refine ⟨fun σ H' => ∃ r, Li H' r [] ∧ Evl.Ex H H' ∧ σ = [some (.ref a), some (.ref b), some (.ref b), some (.ref r)], fun σ H' ⟨r, h1, h2, h3⟩ => ⟨0, by decide, h2, .inr ⟨r, rfl, h1, h3⟩⟩, ?_⟩
      have bs : ∀ {x : Int}, B26 x → Bs 2600 [x] := fun h z hz => by
        obtain rfl := List.mem_singleton.mp hz
        exact h
      have p1 : ∀ {x : Int}, x ≠ 0 → Pol [x] := fun h z e => by
        cases e
        exact h
      refine ⟨_, rfl, _, rfl, _, rfl, a, b, [t], [m], 2600, 2600, rfl, e1 _ _ ha, e1 _ _ hb, p1 ht, p1 (by omega), by show 1 ≤ 8; decide, by show 1 ≤ 8; decide, bs hT, bs hM, by simp, by show 2600 + (1 + 1 - 1) * (2 * 2600 + 1) ≤ 8000; decide, by decide, fun L hL r H2 hr2 e2 h2 => ?_⟩
      have hL0 : L = [] := List.length_eq_zero_iff.mp (Nat.lt_one_iff.mp hL.2.1)
      subst hL0
      exact ⟨_, _, rfl, r, h2, e1.trans e2, rfl⟩
    · refine ⟨_, rfl, _, tru_list hr0, if_f rfl ?_⟩
      exact ⟨_, rfl, b, m, rfl, e1 _ _ hb, hm, hM, fun l H2 hl e2 h2 => k l H2 (Evl.fresh_back e1 hl) (e1.trans e2) h2⟩
theorem ok_quotient1 {f : Addr} {fd : FuncData} (F : Fun K "quotient" "quotient" s_quotient f fd) (T : T2 mg) (mL : mg "list" = none) : FnOk P w K mg base CX0 1 f fd p_quotient spQ1 := by
  refine F.ok sc_quotient (fun vs H Q E h => ?_) (fun cdv A outer s H vs Q E hr h => ?_)
  · obtain ⟨a, b, t, rfl, _⟩ := h
    rfl
  · obtain ⟨a, b, t, rfl, ha, hb, hT, k⟩ := h
    have nd := sc_quotient.nd
    refine ⟨_, pss_cons (ps_set (i := 2) nd rfl (Or.inl rfl) (pe_callTy call_list_of (by rfl) mL (by decide +kernel) (pa_cons (pv 0) pa_nil)))
      (pss_cons (ps_set (i := 3) nd rfl (Or.inl rfl) (pe_op op_add (pe_op op_sub (pe_callB call_len_seq (by rfl) T.len PySem.boot_len (pa_cons (pv 0) pa_nil)) (pe_callB call_len_seq (by rfl) T.len PySem.boot_len (pa_cons (pv 1) pa_nil))) pe_int))
      (pss_cons (ps_set (i := 4) nd rfl (Or.inl rfl) (pe_op op_rep (pe_lst (pa_cons pe_int pa_nil)) (pv 3)))
      (pss_cons (ps_for PassesOwn.never rfl (pi_range3 (by rfl) T.rng (pa_cons (pe_op op_sub (pv 3) pe_int) (pa_cons (pe_un un_neg pe_int) (pa_cons (pe_un un_neg pe_int) pa_nil)))) (pg_name (i := 5) nd rfl (Or.inl rfl))
        (pss_cons (ps_asg (pe_op op_fdivW (pe_ix ix_list (pv 2) (pe_op op_sub (pe_op op_add (pv 5) (pe_callB call_len_seq (by rfl) T.len PySem.boot_len (pa_cons (pv 1) pa_nil))) pe_int) (fun _ _ => rfl)) (pe_ix ix_list (pv 1) (pe_un un_neg pe_int) (fun _ _ => rfl))) (pg_sub (pv 4) (pv 5) set_list))
        (pss_one (ps_for PassesOwn.never rfl (pi_enum (by rfl) T.enu (pa_cons (pv 1) pa_nil)) (pg_tup rfl (pgs_cons (pg_name (i := 6) nd rfl (Or.inl rfl)) (pgs_cons (pg_name (i := 7) nd rfl (Or.inl rfl)) pgs_nil)))
          (pss_one (ps_asg (pe_op op_sub (pe_ix ix_list (pv 2) (pe_op op_add (pv 5) (pv 6)) (fun _ _ => rfl)) (pe_op op_mulW (pe_ix ix_list (pv 4) (pv 5) (fun _ _ => rfl)) (pv 7))) (pg_sub (pv 2) (pe_op op_add (pv 5) (pv 6)) set_list)))))))
      (pss_one (ps_ret (pv 4)))))), ?_⟩
    have one : 1 ≤ sizeLine := by show 1 ≤ sizeLine; decide
    refine ⟨_, rfl, a, _, rfl, .inl ha.sq, fun l hl => ?_⟩
    have e1 := Evl.Ex.new (o := .lst (iV [t])) hl
    have u1 : Li (upd H l (.lst (iV [t]))) l [t] := upd_same
    generalize upd H l (.lst (iV [t])) = H1 at e1 u1
    refine ⟨_, rfl, a, _, rfl, .inl (SqL.of (e1 _ _ ha)), _, rfl, b, _, rfl, .inl (SqL.of (e1 _ _ hb)), _, _, rfl, rfl, _, _, rfl, rfl, ?_⟩
    have em : ((iV [t]).length : Int) - ((iV [1]).length : Int) + 1 = 1 := rfl
    dsimp only
    rw [em]
    refine ⟨one, fun p hp => ⟨_, rfl, p, _, _, rfl, rfl, upd_same, by decide, by decide, by decide, fun q hq => ?_⟩⟩
    have e2 := (Evl.Ex.new (o := .lst [.int 0]) hp).trans (Evl.Ex.new (o := .lst [.int 0]) hq)
    have hq1 : H1 q = none := Evl.fresh_back (Evl.Ex.new hp) hq
    have u2 : Li (upd (upd H1 p (.lst [.int 0])) q (.lst [.int 0])) q [0] := upd_same
    have nlq : l ≠ q := ne_of_none u1 hq1
    replace u1 := e2 _ _ u1
    have e3 := e1.trans e2
    have e12 : Evl.Ex H (upd H1 p (.lst [.int 0])) := e1.trans (Evl.Ex.new hp)
    have fq : H q = none := Evl.fresh_back e12 hq
    generalize hG : upd (upd H1 p (.lst [.int 0])) q (.lst [.int 0]) = H2 at e3 u1 u2
    have hG' : upd (upd H1 p (.lst [.int 0])) q (.lst (List.replicate (1 : Int).toNat [V.int 0]).flatten) = H2 := hG
    rw [hG']
    refine ⟨_, rfl, _, _, rfl, rfl, _, rfl, _, rfl, 0, -1, -1, 1, rfl, ⟨by decide, by decide, by decide, by decide⟩, for_rangeC (n := 1) (fun i σ H' => ∃ v5 v6 v7, σ = [some (.ref a), some (.ref b), some (.ref l), some (.int 1), some (.ref q), v5, v6, v7] ∧ (∀ c o, c ≠ l → c ≠ q → H2 c = some o → H' c = some o) ∧ Li H' l [if i = 0 then t else 0] ∧ Li H' q [if i = 0 then 0 else t]) ⟨_, _, _, rfl, fun _ _ _ _ h => h, u1, u2⟩ ?_ ?_⟩
    · rintro i σ H3 hi ⟨v5, v6, v7, rfl, k3, u3, q3⟩
      obtain rfl : i = 0 := by omega
      have bl : b ≠ l := ne_of_none (show H b = some _ from hb) hl
      have bq : b ≠ q := ne_of_none (show H b = some _ from hb) fq
      have hb3 : Li H3 b [1] := k3 _ _ bl bq (e3 _ _ hb)
      refine ⟨_, rfl, _, rfl, _, rfl, b, _, rfl, .inl (SqL.of hb3), _, _, rfl, rfl, _, _, rfl, rfl, l, _, _, _, rfl, rfl, SqL.of u3, rfl, _, rfl, _, rfl, b, _, _, _, rfl, rfl, SqL.of hb3, rfl, _, _, rfl, rfl, wide_div (b := 1) (by decide) (by decide) (by decide) (by decide), ?_⟩
      refine ⟨_, rfl, _, rfl, q, _, _, 0, rfl, rfl, q3, by rfl, ?_⟩
      have hb4 : Li (upd H3 q (.lst ((iV [if 0 = 0 then 0 else t]).set 0 (.int ((if 0 = 0 then t else 0) / 1))))) b [1] := Eq.trans (upd_ne bq) hb3
      have l4 : Li (upd H3 q (.lst ((iV [if 0 = 0 then 0 else t]).set 0 (.int ((if 0 = 0 then t else 0) / 1))))) l [t] := Eq.trans (upd_ne nlq) u3
      have q4 : Li (upd H3 q (.lst ((iV [if 0 = 0 then 0 else t]).set 0 (.int ((if 0 = 0 then t else 0) / 1))))) q [t] := by
        unfold Li
        rw [upd_same]
        show some (HO.lst [V.int (t / 1)]) = some (HO.lst [V.int t])
        rw [Int.ediv_one]
      have k4 : ∀ c o, c ≠ l → c ≠ q → H2 c = some o → upd H3 q (.lst ((iV [if 0 = 0 then 0 else t]).set 0 (.int ((if 0 = 0 then t else 0) / 1)))) c = some o := fun c o cl cq h => by
        rw [upd_ne cq]
        exact k3 c o cl cq h
      generalize upd H3 q (.lst ((iV [if 0 = 0 then 0 else t]).set 0 (.int ((if 0 = 0 then t else 0) / 1)))) = H4 at hb4 l4 q4 k4
      refine ⟨_, rfl, b, _, rfl, SqL.of hb4, for_it walk_enum (fun j σ H5 => ∃ v6 v7, σ = [some (.ref a), some (.ref b), some (.ref l), some (.int 1), some (.ref q), some (.int (0 + ((0 : Nat) : Int) * -1)), v6, v7] ∧ (∀ c o, c ≠ l → c ≠ q → H2 c = some o → H5 c = some o) ∧ Li H5 l [if j = 0 then t else 0] ∧ Li H5 q [t])
        ⟨_, _, rfl, k4, l4, q4⟩ (fun j σ H5 _ ⟨_, _, _, kk, _⟩ => SqL.of (kk _ _ bl bq (e3 _ _ hb))) ?_ ?_⟩
      · rintro j x σ H5 H6 hj ⟨v6, v7, rfl, k5, l5, q5⟩ ⟨T2, z, y, rfl, hT2, rfl, hz, hy⟩
        obtain rfl : j = 0 := by
          have : j < 1 := hj
          omega
        obtain rfl := (Option.some.inj hz).symm
        obtain rfl : y = .int 1 := (Option.some.inj hy).symm
        have nT2l : T2 ≠ l := (ne_of_none l5 hT2).symm
        have nT2q : T2 ≠ q := (ne_of_none q5 hT2).symm
        refine ⟨T2, _, rfl, SqT.of upd_same, rfl, _, _, rfl, _, _, rfl, rfl, ?_⟩
        have l6 : Li (upd H5 T2 (.tup [.int ((0 : Nat) : Int), .int 1])) l [t] := Eq.trans (upd_ne nT2l.symm) l5
        have q6 : Li (upd H5 T2 (.tup [.int ((0 : Nat) : Int), .int 1])) q [t] := Eq.trans (upd_ne nT2q.symm) q5
        refine ⟨_, rfl, _, rfl, _, rfl, _, _, rfl, rfl, l, _, _, _, rfl, rfl, SqL.of l6, rfl, _, rfl, _, rfl, q, _, _, _, rfl, rfl, SqL.of q6, rfl, _, rfl, _, _, rfl, rfl, ?_, _, _, rfl, rfl, ?_⟩
        · exact wide_mul (a := 2600) (b := 1) hT (by decide) (by decide) (by decide) (by decide)
        refine ⟨_, rfl, _, rfl, _, rfl, _, _, rfl, rfl, l, _, _, 0, rfl, rfl, l6, by rfl, ?_⟩
        refine ⟨_, _, rfl, fun c o cl cq h => ?_, ?_, ?_⟩
        · rw [upd_ne cl, upd_ne (ne_of_none (k5 c o cl cq h) hT2)]
          exact k5 c o cl cq h
        · unfold Li
          rw [upd_same]
          show some (HO.lst [V.int (t - t * 1)]) = some (HO.lst [V.int 0])
          rw [Int.mul_one, Int.sub_self]
        · exact Eq.trans (upd_ne nlq.symm) q6
      · rintro σ H5 ⟨v6, v7, rfl, k5, l5, q5⟩
        exact ⟨_, _, _, rfl, k5, l5, q5⟩
    · rintro σ H3 ⟨v5, v6, v7, rfl, k3, u3, q3⟩
      refine ⟨_, rfl, k q H3 fq (fun c o h => k3 c o (ne_of_none h hl) (ne_of_none h fq) (e3 _ _ h)) q3⟩
/-- top by bottom, constants: the tuple of two lists -/
def spRed1 : Sp := fun vs H Q _ => ∃ (a b : Addr) (t m : Int), vs = [.ref a, .ref b] ∧ Li H a (cp t) ∧ Li H b [m] ∧ 0 < m ∧ B26 t ∧ B26 m ∧
  ∀ (q x y : Addr) (H' : Hp), H x = none → H y = none → Evl.Ex H H' → H' q = some (.tup [.ref x, .ref y]) → Li H' x (cp (fr t m).1) → Li H' y [(fr t m).2] → Q (.ref q) H'
theorem B26.g {t m : Int} (hm : 0 < m) (h : B26 m) : 0 < ((Int.gcd t m : Nat) : Int) ∧ B26 ((Int.gcd t m : Nat) : Int) := by
  have h0 : 0 < Int.gcd t m := Int.gcd_pos_of_ne_zero_right _ (by omega)
  refine ⟨by omega, ?_⟩
  unfold B26
  rw [Int.natAbs_natCast]
  refine Nat.lt_of_le_of_lt (Nat.le_of_dvd (by omega) ?_) h
  exact Int.natAbs_dvd_natAbs.mpr (Int.gcd_dvd_right _ _) |> (by simpa using ·)
theorem ok_reduced1 {f : Addr} {fd : FuncData} (F : Fun K "reduced" "reduced" s_reduced f fd) (mG : mg "gcd" = some (.builtin "math.gcd")) (cF : Cal P w K mg base 4 "common_factor" p_common_factor spCf1) (cQ : Cal P w K mg base 1 "quotient" p_quotient spQ1) (cC : Cal P w K mg base 1 "content" p_content (spCont K)) : FnOk P w K mg base CX0 5 f fd p_reduced spRed1 := by
  refine F.ok sc_reduced (fun vs H Q E h => ?_) (fun cdv A outer s H vs Q E hr h => ?_)
  · obtain ⟨a, b, t, m, rfl, _⟩ := h
    rfl
  · obtain ⟨a, b, t, m, rfl, ha, hb, hm, hT, hM, k⟩ := h
    have nd := sc_reduced.nd
    have r1 : Room 1 _ := hr.mono (by decide)
    have two : 2 ≤ sizeLine := by show 2 ≤ sizeLine; decide
    refine ⟨_, pss_cons (ps_if (pt_not (pt_truth (pv 0) (by intro _; rfl))) (pss_one (ps_ret (pe_tup (pa_cons (pe_lst pa_nil) (pa_cons (pe_lst (pa_cons pe_int pa_nil)) pa_nil))))) pss_nil)
      (pss_cons (ps_set (i := 2) nd rfl (Or.inl rfl) (pe_c cF hr (pa_cons (pv 0) (pa_cons (pv 1) pa_nil))))
      (pss_cons (ps_par (i := 3) (j := 4) rfl nd rfl rfl (by decide) rfl rfl (pa_cons (pe_c cQ r1 (pa_cons (pv 0) (pa_cons (pv 2) pa_nil))) (pa_cons (pe_c cQ r1 (pa_cons (pv 1) (pa_cons (pv 2) pa_nil))) pa_nil)) (by rfl))
      (pss_cons (ps_set (i := 5) nd rfl (Or.inr rfl) (pe_callBfun cr_gcd (by rfl) mG (pa_cons (pe_c cC r1 (pa_cons (pv 3) pa_nil)) (pa_cons (pe_c cC r1 (pa_cons (pv 4) pa_nil)) pa_nil))))
      (pss_one (ps_ret (pe_tup (pa_cons (pe_lc (own := [("part", 6)]) (g := gName 6) (tt := tYes) (te := tOp (rI CDivW fun i j => .int (i / j)) (tVar 6) (tVar 5)) rfl nd (pi_list (pv 3)) (blkOk_by (N := n_reduced) (sc := defScope s_reduced) (by decide +kernel)) (fun _ _ _ _ _ => pg_name (i := 6) nd rfl (Or.inl rfl)) (fun _ _ _ _ _ => pts_nil) (fun _ _ _ _ _ => pe_op op_fdivW (pv 6) (pv 5)))
        (pa_cons (pe_lc (own := [("part", 6)]) (g := gName 6) (tt := tYes) (te := tOp (rI CDivW fun i j => .int (i / j)) (tVar 6) (tVar 5)) rfl nd (pi_list (pv 4)) (blkOk_by (N := n_reduced) (sc := defScope s_reduced) (by decide +kernel)) (fun _ _ _ _ _ => pg_name (i := 6) nd rfl (Or.inl rfl)) (fun _ _ _ _ _ => pts_nil) (fun _ _ _ _ _ => pe_op op_fdivW (pv 6) (pv 5))) pa_nil)))))))), ?_⟩
    refine ⟨_, rfl, _, tru_list ha, ?_⟩
    by_cases h0 : t = 0
    · subst h0
      refine if_t rfl ⟨Nat.zero_le _, fun x hx => ⟨by show 1 ≤ sizeLine; decide, fun y hy => ⟨two, fun q hq => ?_⟩⟩⟩
      have e1 := Evl.Ex.new (o := .lst []) hx
      have e2 := Evl.Ex.new (o := .lst [.int 1]) hy
      have e3 := Evl.Ex.new (o := .tup [.ref x, .ref y]) hq
      have f0 : fr 0 m = (0, 1) := by
        have := fr_eq (a := 0) (b := m) (c := 0) (d := 1) hm (by decide) (by omega)
        rw [this]
        exact fr_same (by decide) (by decide)
      refine k q x y _ hx (Evl.fresh_back e1 hy) ((e1.trans e2).trans e3) upd_same ?_ ?_
      · rw [f0]
        exact e3 _ _ (e2 _ _ upd_same)
      · rw [f0]
        exact e3 _ _ upd_same
    · rw [cp_n h0] at ha
      obtain ⟨g0, gB⟩ := B26.g (t := t) hm hM
      refine if_f (by rw [cp_n h0]; rfl) ?_
      refine ⟨_, rfl, _, rfl, a, b, t, m, rfl, ha, hb, h0, hm, hT, hM, fun F1 H1 hF1 e1 h1 => ?_⟩
      refine ⟨_, rfl, _, rfl, a, F1, t, rfl, e1 _ _ ha, h1, hT, fun x H2 hx e2 h2 => ?_⟩
      refine ⟨_, rfl, _, rfl, b, F1, m, rfl, e2 _ _ (e1 _ _ hb), e2 _ _ h1, hM, fun y H3 hy e3 h3 => ⟨_, _, rfl, ?_⟩⟩
      refine ⟨_, rfl, x, [t], rfl, e3 _ _ h2, fun H4 e4 => ?_⟩
      refine ⟨_, rfl, y, [m], rfl, e4 _ _ h3, fun H5 e5 => ⟨_, _, rfl, ?_⟩⟩
      rw [cont_1, cont_1]
      have eg : ((Nat.gcd ((t.natAbs : Nat) : Int).natAbs ((m.natAbs : Nat) : Int).natAbs : Nat) : Int) = ((Int.gcd t m : Nat) : Int) := by
        rw [Int.natAbs_natCast, Int.natAbs_natCast]
        rfl
      dsimp only
      rw [eg]
      generalize hge : ((Int.gcd t m : Nat) : Int) = g at g0 gB
      have x5 : Li H5 x [t] := e5 _ _ (e4 _ _ (e3 _ _ h2))
      have y5 : Li H5 y [m] := e5 _ _ (e4 _ _ h3)
      have e05 := ((((e1.trans e2).trans e3).trans e4).trans e5)
      refine ⟨_, rfl, x, rfl, ⟨_, SqL.of x5⟩, fun D hD => lc_list (xs := iV [t]) (fun i H' => Evl.Ex H5 H' ∧ H' D = some (.lst (iV (if i = 0 then [] else [t / g])))) ⟨Evl.Ex.new hD, upd_same⟩ (fun i H' _ q => SqL.of (q.1 _ _ x5)) ?_ ?_⟩
      · rintro i v H6 hi ⟨e6, h6⟩
        have i0 : i = 0 := by
          have : i < 1 := (List.getElem?_eq_some_iff.mp hi).1
          omega
        subst i0
        obtain rfl : v = .int t := (Option.some.inj hi).symm
        refine ⟨rfl, ?_⟩
        show tOp (rI CDivW fun i j => .int (i / j)) (tVar 6) (tVar 5) _ _ _
        exact ⟨_, rfl, _, rfl, _, _, rfl, rfl, wide_div (b := 2600) g0 gB (by decide) (by decide), _, h6, by show 0 < sizeLine; decide, Evl.Ex.mut e6 hD, upd_same⟩
      · rintro H6 ⟨e6, h6⟩
        have y6 : Li H6 y [m] := e6 _ _ y5
        refine ⟨_, rfl, y, rfl, ⟨_, SqL.of y6⟩, fun D2 hD2 => lc_list (xs := iV [m]) (fun i H' => Evl.Ex H6 H' ∧ H' D2 = some (.lst (iV (if i = 0 then [] else [m / g])))) ⟨Evl.Ex.new hD2, upd_same⟩ (fun i H' _ q => SqL.of (q.1 _ _ y6)) ?_ ?_⟩
        · rintro i v H7 hi ⟨e7, h7⟩
          have i0 : i = 0 := by
            have : i < 1 := (List.getElem?_eq_some_iff.mp hi).1
            omega
          subst i0
          obtain rfl : v = .int m := (Option.some.inj hi).symm
          refine ⟨rfl, ?_⟩
          show tOp (rI CDivW fun i j => .int (i / j)) (tVar 6) (tVar 5) _ _ _
          exact ⟨_, rfl, _, rfl, _, _, rfl, rfl, wide_div (b := 2600) g0 gB (by decide) (by decide), _, h7, by show 0 < sizeLine; decide, Evl.Ex.mut e7 hD2, upd_same⟩
        · rintro H7 ⟨e7, h7⟩
          refine ⟨two, fun q hq => ?_⟩
          have e8 := Evl.Ex.new (o := .tup [.ref D, .ref D2]) hq
          have ft : fr t m = (t / g, m / g) := by
            unfold fr
            rw [hge]
          have tg : t / g ≠ 0 := by
            have h1 := (fr_mul (u := t) hm).1
            rw [ft] at h1
            intro z
            rw [show (t / g, m / g).1 = t / g from rfl, z, Int.zero_mul] at h1
            exact h0 h1
          refine k q D D2 _ (Evl.fresh_back e05 hD) (Evl.fresh_back (e05.trans e6) hD2) (((e05.trans e6).trans e7).trans e8) upd_same ?_ ?_
          · rw [ft, cp_n tg]
            exact e8 _ _ (e7 _ _ h6)
          · rw [ft]
            exact e8 _ _ h7
end
end V2


/-! ## what is data, dicts too, and its text -/
namespace PySem
mutual
inductive ReadsS (h : Heap) : Value → PyData → Prop
  | none : ReadsS h .none .none
  | bool (b : Bool) : ReadsS h (.bool b) (.bool b)
  | int (i : Int) (t : Tok) : ReadsS h (.int i t) (.int i)
  | str (x : Str) (t : Tok) : ReadsS h (.str x t) (.str x)
  | list {a : Addr} {o : Obj} {vs : Array Value} {n : Nat} {xs : List PyData} : h.get? a = some o → o.cls = .type "list" → o.data = .seq vs n → ReadsAllS h vs.toList xs → ReadsS h (.ref a) (.list xs)
  | tuple {a : Addr} {o : Obj} {vs : Array Value} {n : Nat} {xs : List PyData} : h.get? a = some o → o.cls = .type "tuple" → o.data = .seq vs n → ReadsAllS h vs.toList xs → ReadsS h (.ref a) (.tuple xs)
  | dict {a : Addr} {o : Obj} {es : Array DictEntry} {n : Nat} {kvs : List (PyData × PyData)} : h.get? a = some o → o.cls = .type "dict" → o.data = .dict es n → (a == sysModules) = false → ReadsAllS h (es.toList.map (·.key)) (kvs.map (·.1)) →
      ReadsAllS h (es.toList.map (·.val)) (kvs.map (·.2)) → ReadsS h (.ref a) (.dict kvs)
inductive ReadsAllS (h : Heap) : List Value → List PyData → Prop
  | nil : ReadsAllS h [] []
  | cons {v : Value} {vs : List Value} {d : PyData} {ds : List PyData} : ReadsS h v d → ReadsAllS h vs ds → ReadsAllS h (v :: vs) (d :: ds)
end
section
variable {h : Heap}
mutual
theorem ReadsS.reads : ∀ {v : Value} {d : PyData}, ReadsS h v d → ∃ as, Reads h v d as
  | _, _, .none => ⟨_, .none⟩
  | _, _, .bool b => ⟨_, .bool b⟩
  | _, _, .int i t => ⟨_, .int i t⟩
  | _, _, .str x t => ⟨_, .str x t⟩
  | _, _, .list h1 h2 h3 h4 => let ⟨_, r⟩ := ReadsAllS.reads h4; ⟨_, .list h1 h2 h3 r⟩
  | _, _, .tuple h1 h2 h3 h4 => let ⟨_, r⟩ := ReadsAllS.reads h4; ⟨_, .tuple h1 h2 h3 r⟩
  | _, _, .dict h1 h2 h3 _ h4 h5 => let ⟨_, r⟩ := ReadsAllS.reads h4; let ⟨_, q⟩ := ReadsAllS.reads h5; ⟨_, .dict h1 h2 h3 r q⟩
theorem ReadsAllS.reads : ∀ {vs : List Value} {ds : List PyData}, ReadsAllS h vs ds → ∃ as, ReadsAll h vs ds as
  | _, _, .nil => ⟨_, .nil⟩
  | _, _, .cons r q => let ⟨_, a⟩ := ReadsS.reads r; let ⟨_, b⟩ := ReadsAllS.reads q; ⟨_, .cons a b⟩
end
end
section
variable {prog : Program} {w : World} {h₀ : Heap}
mutual
theorem ReprK.of_readsS : ∀ {v : Value} {d : PyData}, ReadsS h₀ v d → d.showable = true → d.shown.length ≤ sizeLine → ∃ bs, ReadAtMost h₀ d.depth bs ∧ ReprK prog w bs h₀ d.depth v d.shown
  | _, _, .none, _, _ => ⟨[], (fun _ h => nomatch h), by simp only [PyData.shown]; exact .of_is ReprIs.none _ _ _⟩
  | _, _, .bool b, _, _ => ⟨[], (fun _ h => nomatch h), by simp only [PyData.shown]; exact .of_is (ReprIs.bool b) _ _ _⟩
  | _, _, .int i t, hs, _ => ⟨[], (fun _ h => nomatch h), by simp only [PyData.shown]; exact .of_is (ReprIs.int t (by simpa [PyData.showable] using hs)) _ _ _⟩
  | _, _, .str x t, _, hz => ⟨[], (fun _ h => nomatch h), by simp only [PyData.shown]; exact .of_is (ReprIs.str x t (by simpa only [PyData.shown] using hz)) _ _ _⟩
  | _, _, .list (a := a) (vs := vs) (xs := xs) h1 h2 h3 h4, hs, hz => by
    have hz' : (listText (PyData.shownAll xs)).length ≤ sizeLine := by simpa only [PyData.shown] using hz
    obtain ⟨bs, hb, hk⟩ := ReprAllK.of_readsAllS h4 (by simpa [PyData.showable] using hs) (fun t ht => Nat.le_trans (listText_mem_le ht) hz')
    obtain ⟨_, r4⟩ := h4.reads
    have r : Reads h₀ (.ref a) (.list xs) _ := .list h1 h2 h3 r4
    have hna : a ∉ bs := not_mem_of_deeper r (by simp only [PyData.depth]; omega) hb
    refine ⟨a :: bs, ReadAtMost.cons r (by simp only [PyData.depth]; omega) hb, ?_⟩
    simp only [PyData.depth, PyData.shown]
    obtain ⟨l⟩ := vs
    cases l with
    | nil =>
      have h4' : ReadsAllS h₀ [] xs := h4
      cases h4'
      simp only [PyData.shownAll, listText_nil]
      exact ReprK.listEmpty h1 h2 h3
    | cons x l => exact ReprK.list h1 h2 h3 hna (by simpa using hk.length_eq) (fun i y e => hk.item i y (by simpa using e))
  | _, _, .tuple (a := a) (xs := xs) h1 h2 h3 h4, hs, hz => by
    have hz' : (tupleText (PyData.shownAll xs)).length ≤ sizeLine := by simpa only [PyData.shown] using hz
    obtain ⟨bs, hb, hk⟩ := ReprAllK.of_readsAllS h4 (by simpa [PyData.showable] using hs) (fun t ht => Nat.le_trans (tupleText_mem_le ht) hz')
    obtain ⟨_, r4⟩ := h4.reads
    have r : Reads h₀ (.ref a) (.tuple xs) _ := .tuple h1 h2 h3 r4
    have hna : a ∉ bs := not_mem_of_deeper r (by simp only [PyData.depth]; omega) hb
    refine ⟨a :: bs, ReadAtMost.cons r (by simp only [PyData.depth]; omega) hb, ?_⟩
    simp only [PyData.depth, PyData.shown]
    exact ReprK.tuple h1 h2 h3 hna hk
  | _, _, .dict (a := a) (es := es) (kvs := kvs) h1 h2 h3 hsys h4 h5, hs, hz => by
    have hz' : (dictText (PyData.shownKv kvs)).length ≤ sizeLine := by simpa only [PyData.shown] using hz
    obtain ⟨hs1, hs2⟩ := PyData.showableKv_split kvs (by simpa [PyData.showable] using hs)
    obtain ⟨b1, hb1, k1⟩ := ReprAllK.of_readsAllS h4 hs1 (fun t ht => let ⟨p, hp, hl⟩ := PyData.shownKv_key_le kvs t ht; Nat.le_trans hl (Nat.le_trans (dictText_mem_le hp) hz'))
    obtain ⟨b2, hb2, k2⟩ := ReprAllK.of_readsAllS h5 hs2 (fun t ht => let ⟨p, hp, hl⟩ := PyData.shownKv_val_le kvs t ht; Nat.le_trans hl (Nat.le_trans (dictText_mem_le hp) hz'))
    obtain ⟨_, r4⟩ := h4.reads
    obtain ⟨_, r5⟩ := h5.reads
    have r : Reads h₀ (.ref a) (.dict kvs) _ := .dict h1 h2 h3 r4 r5
    have hb : ReadAtMost h₀ (PyData.depthKv kvs) (b1 ++ b2) := (hb1.mono (PyData.depthAll_keys_le kvs)).append (hb2.mono (PyData.depthAll_vals_le kvs))
    have hna : a ∉ b1 ++ b2 := not_mem_of_deeper r (by simp only [PyData.depth]; omega) hb
    refine ⟨a :: (b1 ++ b2), ReadAtMost.cons r (by simp only [PyData.depth]; omega) hb, ?_⟩
    simp only [PyData.depth, PyData.shown, PyData.shownKv_eq]
    exact ReprK.dict h1 h2 h3 hsys hna (ReprEntriesK.of_two es.toList _ _
      (k1.more_le (fun b hb => List.mem_append_left _ hb) (PyData.depthAll_keys_le kvs)) (k2.more_le (fun b hb => List.mem_append_right _ hb) (PyData.depthAll_vals_le kvs)))
theorem ReprAllK.of_readsAllS : ∀ {vs : List Value} {ds : List PyData}, ReadsAllS h₀ vs ds → PyData.showableAll ds = true → (∀ t ∈ PyData.shownAll ds, t.length ≤ sizeLine) →
    ∃ bs, ReadAtMost h₀ (PyData.depthAll ds) bs ∧ ReprAllK prog w bs h₀ (PyData.depthAll ds) vs (PyData.shownAll ds)
  | _, _, .nil, _, _ => ⟨[], (fun _ h => nomatch h), by simp only [PyData.shownAll]; exact .nil⟩
  | _, _, .cons (d := d) (ds := ds) r rs, hs, hz => by
    have hs' : d.showable = true ∧ PyData.showableAll ds = true := by simpa [PyData.showableAll] using hs
    obtain ⟨b1, hb1, k1⟩ := ReprK.of_readsS r hs'.1 (hz _ (by simp only [PyData.shownAll]; exact List.mem_cons_self ..))
    obtain ⟨b2, hb2, k2⟩ := ReprAllK.of_readsAllS rs hs'.2 (fun t ht => hz t (by simp only [PyData.shownAll]; exact List.mem_cons_of_mem _ ht))
    refine ⟨b1 ++ b2, ?_, ?_⟩
    · intro b hm
      simp only [PyData.depthAll]
      rcases List.mem_append.mp hm with hm | hm
      · obtain ⟨d', as', r', hd'⟩ := hb1 b hm
        exact ⟨d', as', r', Nat.le_trans hd' (Nat.le_max_left _ _)⟩
      · obtain ⟨d', as', r', hd'⟩ := hb2 b hm
        exact ⟨d', as', r', Nat.le_trans hd' (Nat.le_max_right _ _)⟩
    · simp only [PyData.depthAll, PyData.shownAll]
      exact .cons ((k1.more fun b hb => List.mem_append_left _ hb).level_le (Nat.le_max_left _ _)) (k2.more_le (fun b hb => List.mem_append_right _ hb) (Nat.le_max_right _ _))
end
theorem showsBy_of_readsS {a : Addr} {d : PyData} (r : ReadsS h₀ (.ref a) d) (hs : d.showable = true) (hsz : d.shown.length ≤ sizeLine) : ∃ T idr, ShowsBy prog w h₀ a d T idr := by
  cases r with
  | list h1 h2 h3 h4 =>
    rename_i o vs n xs
    have hz' : (listText (PyData.shownAll xs)).length ≤ sizeLine := by simpa only [PyData.shown] using hsz
    obtain ⟨bs, hb, hk⟩ := ReprAllK.of_readsAllS (prog := prog) (w := w) h4 (by simpa [PyData.showable] using hs) (fun t ht => Nat.le_trans (listText_mem_le ht) hz')
    obtain ⟨_, r4⟩ := h4.reads
    have hna : a ∉ bs := not_mem_of_deeper (.list h1 h2 h3 r4) (by simp only [PyData.depth]; omega) hb
    refine ⟨"list", "list.__repr__", F.slot_list_repr.toG, F.slot_list_str, F.slot_list_format, fun s hk0 => ⟨o, hk0 _ _ h1, h2⟩, fun A E s Q hg hu hk0 hQ => ?_⟩
    simp only [PyData.depth] at hu
    simp only [PyData.shown] at hQ
    obtain ⟨l⟩ := vs
    cases l with
    | nil =>
      have h4' : ReadsAllS h₀ [] xs := h4
      cases h4'
      simp only [PyData.shownAll, listText_nil] at hQ
      exact call_list_repr_empty ⟨o, hk0 _ _ h1, h2⟩ (hk0 _ _ h1) h3 (hQ s.heap _ _ fun _ _ e => e)
    | cons x l =>
      exact call_list_reprK h1 h2 h3 hna (by simpa using hk.length_eq) (fun i y e => hk.item i y (by simpa using e)) hg (fun b _ => Clear.nil b) hu hk0 hQ hz'
  | tuple h1 h2 h3 h4 =>
    rename_i o vs n xs
    have hz' : (tupleText (PyData.shownAll xs)).length ≤ sizeLine := by simpa only [PyData.shown] using hsz
    obtain ⟨bs, hb, hk⟩ := ReprAllK.of_readsAllS (prog := prog) (w := w) h4 (by simpa [PyData.showable] using hs) (fun t ht => Nat.le_trans (tupleText_mem_le ht) hz')
    obtain ⟨_, r4⟩ := h4.reads
    have hna : a ∉ bs := not_mem_of_deeper (.tuple h1 h2 h3 r4) (by simp only [PyData.depth]; omega) hb
    refine ⟨"tuple", "tuple.__repr__", F.slot_tuple_repr, F.slot_tuple_str, F.slot_tuple_format, fun s hk0 => ⟨o, hk0 _ _ h1, h2⟩, fun A E s Q hg hu hk0 hQ => ?_⟩
    simp only [PyData.depth] at hu
    simp only [PyData.shown] at hQ
    exact call_tuple_reprK h1 h2 h3 hna hk hg (fun b _ => Clear.nil b) hu hk0 hQ hz'
  | dict h1 h2 h3 hsys h4 h5 =>
    rename_i o es n kvs
    have hz' : (dictText (PyData.shownKv kvs)).length ≤ sizeLine := by simpa only [PyData.shown] using hsz
    obtain ⟨hs1, hs2⟩ := PyData.showableKv_split kvs (by simpa [PyData.showable] using hs)
    obtain ⟨b1, hb1, k1⟩ := ReprAllK.of_readsAllS (prog := prog) (w := w) h4 hs1 (fun t ht => let ⟨p, hp, hl⟩ := PyData.shownKv_key_le kvs t ht; Nat.le_trans hl (Nat.le_trans (dictText_mem_le hp) hz'))
    obtain ⟨b2, hb2, k2⟩ := ReprAllK.of_readsAllS (prog := prog) (w := w) h5 hs2 (fun t ht => let ⟨p, hp, hl⟩ := PyData.shownKv_val_le kvs t ht; Nat.le_trans hl (Nat.le_trans (dictText_mem_le hp) hz'))
    obtain ⟨_, r4⟩ := h4.reads
    obtain ⟨_, r5⟩ := h5.reads
    have hb : ReadAtMost h₀ (PyData.depthKv kvs) (b1 ++ b2) := (hb1.mono (PyData.depthAll_keys_le kvs)).append (hb2.mono (PyData.depthAll_vals_le kvs))
    have hna : a ∉ b1 ++ b2 := not_mem_of_deeper (.dict h1 h2 h3 r4 r5) (by simp only [PyData.depth]; omega) hb
    refine ⟨"dict", "dict.__repr__", F.slot_dict_repr, F.slot_dict_str, F.slot_dict_format, fun s hk0 => ⟨o, hk0 _ _ h1, h2⟩, fun A E s Q hg hu hk0 hQ => ?_⟩
    simp only [PyData.depth] at hu
    simp only [PyData.shown, PyData.shownKv_eq] at hQ
    exact call_dict_reprK h1 h2 h3 hsys hna (ReprEntriesK.of_two es.toList _ _
      (k1.more_le (fun b hb => List.mem_append_left _ hb) (PyData.depthAll_keys_le kvs)) (k2.more_le (fun b hb => List.mem_append_right _ hb) (PyData.depthAll_vals_le kvs))) hg (fun b _ => Clear.nil b) hu hk0 hQ (by rw [← PyData.shownKv_eq]; exact hz')
theorem repr_of_readsS {a : Addr} {d : PyData} {A : Around} {E : Value → Shared → Prop} {s : Shared} {Q : Value → Shared → Prop} (r : ReadsS h₀ (.ref a) d) (hs : d.showable = true) (hg : A.guards = some []) (hu : A.units + (d.depth + 1) < cLine) (hk0 : ∀ b o, h₀.get? b = some o → s.heap.get? b = some o)
    (hQ : ∀ h' u tk, (∀ b o, s.heap.get? b = some o → h'.get? b = some o) → Q (.str d.shown u) { s with heap := h', toks := tk })
    (hsz : d.shown.length ≤ sizeLine) : wpAny (model prog w) A (call (.builtin "repr") [.ref a]) Q E s := by
  obtain ⟨T, idr, S⟩ := showsBy_of_readsS (prog := prog) (w := w) r hs hsz
  exact call_repr_slot (by omega) (S.typeIs s hk0) S.slotRepr (S.call A.in1 E s _ hg (by show A.units + 1 + d.depth < cLine; omega) hk0 fun h' u tk hk => ⟨_, _, rfl, hQ h' u tk hk⟩)
end
end PySem
namespace V2
open PySem L2
open PySem.Spec PyProof.Rows
mutual
/-- v is the data d, where the abstract heap is H -/
inductive Dq (H : Hp) : V → PyData → Prop
  | non : Dq H .non .none
  | bl (b : Bool) : Dq H (.bl b) (.bool b)
  | int (i : Int) : Dq H (.int i) (.int i)
  | str (x : Str) : Dq H (.str x) (.str x)
  | lst {a : Addr} {xs : List V} {ds : List PyData} : H a = some (.lst xs) → DqAll H xs ds → Dq H (.ref a) (.list ds)
  | tup {a : Addr} {xs : List V} {ds : List PyData} : H a = some (.tup xs) → DqAll H xs ds → Dq H (.ref a) (.tuple ds)
  | dct {a : Addr} {x : Str} {w : V} {d : PyData} : H a = some (.dK [(.inr x, w)]) → Dq H w d → Dq H (.ref a) (.dict [(.str x, d)])
inductive DqAll (H : Hp) : List V → List PyData → Prop
  | nil : DqAll H [] []
  | cons {v : V} {vs : List V} {d : PyData} {ds : List PyData} : Dq H v d → DqAll H vs ds → DqAll H (v :: vs) (d :: ds)
end
mutual
theorem Dq.go {H H' : Hp} : ∀ {d : PyData} {v : V}, Dq H v d → Evl.Ex H H' → Dq H' v d
  | _, _, .non, _ => .non
  | _, _, .bl b, _ => .bl b
  | _, _, .int i, _ => .int i
  | _, _, .str x, _ => .str x
  | _, _, .lst h r, e => .lst (e _ _ h) (DqAll.go r e)
  | _, _, .tup h r, e => .tup (e _ _ h) (DqAll.go r e)
  | _, _, .dct h r, e => .dct (e _ _ h) (Dq.go r e)
theorem DqAll.go {H H' : Hp} : ∀ {ds : List PyData} {vs : List V}, DqAll H vs ds → Evl.Ex H H' → DqAll H' vs ds
  | _, _, .nil, _ => .nil
  | _, _, .cons a b, e => .cons (Dq.go a e) (DqAll.go b e)
end
section
variable {X : Cx} {pins : List (Addr × Obj)} {σ : L2.St} {H : Hp} {s : Shared}
mutual
theorem Dq.reads (I : Inv X pins σ H s) : ∀ {d : PyData} {v : V}, Dq H v d → ∀ {u : Value}, RelV v u → ReadsS s.heap u d
  | _, _, .non, _, r => by
    cases r
    exact .none
  | _, _, .bl b, _, r => by
    cases r
    exact .bool b
  | _, _, .int i, _, r => by
    obtain ⟨t, rfl⟩ := r
    exact .int i t
  | _, _, .str x, _, r => by
    obtain ⟨t, rfl⟩ := r
    exact .str x t
  | _, _, .lst h q, _, r => by
    cases r
    obtain ⟨_, its, n, rv, ho⟩ := I.hok _ _ h
    exact .list ho rfl rfl (by simpa using DqAll.reads I q rv)
  | _, _, .tup h q, _, r => by
    cases r
    obtain ⟨_, its, rv, o, ho, hc, n, hd⟩ := I.hok _ _ h
    exact .tuple ho hc hd (by simpa using DqAll.reads I q rv)
  | _, _, .dct h q, _, r => by
    cases r
    obtain ⟨_, hsys, vs, kv, o, es, ep, ho, ⟨hc, _, _⟩, hd, _, hp, _⟩ := dk_of I.hok h
    obtain ⟨p1, p2, rfl, e1, e2⟩ : ∃ p1 p2, vs = [(p1, p2)] ∧ Sum.inr _ = p1 ∧ RelV _ p2 := by
      cases kv with
      | cons r1 r2 =>
        cases r2
        exact ⟨_, _, rfl, r1.1, r1.2⟩
    · subst e1
      refine .dict ho hc hd hsys ?_ ?_
      · generalize es.toList = l at hp
        cases hp with
        | cons a1 a2 a3 =>
          cases a3
          have z1 := a1
          rw [mixKind_is] at z1
          rcases keyIs_shape z1 with ⟨_, _, z, _⟩ | ⟨x', t, z, ht⟩
          · cases z
          cases z
          rw [List.map_cons, List.map_nil, ht]
          exact .cons (.str _ _) .nil
      · generalize es.toList = l at hp
        cases hp with
        | cons a1 a2 a3 =>
          cases a3
          rw [List.map_cons, List.map_nil, a2]
          exact .cons (Dq.reads I q e2) .nil
theorem DqAll.reads (I : Inv X pins σ H s) : ∀ {ds : List PyData} {vs : List V}, DqAll H vs ds → ∀ {us : List Value}, Vals vs us → ReadsAllS s.heap us ds
  | _, _, .nil, _, r => by
    cases r
    exact .nil
  | _, _, .cons a b, _, r => by
    cases r with
    | cons r1 r2 => exact .cons (Dq.reads I a r1) (DqAll.reads I b r2)
end
end
/-- repr of what is data -/
def rShowS : List V → Hp → VK → Prop := fun xs H Q => ∃ (v : V) (d : PyData), xs = [v] ∧ Dq H v d ∧ d.showable = true ∧ d.depth ≤ 60 ∧ d.shown.length ≤ sizeLine ∧ Q (.str d.shown) H
theorem call_showS {X : Cx} (hgd : X.A.guards = some []) (hu : X.A.units + 64 < cLine) : CallR X (.builtin "repr") rShowS := by
  intro pins s σ H xs us Q I r h
  obtain ⟨v, d, rfl, hd, hs, hp, hz, q⟩ := h
  obtain ⟨u, rfl, ru⟩ : ∃ u, us = [u] ∧ RelV v u := by
    cases r with
    | cons ra rb =>
      cases rb
      exact ⟨_, rfl, ra⟩
  cases hd with
  | non =>
    cases ru
    exact PySem.P.repr_of_none ⟨.str _, H, I.tok _, ⟨_, rfl⟩, by simpa only [PyData.shown] using q⟩
  | bl b =>
    cases ru
    exact PySem.P.repr_of_bool ⟨.str _, H, I.tok _, ⟨_, rfl⟩, by simpa only [PyData.shown] using q⟩
  | int i =>
    obtain ⟨t, rfl⟩ := ru
    exact PySem.P.repr_of_int (by simpa [PyData.showable] using hs) ⟨.str _, H, I.tok _, ⟨_, rfl⟩, by simpa only [PyData.shown] using q⟩
  | str x =>
    obtain ⟨t, rfl⟩ := ru
    exact PySem.P.repr_of_str ⟨.str _, H, I.tok _, ⟨_, rfl⟩, by simpa only [PyData.shown] using q⟩ (by simpa only [PyData.shown] using hz)
  | lst h1 h2 =>
    have rd := Dq.reads I (.lst h1 h2) ru
    cases ru
    exact repr_of_readsS rd hs hgd (by omega) (fun _ _ e => e) (fun h' u tk k => ⟨.str _, H, I.kept (t' := tk) k, ⟨u, rfl⟩, q⟩) hz
  | tup h1 h2 =>
    have rd := Dq.reads I (.tup h1 h2) ru
    cases ru
    exact repr_of_readsS rd hs hgd (by omega) (fun _ _ e => e) (fun h' u tk k => ⟨.str _, H, I.kept (t' := tk) k, ⟨u, rfl⟩, q⟩) hz
  | dct h1 h2 =>
    have rd := Dq.reads I (.dct h1 h2) ru
    cases ru
    exact repr_of_readsS rd hs hgd (by omega) (fun _ _ e => e) (fun h' u tk k => ⟨.str _, H, I.kept (t' := tk) k, ⟨u, rfl⟩, q⟩) hz
end V2


namespace V2
open PySem L2
open PySem.Spec PyProof.Rows
/-! ## copies of data -/
/-- what is new -/
def Nw (H H' : Hp) : Hp := fun b => if (H b).isSome = true then none else H' b
theorem Nw.ex {H H' : Hp} : Evl.Ex (Nw H H') H' := fun b o h => by
  unfold Nw at h
  split at h
  · cases h
  · exact h
theorem nw_at {H H' : Hp} {b : Addr} {o : HO} (n : H b = none) (h : H' b = some o) : Nw H H' b = some o := by
  unfold Nw
  rw [n]
  exact h
theorem nw_none {H H' : Hp} {b : Addr} {o : HO} (h : Nw H H' b = some o) : H b = none := by
  unfold Nw at h
  split at h
  · cases h
  · rename_i z
    cases e : H b with
    | none => rfl
    | some x =>
      rw [e] at z
      exact absurd rfl z
/-- data of lists and tuples, n deep at most -/
inductive Cp : Nat → PyData → Prop
  | non {n : Nat} : Cp n .none
  | bl {n : Nat} (b : Bool) : Cp n (.bool b)
  | int {n : Nat} (i : Int) : Cp n (.int i)
  | str {n : Nat} (x : Str) : Cp n (.str x)
  | lst {n : Nat} {ds : List PyData} : ds.length ≤ 100 → (∀ d ∈ ds, Cp n d) → Cp (n + 1) (.list ds)
  | tup {n : Nat} {ds : List PyData} : ds.length ≤ 100 → (∀ d ∈ ds, Cp n d) → Cp (n + 1) (.tuple ds)
theorem DqAll.len {H : Hp} : ∀ {ds : List PyData} {vs : List V}, DqAll H vs ds → vs.length = ds.length
  | _, _, .nil => rfl
  | _, _, .cons _ b => congrArg Nat.succ b.len
theorem DqAll.get {H : Hp} : ∀ {ds : List PyData} {vs : List V} {i : Nat} {v : V}, DqAll H vs ds → vs[i]? = some v → ∃ d, ds[i]? = some d ∧ Dq H v d
  | _, _, _, _, .nil, h => by cases h
  | _, _, 0, _, .cons a _, h => by
    cases h
    exact ⟨_, rfl, a⟩
  | _, _, i + 1, _, .cons _ b, h => b.get (i := i) h
theorem DqAll.snoc {H : Hp} : ∀ {ds : List PyData} {vs : List V} {v : V} {d : PyData}, DqAll H vs ds → Dq H v d → DqAll H (vs ++ [v]) (ds ++ [d])
  | _, _, _, _, .nil, h => .cons h .nil
  | _, _, _, _, .cons a b, h => .cons a (b.snoc h)
theorem ds_take {ds : List PyData} {i : Nat} {d : PyData} (h : ds[i]? = some d) : ds.take (i + 1) = ds.take i ++ [d] := by
  rw [List.take_add_one, h]
  rfl
def spCp (n : Nat) : Sp := fun vs H Q _ => ∃ (v : V) (d : PyData), vs = [v] ∧ Dq H v d ∧ Cp n d ∧ ∀ v' H', Evl.Ex H H' → Dq (Nw H H') v' d → Q v' H'
structure T5 (mg : Str → Option Value) : Prop where
  isi : mg "isinstance" = none
  lst : mg "list" = none
  tup : mg "tuple" = none
section
variable {base : Heap} {mg : Str → Option Value} {K : PySem.W.Frag} {w : World} {P : Program}
theorem ok_copied0 {f : Addr} {fd : FuncData} (F : Fun K "copied" "copied" s_copied f fd) (T : T5 mg) : FnOk P w K mg base CX0 1 f fd p_copied (spCp 0) := by
  refine F.ok sc_copied (fun vs H Q E h => ?_) (fun cdv A outer s H vs Q E hr h => ?_)
  · obtain ⟨v, d, rfl, _⟩ := h
    rfl
  · obtain ⟨v, d, rfl, hd, hc, k⟩ := h
    refine ⟨_, pss_cons (ps_if (pt_val (pe_callB call_isi (by rfl) T.isi (by decide +kernel) (pa_cons (pv 0) (pa_cons (pe_bltn (v := .ty "list") (by rfl) T.lst (by decide +kernel) rfl) pa_nil)))) (pss_one ps_never) pss_nil)
      (pss_cons (ps_if (pt_val (pe_callB call_isi (by rfl) T.isi (by decide +kernel) (pa_cons (pv 0) (pa_cons (pe_bltn (v := .ty "tuple") (by rfl) T.tup (by decide +kernel) rfl) pa_nil)))) (pss_one ps_never) pss_nil)
      (pss_one (ps_ret (pv 0)))), ?_⟩
    cases hc with
    | non =>
      cases hd
      exact ⟨_, rfl, _, _, _, _, false, rfl, .ty "list", .base .non, kit_ty (by decide +kernel), false, rfl, if_f rfl ⟨_, rfl, _, _, _, _, false, rfl, .ty "tuple", .base .non, kit_ty (by decide +kernel), false, rfl, if_f rfl ⟨_, rfl, k _ _ (Evl.Ex.refl _) .non⟩⟩⟩
    | bl b =>
      cases hd
      exact ⟨_, rfl, _, _, _, _, false, rfl, .ty "list", .base (.bl b), kit_ty (by decide +kernel), false, rfl, if_f rfl ⟨_, rfl, _, _, _, _, false, rfl, .ty "tuple", .base (.bl b), kit_ty (by decide +kernel), false, rfl, if_f rfl ⟨_, rfl, k _ _ (Evl.Ex.refl _) (.bl b)⟩⟩⟩
    | int i =>
      cases hd
      exact ⟨_, rfl, _, _, _, _, false, rfl, .ty "list", .base (.int i), kit_ty (by decide +kernel), false, rfl, if_f rfl ⟨_, rfl, _, _, _, _, false, rfl, .ty "tuple", .base (.int i), kit_ty (by decide +kernel), false, rfl, if_f rfl ⟨_, rfl, k _ _ (Evl.Ex.refl _) (.int i)⟩⟩⟩
    | str x =>
      cases hd
      exact ⟨_, rfl, _, _, _, _, false, rfl, .ty "list", .base (.str x), kit_ty (by decide +kernel), false, rfl, if_f rfl ⟨_, rfl, _, _, _, _, false, rfl, .ty "tuple", .base (.str x), kit_ty (by decide +kernel), false, rfl, if_f rfl ⟨_, rfl, k _ _ (Evl.Ex.refl _) (.str x)⟩⟩⟩
/-- the turns of the comprehension -/
theorem cp_turns {H H1 H2 H3 : Hp} {D : Addr} {v' : V} {acc : List V} {ds : List PyData} {d : PyData} (hD : H1 D = none) (e0 : Evl.Ex H H1) (e1 : Evl.Ex H1 H2) (hD2 : H2 D = some (.lst acc)) (ha : DqAll (Nw H (fun b => if b = D then none else H2 b)) acc ds) (e2 : Evl.Ex H2 H3) (hd : Dq (Nw H2 H3) v' d) :
    DqAll (Nw H (fun b => if b = D then none else upd H3 D (.lst (acc ++ [v'])) b)) (acc ++ [v']) (ds ++ [d]) := by
  have hHD : H D = none := Evl.fresh_back e0 hD
  refine DqAll.snoc (ha.go fun b o h => ?_) (hd.go fun b o h => ?_)
  · have n := nw_none h
    have z := Nw.ex _ _ h
    by_cases hb : b = D
    · rw [if_pos hb] at z
      cases z
    · rw [if_neg hb] at z
      refine nw_at n ?_
      show (if b = D then none else upd H3 D (.lst (acc ++ [v'])) b) = some o
      rw [if_neg hb, upd_ne hb]
      exact e2 _ _ z
  · have n := nw_none h
    have z := Nw.ex _ _ h
    have hb : b ≠ D := fun q => by
      rw [q, hD2] at n
      cases n
    refine nw_at (Evl.fresh_back (e0.trans e1) n) ?_
    show (if b = D then none else upd H3 D (.lst (acc ++ [v'])) b) = some o
    rw [if_neg hb, upd_ne hb]
    exact z
theorem ok_copiedS {n k : Nat} {f : Addr} {fd : FuncData} (F : Fun K "copied" "copied" s_copied f fd) (T : T5 mg) (c0 : Cal P w K mg base k "copied" p_copied (spCp n)) : FnOk P w K mg base CX0 (k + 1) f fd p_copied (spCp (n + 1)) := by
  refine F.ok sc_copied (fun vs H Q E h => ?_) (fun cdv A outer s H vs Q E hr h => ?_)
  · obtain ⟨v, d, rfl, _⟩ := h
    rfl
  · obtain ⟨v, d, rfl, hd, hc, kk⟩ := h
    have nd := sc_copied.nd
    cases hc with
    | non =>
      cases hd
      refine ⟨_, pss_cons (ps_if (pt_val (pe_callB call_isi (by rfl) T.isi (by decide +kernel) (pa_cons (pv 0) (pa_cons (pe_bltn (v := .ty "list") (by rfl) T.lst (by decide +kernel) rfl) pa_nil)))) (pss_one ps_never) pss_nil)
        (pss_cons (ps_if (pt_val (pe_callB call_isi (by rfl) T.isi (by decide +kernel) (pa_cons (pv 0) (pa_cons (pe_bltn (v := .ty "tuple") (by rfl) T.tup (by decide +kernel) rfl) pa_nil)))) (pss_one ps_never) pss_nil)
        (pss_one (ps_ret (pv 0)))), ?_⟩
      exact ⟨_, rfl, _, _, _, _, false, rfl, .ty "list", .base .non, kit_ty (by decide +kernel), false, rfl, if_f rfl ⟨_, rfl, _, _, _, _, false, rfl, .ty "tuple", .base .non, kit_ty (by decide +kernel), false, rfl, if_f rfl ⟨_, rfl, kk _ _ (Evl.Ex.refl _) .non⟩⟩⟩
    | bl b =>
      cases hd
      refine ⟨_, pss_cons (ps_if (pt_val (pe_callB call_isi (by rfl) T.isi (by decide +kernel) (pa_cons (pv 0) (pa_cons (pe_bltn (v := .ty "list") (by rfl) T.lst (by decide +kernel) rfl) pa_nil)))) (pss_one ps_never) pss_nil)
        (pss_cons (ps_if (pt_val (pe_callB call_isi (by rfl) T.isi (by decide +kernel) (pa_cons (pv 0) (pa_cons (pe_bltn (v := .ty "tuple") (by rfl) T.tup (by decide +kernel) rfl) pa_nil)))) (pss_one ps_never) pss_nil)
        (pss_one (ps_ret (pv 0)))), ?_⟩
      exact ⟨_, rfl, _, _, _, _, false, rfl, .ty "list", .base (.bl b), kit_ty (by decide +kernel), false, rfl, if_f rfl ⟨_, rfl, _, _, _, _, false, rfl, .ty "tuple", .base (.bl b), kit_ty (by decide +kernel), false, rfl, if_f rfl ⟨_, rfl, kk _ _ (Evl.Ex.refl _) (.bl b)⟩⟩⟩
    | int i =>
      cases hd
      refine ⟨_, pss_cons (ps_if (pt_val (pe_callB call_isi (by rfl) T.isi (by decide +kernel) (pa_cons (pv 0) (pa_cons (pe_bltn (v := .ty "list") (by rfl) T.lst (by decide +kernel) rfl) pa_nil)))) (pss_one ps_never) pss_nil)
        (pss_cons (ps_if (pt_val (pe_callB call_isi (by rfl) T.isi (by decide +kernel) (pa_cons (pv 0) (pa_cons (pe_bltn (v := .ty "tuple") (by rfl) T.tup (by decide +kernel) rfl) pa_nil)))) (pss_one ps_never) pss_nil)
        (pss_one (ps_ret (pv 0)))), ?_⟩
      exact ⟨_, rfl, _, _, _, _, false, rfl, .ty "list", .base (.int i), kit_ty (by decide +kernel), false, rfl, if_f rfl ⟨_, rfl, _, _, _, _, false, rfl, .ty "tuple", .base (.int i), kit_ty (by decide +kernel), false, rfl, if_f rfl ⟨_, rfl, kk _ _ (Evl.Ex.refl _) (.int i)⟩⟩⟩
    | str x =>
      cases hd
      refine ⟨_, pss_cons (ps_if (pt_val (pe_callB call_isi (by rfl) T.isi (by decide +kernel) (pa_cons (pv 0) (pa_cons (pe_bltn (v := .ty "list") (by rfl) T.lst (by decide +kernel) rfl) pa_nil)))) (pss_one ps_never) pss_nil)
        (pss_cons (ps_if (pt_val (pe_callB call_isi (by rfl) T.isi (by decide +kernel) (pa_cons (pv 0) (pa_cons (pe_bltn (v := .ty "tuple") (by rfl) T.tup (by decide +kernel) rfl) pa_nil)))) (pss_one ps_never) pss_nil)
        (pss_one (ps_ret (pv 0)))), ?_⟩
      exact ⟨_, rfl, _, _, _, _, false, rfl, .ty "list", .base (.str x), kit_ty (by decide +kernel), false, rfl, if_f rfl ⟨_, rfl, _, _, _, _, false, rfl, .ty "tuple", .base (.str x), kit_ty (by decide +kernel), false, rfl, if_f rfl ⟨_, rfl, kk _ _ (Evl.Ex.refl _) (.str x)⟩⟩⟩
    | @lst _ ds hl hcs =>
      cases hd with
      | @lst a xs _ ha hds =>
      refine ⟨_, pss_cons (ps_if (pt_val (pe_callB call_isi (by rfl) T.isi (by decide +kernel) (pa_cons (pv 0) (pa_cons (pe_bltn (v := .ty "list") (by rfl) T.lst (by decide +kernel) rfl) pa_nil))))
          (pss_one (ps_ret (pe_lc (own := [("part", 1)]) (g := gName 1) (tt := tYes) (te := tCall (spCp n) [] E0 (tCons (tVar 1) tNil)) rfl nd (pi_list (pv 0)) (blkOk_by (N := n_copied) (sc := defScope s_copied) (by decide +kernel)) (fun _ _ _ _ _ => pg_name (i := 1) nd rfl (Or.inl rfl)) (fun _ _ _ _ _ => pts_nil)
            (fun _ _ _ _ _ => pe_c c0 hr (pa_cons (pv 1) pa_nil))))) pss_nil)
        (pss_cons ps_never (pss_one ps_never)), ?_⟩
      refine ⟨_, rfl, _, _, _, _, true, rfl, .ty "list", .base (.lst ha), kit_ty (by decide +kernel), true, rfl, if_t rfl ?_⟩
      have hlen := hds.len
      refine ⟨_, rfl, a, rfl, ⟨_, SqL.of ha⟩, fun D hD => lc_list (xs := xs) (fun i H' => Evl.Ex H H' ∧ ∃ acc, H' D = some (.lst acc) ∧ DqAll (Nw H (fun b => if b = D then none else H' b)) acc (ds.take i)) ⟨Evl.Ex.new hD, [], upd_same, .nil⟩ (fun i H' _ q => SqL.of (q.1 _ _ ha)) ?_ ?_⟩
      · rintro i x H2 hi ⟨e2, acc, hD2, hacc⟩
        obtain ⟨d, hdi, hdx⟩ := hds.get hi
        refine ⟨rfl, ?_⟩
        show tCall (spCp n) [] E0 (tCons (tVar 1) tNil) _ _ _
        refine ⟨_, rfl, x, d, rfl, hdx.go e2, hcs d (List.mem_of_getElem? hdi), fun v' H3 e3 hv' => ⟨acc, e3 _ _ hD2, ?_, Evl.Ex.mut (e2.trans e3) hD, _, upd_same, ?_⟩⟩
        · have h1 := hacc.len
          rw [List.length_take] at h1
          exact Nat.lt_of_le_of_lt (show acc.length ≤ 100 by omega) (by decide)
        · rw [ds_take hdi]
          exact cp_turns hD (Evl.Ex.refl _) e2 hD2 hacc e3 hv'
      · rintro H2 ⟨e2, acc, hD2, hacc⟩
        rw [hlen, List.take_length] at hacc
        refine kk _ _ e2 (.lst (nw_at hD hD2) (hacc.go fun b o h => nw_at (nw_none h) ?_))
        have z := Nw.ex _ _ h
        by_cases hb : b = D
        · rw [if_pos hb] at z
          cases z
        · rw [if_neg hb] at z
          exact z
    | @tup _ ds hl hcs =>
      cases hd with
      | @tup a xs _ ha hds =>
      refine ⟨_, pss_cons (ps_if (pt_val (pe_callB call_isi (by rfl) T.isi (by decide +kernel) (pa_cons (pv 0) (pa_cons (pe_bltn (v := .ty "list") (by rfl) T.lst (by decide +kernel) rfl) pa_nil)))) (pss_one ps_never) pss_nil)
        (pss_cons (ps_if (pt_val (pe_callB call_isi (by rfl) T.isi (by decide +kernel) (pa_cons (pv 0) (pa_cons (pe_bltn (v := .ty "tuple") (by rfl) T.tup (by decide +kernel) rfl) pa_nil))))
          (pss_one (ps_ret (pe_callTy call_tuple_of (by rfl) T.tup (by decide +kernel) (pa_cons (pe_lc (own := [("part", 1)]) (g := gName 1) (tt := tYes) (te := tCall (spCp n) [] E0 (tCons (tVar 1) tNil)) rfl nd (pi_tup (pv 0)) (blkOk_by (N := n_copied) (sc := defScope s_copied) (by decide +kernel)) (fun _ _ _ _ _ => pg_name (i := 1) nd rfl (Or.inl rfl)) (fun _ _ _ _ _ => pts_nil)
            (fun _ _ _ _ _ => pe_c c0 hr (pa_cons (pv 1) pa_nil))) pa_nil)))) pss_nil)
        (pss_one ps_never)), ?_⟩
      refine ⟨_, rfl, _, _, _, _, false, rfl, .ty "list", .base (.tup ha), kit_ty (by decide +kernel), false, rfl, if_f rfl ?_⟩
      refine ⟨_, rfl, _, _, _, _, true, rfl, .ty "tuple", .base (.tup ha), kit_ty (by decide +kernel), true, rfl, if_t rfl ?_⟩
      have hlen := hds.len
      refine ⟨_, rfl, a, rfl, ⟨_, SqT.of ha⟩, fun D hD => lc_tup (xs := xs) (fun i H' => Evl.Ex H H' ∧ ∃ acc, H' D = some (.lst acc) ∧ DqAll (Nw H (fun b => if b = D then none else H' b)) acc (ds.take i)) ⟨Evl.Ex.new hD, [], upd_same, .nil⟩ (fun i H' _ q => SqT.of (q.1 _ _ ha)) ?_ ?_⟩
      · rintro i x H2 hi ⟨e2, acc, hD2, hacc⟩
        obtain ⟨d, hdi, hdx⟩ := hds.get hi
        refine ⟨rfl, ?_⟩
        show tCall (spCp n) [] E0 (tCons (tVar 1) tNil) _ _ _
        refine ⟨_, rfl, x, d, rfl, hdx.go e2, hcs d (List.mem_of_getElem? hdi), fun v' H3 e3 hv' => ⟨acc, e3 _ _ hD2, ?_, Evl.Ex.mut (e2.trans e3) hD, _, upd_same, ?_⟩⟩
        · have h1 := hacc.len
          rw [List.length_take] at h1
          exact Nat.lt_of_le_of_lt (show acc.length ≤ 100 by omega) (by decide)
        · rw [ds_take hdi]
          exact cp_turns hD (Evl.Ex.refl _) e2 hD2 hacc e3 hv'
      · rintro H2 ⟨e2, acc, hD2, hacc⟩
        rw [hlen, List.take_length] at hacc
        refine ⟨D, _, rfl, .inl ⟨SqL.of hD2, fun l hl2 => ?_⟩⟩
        have e3 := Evl.Ex.new (o := .tup acc) hl2
        refine kk _ _ (e2.trans e3) (.tup (nw_at (Evl.fresh_back e2 hl2) upd_same) (hacc.go fun b o h => nw_at (nw_none h) (e3 _ _ ?_)))
        have z := Nw.ex _ _ h
        by_cases hb : b = D
        · rw [if_pos hb] at z
          cases z
        · rw [if_neg hb] at z
          exact z
end
end V2


namespace V2
open PySem L2
open PySem.Spec PyProof.Rows
/-! ## tanks and steps that are right -/
abbrev Tk := Option Int × Int
def wV : Option Int → V
  | none => .non
  | some z => .int z
def wD : Option Int → PyData
  | none => .none
  | some z => .int z
def tkD (t : Tk) : PyData := .tuple [wD t.1, .int t.2]
def okT (ts : List Tk) : Prop := ts.length ≤ 20 ∧ (∀ t ∈ ts, (∀ z, t.1 = some z → 1 ≤ z) ∧ 0 ≤ t.2) ∧ ts.countP (fun t => t.1.isNone) = 1
def TksAt (H : Hp) (l : Addr) (ts : List Tk) : Prop := ∃ as : List Addr, H l = some (.lst (as.map V.ref)) ∧ as.length = ts.length ∧ ∀ (i : Nat) (a : Addr) (t : Tk), as[i]? = some a → ts[i]? = some t → H a = some (.tup [wV t.1, .int t.2])
theorem TksAt.ex {H H' : Hp} {l : Addr} {ts : List Tk} (h : TksAt H l ts) (e : Evl.Ex H H') : TksAt H' l ts := by
  obtain ⟨as, h1, h2, h3⟩ := h
  exact ⟨as, e _ _ h1, h2, fun i a t x y => e _ _ (h3 i a t x y)⟩
theorem dq_w {H : Hp} {v : V} {w : Option Int} (h : Dq H v (wD w)) : v = wV w := by
  cases w with
  | none => cases h; rfl
  | some z => cases h; rfl
theorem dq_tk {H : Hp} {v : V} {t : Tk} (h : Dq H v (tkD t)) : ∃ a, v = .ref a ∧ H a = some (.tup [wV t.1, .int t.2]) := by
  cases h with
  | tup h1 h2 =>
    cases h2 with
    | cons a b =>
      cases b with
      | cons b c =>
        cases c
        cases b
        rw [dq_w a] at h1
        exact ⟨_, rfl, h1⟩
theorem dq_tks {H : Hp} : ∀ {ts : List Tk} {vs : List V}, DqAll H vs (ts.map tkD) → ∃ as : List Addr, vs = as.map V.ref ∧ as.length = ts.length ∧ ∀ (i : Nat) (a : Addr) (t : Tk), as[i]? = some a → ts[i]? = some t → H a = some (.tup [wV t.1, .int t.2])
  | [], _, .nil => ⟨[], rfl, rfl, fun i a t h => (by cases h)⟩
  | t :: ts, _, .cons a b => by
    obtain ⟨x, rfl, hx⟩ := dq_tk a
    obtain ⟨as, rfl, h2, h3⟩ := dq_tks b
    refine ⟨x :: as, rfl, congrArg Nat.succ h2, fun i a t' h1 h2 => ?_⟩
    cases i with
    | zero =>
      cases h1
      cases h2
      exact hx
    | succ i => exact h3 i a t' h1 h2
theorem Dq.tks {H : Hp} {v : V} {ts : List Tk} (h : Dq H v (.list (ts.map tkD))) : ∃ l, v = .ref l ∧ TksAt H l ts := by
  cases h with
  | lst h1 h2 =>
    obtain ⟨as, rfl, h3, h4⟩ := dq_tks h2
    exact ⟨_, rfl, as, h1, h3, h4⟩
theorem cp_tks {ts : List Tk} (h : ts.length ≤ 100) : Cp 2 (.list (ts.map tkD)) := by
  refine .lst (by rw [List.length_map]; exact h) fun d hd => ?_
  obtain ⟨t, _, rfl⟩ := List.mem_map.mp hd
  refine .tup (by show 2 ≤ 100; decide) fun x hx => ?_
  simp only [List.mem_cons, List.not_mem_nil, or_false] at hx
  rcases hx with rfl | rfl
  · cases t.1 with
    | none => exact .non
    | some z => exact .int z
  · exact .int _
def spAmt : Sp := fun vs H Q _ => ∃ n : Int, vs = [.int n] ∧ 0 ≤ n ∧ Evl.RetV (.bl true) H Q
def spTank : Sp := fun vs H Q _ => ∃ (a : Addr) (t : Tk), vs = [.ref a] ∧ H a = some (.tup [wV t.1, .int t.2]) ∧ (∀ z, t.1 = some z → 1 ≤ z) ∧ 0 ≤ t.2 ∧ Evl.RetV (.bl true) H Q
def spChkT : Sp := fun vs H Q _ => ∃ (l : Addr) (ts : List Tk), vs = [.ref l] ∧ TksAt H l ts ∧ okT ts ∧ Evl.RetV .non H Q
section
variable {base : Heap} {mg : Str → Option Value} {K : PySem.W.Frag} {w : World} {P : Program}
theorem ok_is_amount {f : Addr} {fd : FuncData} (F : Fun K "is_amount" "is_amount" s_is_amount f fd) (cI : Cal P w K mg base 1 "is_integer" p_is_integer spInt) : FnOk P w K mg base CX0 2 f fd p_is_amount spAmt := by
  refine F.ok sc_is_amount (fun vs H Q E h => ?_) (fun cdv A outer s H vs Q E hr h => ?_)
  · obtain ⟨n, rfl, _⟩ := h
    rfl
  · obtain ⟨n, rfl, h0, k⟩ := h
    refine ⟨_, pss_one (ps_ret (pe_and (pe_c cI hr (pa_cons (pv 0) pa_nil)) (pe_one (pe_cmpR op_ge (pv 0) pe_int (nomark _))))), ?_⟩
    refine ⟨_, rfl, n, rfl, fun H1 e1 => ⟨_, rfl, if_t rfl ?_⟩⟩
    refine ⟨_, rfl, _, _, rfl, rfl, ?_⟩
    have e : decide (n ≥ 0) = true := decide_eq_true h0
    show Q (.bl (decide (n ≥ 0))) H1
    rw [e]
    exact k _ e1
theorem ok_is_tank {f : Addr} {fd : FuncData} (F : Fun K "is_tank" "is_tank" s_is_tank f fd) (T : T3 mg) (cI : Cal P w K mg base 1 "is_integer" p_is_integer spInt) (cA : Cal P w K mg base 2 "is_amount" p_is_amount spAmt) : FnOk P w K mg base CX0 3 f fd p_is_tank spTank := by
  refine F.ok sc_is_tank (fun vs H Q E h => ?_) (fun cdv A outer s H vs Q E hr h => ?_)
  · obtain ⟨a, t, rfl, _⟩ := h
    rfl
  · obtain ⟨a, t, rfl, ha, hw, h0, k⟩ := h
    have nd := sc_is_tank.nd
    have r1 : Room 1 _ := hr.mono (by decide)
    refine ⟨_, pss_cons (ps_if (PW.pt (pw_or (pt_not (pt_val (pe_callB call_isi (by rfl) T.isi (by decide +kernel) (pa_cons (pv 0) (pa_cons (pe_bltn (v := .ty "tuple") (by rfl) T.tup (by decide +kernel) rfl) pa_nil)))))
        (pw_or1 (pt_cmpR op_ne (pe_callB call_len_seq (by rfl) T.len PySem.boot_len (pa_cons (pv 0) pa_nil)) pe_int (nomark _))))) (pss_one (ps_ret pe_bl)) pss_nil)
      (pss_cons (ps_asg (pv 0) (pg_tup rfl (pgs_cons (pg_name (i := 1) nd rfl (Or.inl rfl)) (pgs_cons (pg_name (i := 2) nd rfl (Or.inl rfl)) pgs_nil))))
      (pss_one (ps_ret (pe_and (pe_or (pe_cmp (pc_isN (pv 1))) (pe_one (pe_and (pe_c cI r1 (pa_cons (pv 1) pa_nil)) (pe_one (pe_cmpR op_ge (pv 1) pe_int (nomark _)))))) (pe_one (pe_c cA hr (pa_cons (pv 2) pa_nil))))))), ?_⟩
    refine ⟨_, rfl, _, _, _, _, true, rfl, .ty "tuple", .base (.tup ha), kit_ty (by decide +kernel), true, rfl, if_f rfl ?_⟩
    refine ⟨_, rfl, a, _, rfl, .inr (SqT.of ha), rfl, false, rfl, if_f rfl ?_⟩
    refine ⟨_, rfl, a, _, rfl, SqT.of ha, rfl, _, _, rfl, _, _, rfl, rfl, ?_⟩
    obtain ⟨tw, ta⟩ := t
    cases tw with
    | none => exact ⟨_, rfl, _, rfl, _, rfl, if_t rfl ⟨_, rfl, ta, rfl, h0, k⟩⟩
    | some z =>
      have hz := hw z rfl
      refine ⟨_, rfl, _, rfl, if_f rfl ⟨_, rfl, z, rfl, fun H1 e1 => ⟨_, rfl, if_t rfl ?_⟩⟩⟩
      refine ⟨_, rfl, _, _, rfl, rfl, _, rfl, if_t (decide_eq_true (by omega)) ?_⟩
      exact ⟨_, rfl, ta, rfl, h0, fun H' e' => k H' (e1.trans e')⟩
theorem cntN {ts : List Tk} {i : Nat} {t : Tk} (h : ts[i]? = some t) : (ts.take (i + 1)).countP (fun t => t.1.isNone) = (ts.take i).countP (fun t => t.1.isNone) + (if t.1 = none then 1 else 0) := by
  rw [List.take_add_one, h, List.countP_append]
  obtain ⟨w, a⟩ := t
  cases w <;> simp
theorem ok_check_tanks {f : Addr} {fd : FuncData} (F : Fun K "check_tanks" "check_tanks" s_check_tanks f fd) (mL : mg "len" = none) (cT : Cal P w K mg base 3 "is_tank" p_is_tank spTank) : FnOk P w K mg base CX0 4 f fd p_check_tanks spChkT := by
  refine F.ok sc_check_tanks (fun vs H Q E h => ?_) (fun cdv A outer s H vs Q E hr h => ?_)
  · obtain ⟨l, ts, rfl, _⟩ := h
    rfl
  · obtain ⟨l, ts, rfl, hT, ⟨h20, hts, hone⟩, k⟩ := h
    obtain ⟨as, hl, hlen, hat⟩ := hT
    have nd := sc_check_tanks.nd
    refine ⟨_, pss_cons (ps_for PassesOwn.never rfl (pi_list (pv 0)) (pg_name (i := 1) nd rfl (Or.inl rfl)) (pss_one (ps_if (pt_not (pt_val (pe_c cT hr (pa_cons (pv 1) pa_nil)))) (pss_one ps_never) pss_nil)))
      (pss_one (ps_if (pt_cmpR op_ne (pe_callB call_len_seq (by rfl) mL PySem.boot_len (pa_cons (pe_lc (own := [("tank", 1)]) (g := gName 1) (tt := tB (tIsN (tOp (rIxT K) (tVar 1) (tC (.int 0))))) (te := tVar 1) rfl nd (pi_list (pv 0)) (blkOk_by (N := n_check_tanks) (sc := defScope s_check_tanks) (by decide +kernel)) (fun _ _ _ _ _ => pg_name (i := 1) nd rfl (Or.inl rfl))
          (fun _ _ _ _ _ => pts_one (pt_cmp (pc_isN (pe_ix ix_tup (pv 1) pe_int (fun _ _ => rfl))))) (fun _ _ _ _ _ => pv 1)) pa_nil)) pe_int (nomark _)) (pss_one ps_never) pss_nil)), ?_⟩
    have get : ∀ {i : Nat} {x : V}, (as.map V.ref)[i]? = some x → ∃ a t, x = .ref a ∧ as[i]? = some a ∧ ts[i]? = some t ∧ H a = some (.tup [wV t.1, .int t.2]) := fun {i x} hx => by
      rw [List.getElem?_map] at hx
      cases e : as[i]? with
      | none =>
        rw [e] at hx
        cases hx
      | some a =>
        rw [e] at hx
        have hi : i < ts.length := by
          have := (List.getElem?_eq_some_iff.mp e).1
          omega
        exact ⟨a, ts[i], (Option.some.inj hx).symm, rfl, List.getElem?_eq_getElem hi, hat i a _ e (List.getElem?_eq_getElem hi)⟩
    refine ⟨_, rfl, l, rfl, ⟨_, SqL.of hl⟩, for_list (xs := as.map V.ref) (fun i σ H' => Evl.Ex H H' ∧ ∃ v, σ = [some (.ref l), v]) ⟨Evl.Ex.refl _, none, rfl⟩ (fun i σ H' _ q => SqL.of (q.1 _ _ hl)) ?_ ?_⟩
    · rintro i x σ H1 hi ⟨e1, v, rfl⟩
      obtain ⟨a, t, rfl, _, ht, ha⟩ := get hi
      obtain ⟨t1, t2⟩ := hts t (List.mem_of_getElem? ht)
      exact ⟨_, rfl, a, t, rfl, e1 _ _ ha, t1, t2, fun H2 e2 => ⟨true, rfl, if_f rfl ⟨e1.trans e2, _, rfl⟩⟩⟩
    · rintro σ H1 ⟨e1, v, rfl⟩
      refine ⟨_, rfl, l, rfl, ⟨_, SqL.of (e1 _ _ hl)⟩, fun D hD => lc_list (xs := as.map V.ref) (fun i H' => Evl.Ex H1 H' ∧ ∃ acc, H' D = some (.lst acc) ∧ acc.length = (ts.take i).countP (fun t => t.1.isNone)) ⟨Evl.Ex.new hD, [], upd_same, rfl⟩ (fun i H' _ q => SqL.of (q.1 _ _ (e1 _ _ hl))) ?_ ?_⟩
      · rintro i x H2 hi ⟨e2, acc, h2, hc⟩
        obtain ⟨a, t, rfl, _, ht, ha⟩ := get hi
        have hcn := cntN ht
        refine ⟨rfl, ?_⟩
        show tB (tIsN (tOp (rIxT K) (tVar 1) (tC (.int 0)))) _ _ _
        refine ⟨_, rfl, a, _, _, _, rfl, rfl, SqT.of (e2 _ _ (e1 _ _ ha)), rfl, _, rfl, ?_⟩
        obtain ⟨tw, ta⟩ := t
        cases tw with
        | none =>
          refine if_t rfl ?_
          show tVar 1 _ _ _
          refine ⟨_, rfl, acc, h2, ?_, Evl.Ex.mut e2 hD, _, upd_same, ?_⟩
          · have := List.countP_le_length (p := fun t : Tk => t.1.isNone) (l := ts.take i)
            rw [List.length_take] at this
            exact Nat.lt_of_le_of_lt (show acc.length ≤ 20 by omega) (by decide)
          · rw [List.length_append, hcn, hc]
            rfl
        | some z =>
          refine if_f rfl ⟨e2, acc, h2, ?_⟩
          rw [hcn, hc]
          rfl
      · rintro H2 ⟨e2, acc, h2, hc⟩
        rw [List.length_map, hlen, List.take_length, hone] at hc
        refine ⟨D, _, rfl, .inl (SqL.of h2), ?_⟩
        rw [hc]
        exact ⟨rfl, _, rfl, if_f rfl (k _ (e1.trans e2))⟩
end
end V2


namespace V2
open PySem L2
open PySem.Spec PyProof.Rows
/-! ## steps that are right -/
inductive Deed
  | op (ks : List Int)
  | po (k a : Int)
  | sc (k p q : Int)
  | mv (k m p q : Int)
  | un (k m : Int)
def dD : Deed → PyData
  | .op ks => .tuple [.str "open", .list (ks.map .int)]
  | .po k a => .tuple [.str "pour", .int k, .int a]
  | .sc k p q => .tuple [.str "scoop", .int k, .tuple [.int p, .int q]]
  | .mv k m p q => .tuple [.str "move", .int k, .int m, .tuple [.int p, .int q]]
  | .un k m => .tuple [.str "unless", .int k, .int m]
def DAt (H : Hp) (a : Addr) : Deed → Prop
  | .op ks => ∃ l, H a = some (.tup [.str "open", .ref l]) ∧ Li H l ks
  | .po k x => H a = some (.tup [.str "pour", .int k, .int x])
  | .sc k p q => ∃ f, H a = some (.tup [.str "scoop", .int k, .ref f]) ∧ Fr H f p q
  | .mv k m p q => ∃ f, H a = some (.tup [.str "move", .int k, .int m, .ref f]) ∧ Fr H f p q
  | .un k m => H a = some (.tup [.str "unless", .int k, .int m])
theorem DAt.ex {H H' : Hp} {a : Addr} {d : Deed} (h : DAt H a d) (e : Evl.Ex H H') : DAt H' a d := by
  cases d with
  | op ks =>
    obtain ⟨l, h1, h2⟩ := h
    exact ⟨l, e _ _ h1, e _ _ h2⟩
  | po k x => exact e _ _ h
  | sc k p q =>
    obtain ⟨f, h1, h2⟩ := h
    exact ⟨f, e _ _ h1, e _ _ h2⟩
  | mv k m p q =>
    obtain ⟨f, h1, h2⟩ := h
    exact ⟨f, e _ _ h1, e _ _ h2⟩
  | un k m => exact e _ _ h
def Pt (p q : Int) : Prop := 0 ≤ p ∧ p ≤ q ∧ Qn p q
/-- a step that is right, for n tanks -/
def okD (n : Int) : Deed → Prop
  | .op ks => 2 ≤ ks.length ∧ ks.length ≤ 20 ∧ (∀ (i : Nat) (x y : Int), ks[i]? = some x → ks[i + 1]? = some y → x < y) ∧ ∀ k ∈ ks, 0 ≤ k ∧ k < n
  | .po k a => (0 ≤ k ∧ k < n) ∧ 0 ≤ a
  | .sc k p q => (0 ≤ k ∧ k < n) ∧ Pt p q
  | .mv k m p q => (0 ≤ k ∧ k < n) ∧ (0 ≤ m ∧ m < n) ∧ k ≠ m ∧ Pt p q
  | .un k m => (0 ≤ k ∧ k < n) ∧ (0 ≤ m ∧ m < n) ∧ k ≠ m
structure Th (K : PySem.W.Frag) (w : World) (mg : Str → Option Value) (aT : Addr) (es : Array DictEntry) (n : Nat) (t1 t2 t3 t4 t5 : Tok) : Prop where
  g : mg "THINGS" = some (.ref aT)
  D : KDict K w aT es n
  n1 : PySem.W.nsIn K aT "open" = some (some (.int 2 t1))
  n2 : PySem.W.nsIn K aT "pour" = some (some (.int 3 t2))
  n3 : PySem.W.nsIn K aT "scoop" = some (some (.int 3 t3))
  n4 : PySem.W.nsIn K aT "move" = some (some (.int 4 t4))
  n5 : PySem.W.nsIn K aT "unless" = some (some (.int 3 t5))
def spAsc : Sp := fun vs H Q _ => ∃ (l : Addr) (ks : List Int), vs = [.ref l] ∧ Li H l ks ∧ 2 ≤ ks.length ∧ ks.length ≤ 20 ∧ (∀ (i : Nat) (x y : Int), ks[i]? = some x → ks[i + 1]? = some y → x < y) ∧ Evl.RetV (.bl true) H Q
def spStep : Sp := fun vs H Q _ => ∃ (a : Addr) (d : Deed) (n : Int), vs = [.ref a] ∧ DAt H a d ∧ okD n d ∧ Evl.RetV (.bl true) H Q
section
variable {base : Heap} {mg : Str → Option Value} {K : PySem.W.Frag} {w : World} {P : Program} {aT : Addr} {es : Array DictEntry} {nT : Nat} {t1 t2 t3 t4 t5 : Tok}
theorem ok_is_ascending {f : Addr} {fd : FuncData} (F : Fun K "is_ascending" "is_ascending" s_is_ascending f fd) (T : T3 mg) (mR : mg "range" = none) (cI : Cal P w K mg base 1 "is_integer" p_is_integer spInt) : FnOk P w K mg base CX0 2 f fd p_is_ascending spAsc := by
  refine F.ok sc_is_ascending (fun vs H Q E h => ?_) (fun cdv A outer s H vs Q E hr h => ?_)
  · obtain ⟨l, ks, rfl, _⟩ := h
    rfl
  · obtain ⟨l, ks, rfl, hl, h2, h20, hasc, k⟩ := h
    have nd := sc_is_ascending.nd
    refine ⟨_, pss_cons (ps_if (PW.pt (pw_or (pt_not (pt_val (pe_callB call_isi (by rfl) T.isi (by decide +kernel) (pa_cons (pv 0) (pa_cons (pe_bltn (v := .ty "list") (by rfl) T.lst (by decide +kernel) rfl) pa_nil)))))
        (pw_or (pt_cmpR op_lt (pe_callB call_len_seq (by rfl) T.len PySem.boot_len (pa_cons (pv 0) pa_nil)) pe_int (nomark _))
        (pw_or1 (pt_not (pt_val (pe_callB (cr_all rfl) (by rfl) T.all (by decide +kernel) (pa_cons (pe_lc (own := [("number", 1)]) (g := gName 1) (tt := tYes) (te := tCall spInt [] E0 (tCons (tVar 1) tNil)) rfl nd (pi_list (pv 0)) (blkOk_by (N := n_is_ascending) (sc := defScope s_is_ascending) (by decide +kernel)) (fun _ _ _ _ _ => pg_name (i := 1) nd rfl (Or.inl rfl)) (fun _ _ _ _ _ => pts_nil)
          (fun _ _ _ _ _ => pe_c cI hr (pa_cons (pv 1) pa_nil))) pa_nil)))))))) (pss_one (ps_ret pe_bl)) pss_nil)
      (pss_one (ps_ret (pe_callB (cr_all rfl) (by rfl) T.all (by decide +kernel) (pa_cons (pe_lc (own := [("k", 2)]) (g := gName 2) (tt := tYes) (te := tOp (rI0 fun i j => .bl (decide (i < j))) (tOp (rIxL K) (tVar 0) (tVar 2)) (tOp (rIxL K) (tVar 0) (tOp (rI0 fun i j => .int (i + j)) (tVar 2) (tC (.int 1))))) rfl nd (pi_range1 (by rfl) mR (pa_cons (pe_op op_sub (pe_callB call_len_seq (by rfl) T.len PySem.boot_len (pa_cons (pv 0) pa_nil)) pe_int) pa_nil)) (blkOk_by (N := n_is_ascending) (sc := defScope s_is_ascending) (by decide +kernel)) (fun _ _ _ _ _ => pg_name (i := 2) nd rfl (Or.inl rfl)) (fun _ _ _ _ _ => pts_nil)
          (fun _ _ _ _ _ => pe_cmpR op_lt (pe_ix ix_list (pv 0) (pv 2) (fun _ _ => rfl)) (pe_ix ix_list (pv 0) (pe_op op_add (pv 2) pe_int) (fun _ _ => rfl)) (nomark _))) pa_nil)))), ?_⟩
    refine ⟨_, rfl, _, _, _, _, true, rfl, .ty "list", .base (.lst hl), kit_ty (by decide +kernel), true, rfl, if_f rfl ?_⟩
    refine ⟨_, rfl, l, _, rfl, .inl hl.sq, _, _, rfl, rfl, _, rfl, if_f (decide_eq_false (by rw [iV_len]; omega)) ?_⟩
    refine ⟨_, rfl, l, rfl, ⟨_, hl.sq⟩, fun D hD => lc_list (xs := iV ks) (fun i H' => Evl.Ex H H' ∧ H' D = some (.lst (List.replicate i (.bl true)))) ⟨Evl.Ex.new hD, upd_same⟩ (fun i H' _ q => SqL.of (q.1 _ _ hl)) ?_ ?_⟩
    · rintro i x H' hi ⟨e1, h1⟩
      obtain ⟨n, hn, rfl⟩ := iV_get hi
      have hlt : i < ks.length := (List.getElem?_eq_some_iff.mp hn).1
      refine ⟨rfl, ?_⟩
      show tCall spInt [] E0 (tCons (tVar 1) tNil) _ _ _
      refine ⟨_, rfl, n, rfl, fun H2 e2 => ⟨_, e2 _ _ h1, ?_, ?_, ?_⟩⟩
      · rw [List.length_replicate]; exact Nat.lt_of_lt_of_le (show i < 100 by omega) (by decide)
      · exact Evl.Ex.mut (e1.trans e2) hD
      · rw [upd_same, rep_snoc]
    · rintro H1 ⟨e1, h1⟩
      rw [iV_len] at h1
      refine ⟨D, List.replicate ks.length true, rfl, SqL.of (by rw [h1, List.map_replicate]), true, by simp, if_f rfl ?_⟩
      have hl1 : Li H1 l ks := e1 _ _ hl
      refine ⟨_, rfl, l, _, rfl, .inl hl1.sq, _, _, rfl, rfl, _, rfl, ?_, ?_, fun D2 hD2 => ?_⟩
      · rw [iV_len]; omega
      · rw [iV_len]; omega
      have en : (((iV ks).length : Int) - 1).toNat = ks.length - 1 := by rw [iV_len]; omega
      refine lc_range (n := (((iV ks).length : Int) - 1).toNat) (fun i H' => Evl.Ex H1 H' ∧ H' D2 = some (.lst (List.replicate i (.bl true)))) ⟨Evl.Ex.new hD2, upd_same⟩ ?_ ?_
      · rintro i H2 hi ⟨e2, h2'⟩
        rw [en] at hi
        obtain ⟨xa, g1⟩ : ∃ x, ks[i]? = some x := ⟨_, List.getElem?_eq_getElem (by omega)⟩
        obtain ⟨xb, g2⟩ : ∃ x, ks[i + 1]? = some x := ⟨_, List.getElem?_eq_getElem (by omega)⟩
        refine ⟨rfl, ?_⟩
        show tOp (rI0 fun i j => .bl (decide (i < j))) (tOp (rIxL K) (tVar 0) (tVar 2)) (tOp (rIxL K) (tVar 0) (tOp (rI0 fun i j => .int (i + j)) (tVar 2) (tC (.int 1)))) _ _ _
        refine ⟨_, rfl, _, rfl, l, _, _, _, rfl, rfl, SqL.of (e2 _ _ hl1), by rw [Int.zero_add]; exact atI_nat (iV_at g1), ?_⟩
        refine ⟨_, rfl, _, rfl, _, _, rfl, rfl, l, _, _, .int xb, rfl, rfl, SqL.of (e2 _ _ hl1), ?_, _, _, rfl, rfl, _, h2', ?_, Evl.Ex.mut e2 hD2, ?_⟩
        · show atI _ (0 + (i : Int) + 1) = _
          rw [show (0 + (i : Int) + 1) = ((i + 1 : Nat) : Int) by omega]
          exact atI_nat (iV_at g2)
        · rw [List.length_replicate]; exact Nat.lt_of_lt_of_le (show i < 100 by omega) (by decide)
        · rw [upd_same]
          show some (HO.lst (List.replicate i (V.bl true) ++ [V.bl (decide (xa < xb))])) = _
          rw [decide_eq_true (hasc i _ _ g1 g2), rep_snoc]
      · rintro H2 ⟨e2, h2'⟩
        rw [en] at h2'
        refine ⟨D2, List.replicate (ks.length - 1) true, rfl, SqL.of (by rw [h2', List.map_replicate]), ?_⟩
        have e : (List.replicate (ks.length - 1) true).all id = true := by simp
        rw [e]
        exact k _ (e1.trans e2)
theorem ok_is_step {f : Addr} {fd : FuncData} (F : Fun K "is_step" "is_step" s_is_step f fd) (T : T3 mg) (mS : mg "str" = none) (th : Th K w mg aT es nT t1 t2 t3 t4 t5) (cA : Cal P w K mg base 2 "is_ascending" p_is_ascending spAsc) (cM : Cal P w K mg base 2 "is_amount" p_is_amount spAmt) : FnOk P w K mg base CX0 3 f fd p_is_step spStep := by
  refine F.ok sc_is_step (fun vs H Q E h => ?_) (fun cdv A outer s H vs Q E hr h => ?_)
  · obtain ⟨a, d, n, rfl, _⟩ := h
    rfl
  · obtain ⟨a, d, n, rfl, hd, hok, k⟩ := h
    have nd := sc_is_step.nd
    refine ⟨_, pss_cons (ps_if (PW.pt (pw_or (pt_not (pt_val (pe_callB call_isi (by rfl) T.isi (by decide +kernel) (pa_cons (pv 0) (pa_cons (pe_bltn (v := .ty "tuple") (by rfl) T.tup (by decide +kernel) rfl) pa_nil)))))
        (pw_or (pt_not (pt_truth (pv 0) (by intro _; rfl)))
        (pw_or (pt_not (pt_val (pe_callB call_isi (by rfl) T.isi (by decide +kernel) (pa_cons (pe_ix ix_tup (pv 0) pe_int (fun _ _ => rfl)) (pa_cons (pe_bltn (v := .ty "str") (by rfl) mS (by decide +kernel) rfl) pa_nil)))))
        (pw_or1 (pt_cmpR (op_notIn_kd th.D) (pe_ix ix_tup (pv 0) pe_int (fun _ _ => rfl)) (pe_glob (v := .ref aT) (by rfl) th.g rfl) (by rfl))))))) (pss_one (ps_ret pe_bl)) pss_nil)
      (pss_cons (ps_set (i := 1) nd rfl (Or.inl rfl) (pe_ix ix_tup (pv 0) pe_int (fun _ _ => rfl)))
      (pss_cons (ps_if (pt_cmpR op_ne (pe_callB call_len_seq (by rfl) T.len PySem.boot_len (pa_cons (pv 0) pa_nil)) (pe_ix ix_kdict (pe_glob (v := .ref aT) (by rfl) th.g rfl) (pv 1) (fun _ _ => rfl)) (nomark _)) (pss_one (ps_ret pe_bl)) pss_nil)
      (pss_cons (ps_if (pt_cmpR op_eq (pv 1) pe_str (nomark _)) (pss_one (ps_ret (pe_c cA hr (pa_cons (pe_ix ix_tup (pv 0) pe_int (fun _ _ => rfl)) pa_nil)))) pss_nil)
      (pss_cons (ps_if (pt_cmpR op_eq (pv 1) pe_str (nomark _)) (pss_one (ps_ret (pe_c cM hr (pa_cons (pe_ix ix_tup (pv 0) pe_int (fun _ _ => rfl)) pa_nil)))) pss_nil)
      (pss_one (ps_ret (pe_or (pe_cmpR op_eq (pv 1) pe_str (nomark _)) (pe_one (pe_cmpR op_ne (pe_ix ix_tup (pv 0) pe_int (fun _ _ => rfl)) (pe_ix ix_tup (pv 0) pe_int (fun _ _ => rfl)) (nomark _)))))))))), ?_⟩
    cases d with
    | op ks =>
      obtain ⟨l, ha, hl⟩ := hd
      obtain ⟨h2, h20, hasc, _⟩ := hok
      refine ⟨_, rfl, _, _, _, _, true, rfl, .ty "tuple", .base (.tup ha), kit_ty (by decide +kernel), true, rfl, if_f rfl ?_⟩
      refine ⟨_, rfl, _, .inr (.inl ⟨_, SqT.of ha, rfl⟩), if_f rfl ?_⟩
      refine ⟨_, rfl, a, _, _, _, rfl, rfl, SqT.of ha, rfl, _, _, _, _, true, rfl, .ty "str", .base (.str _), kit_ty (by decide +kernel), true, rfl, if_f rfl ?_⟩
      refine ⟨_, rfl, a, _, _, _, rfl, rfl, SqT.of ha, rfl, _, _, rfl, rfl, th.n1, _, rfl, if_f rfl ?_⟩
      refine ⟨_, rfl, a, _, _, _, rfl, rfl, SqT.of ha, rfl, ?_⟩
      refine ⟨_, rfl, a, _, rfl, .inr (SqT.of ha), _, rfl, aT, _, .int 2, rfl, rfl, ⟨_, _, _, th.D.at_, th.D.lit, th.n1, ⟨_, rfl⟩⟩, rfl, _, rfl, if_f rfl ?_⟩
      refine ⟨_, rfl, rfl, _, rfl, if_t (by decide) ?_⟩
      exact ⟨_, rfl, a, _, _, _, rfl, rfl, SqT.of ha, rfl, l, ks, rfl, hl, h2, h20, hasc, k⟩
    | po j x =>
      have ha : H a = some (.tup [.str "pour", .int j, .int x]) := hd
      refine ⟨_, rfl, _, _, _, _, true, rfl, .ty "tuple", .base (.tup ha), kit_ty (by decide +kernel), true, rfl, if_f rfl ?_⟩
      refine ⟨_, rfl, _, .inr (.inl ⟨_, SqT.of ha, rfl⟩), if_f rfl ?_⟩
      refine ⟨_, rfl, a, _, _, _, rfl, rfl, SqT.of ha, rfl, _, _, _, _, true, rfl, .ty "str", .base (.str _), kit_ty (by decide +kernel), true, rfl, if_f rfl ?_⟩
      refine ⟨_, rfl, a, _, _, _, rfl, rfl, SqT.of ha, rfl, _, _, rfl, rfl, th.n2, _, rfl, if_f rfl ?_⟩
      refine ⟨_, rfl, a, _, _, _, rfl, rfl, SqT.of ha, rfl, ?_⟩
      refine ⟨_, rfl, a, _, rfl, .inr (SqT.of ha), _, rfl, aT, _, .int 3, rfl, rfl, ⟨_, _, _, th.D.at_, th.D.lit, th.n2, ⟨_, rfl⟩⟩, rfl, _, rfl, if_f rfl ?_⟩
      refine ⟨_, rfl, rfl, _, rfl, if_f (by decide) ?_⟩
      refine ⟨_, rfl, rfl, _, rfl, if_t (by decide) ?_⟩
      exact ⟨_, rfl, a, _, _, _, rfl, rfl, SqT.of ha, rfl, x, rfl, hok.2, k⟩
    | sc j p q =>
      obtain ⟨g, ha, hg⟩ := hd
      refine ⟨_, rfl, _, _, _, _, true, rfl, .ty "tuple", .base (.tup ha), kit_ty (by decide +kernel), true, rfl, if_f rfl ?_⟩
      refine ⟨_, rfl, _, .inr (.inl ⟨_, SqT.of ha, rfl⟩), if_f rfl ?_⟩
      refine ⟨_, rfl, a, _, _, _, rfl, rfl, SqT.of ha, rfl, _, _, _, _, true, rfl, .ty "str", .base (.str _), kit_ty (by decide +kernel), true, rfl, if_f rfl ?_⟩
      refine ⟨_, rfl, a, _, _, _, rfl, rfl, SqT.of ha, rfl, _, _, rfl, rfl, th.n3, _, rfl, if_f rfl ?_⟩
      refine ⟨_, rfl, a, _, _, _, rfl, rfl, SqT.of ha, rfl, ?_⟩
      refine ⟨_, rfl, a, _, rfl, .inr (SqT.of ha), _, rfl, aT, _, .int 3, rfl, rfl, ⟨_, _, _, th.D.at_, th.D.lit, th.n3, ⟨_, rfl⟩⟩, rfl, _, rfl, if_f rfl ?_⟩
      refine ⟨_, rfl, rfl, _, rfl, if_f (by decide) ?_⟩
      refine ⟨_, rfl, rfl, _, rfl, if_f (by decide) ?_⟩
      refine ⟨_, rfl, rfl, _, rfl, if_t (by decide) (k _ (Evl.Ex.refl _))⟩
    | mv j m p q =>
      obtain ⟨g, ha, hg⟩ := hd
      refine ⟨_, rfl, _, _, _, _, true, rfl, .ty "tuple", .base (.tup ha), kit_ty (by decide +kernel), true, rfl, if_f rfl ?_⟩
      refine ⟨_, rfl, _, .inr (.inl ⟨_, SqT.of ha, rfl⟩), if_f rfl ?_⟩
      refine ⟨_, rfl, a, _, _, _, rfl, rfl, SqT.of ha, rfl, _, _, _, _, true, rfl, .ty "str", .base (.str _), kit_ty (by decide +kernel), true, rfl, if_f rfl ?_⟩
      refine ⟨_, rfl, a, _, _, _, rfl, rfl, SqT.of ha, rfl, _, _, rfl, rfl, th.n4, _, rfl, if_f rfl ?_⟩
      refine ⟨_, rfl, a, _, _, _, rfl, rfl, SqT.of ha, rfl, ?_⟩
      refine ⟨_, rfl, a, _, rfl, .inr (SqT.of ha), _, rfl, aT, _, .int 4, rfl, rfl, ⟨_, _, _, th.D.at_, th.D.lit, th.n4, ⟨_, rfl⟩⟩, rfl, _, rfl, if_f rfl ?_⟩
      refine ⟨_, rfl, rfl, _, rfl, if_f (by decide) ?_⟩
      refine ⟨_, rfl, rfl, _, rfl, if_f (by decide) ?_⟩
      refine ⟨_, rfl, rfl, _, rfl, if_f (by decide) ?_⟩
      refine ⟨_, rfl, a, _, _, _, rfl, rfl, SqT.of ha, rfl, _, rfl, a, _, _, _, rfl, rfl, SqT.of ha, rfl, rfl, ?_⟩
      have e : (!decide (V.int j = V.int m)) = true := by
        rw [decide_eq_false fun z => hok.2.2.1 (by injection z)]
        rfl
      rw [e]
      exact k _ (Evl.Ex.refl _)
    | un j m =>
      have ha : H a = some (.tup [.str "unless", .int j, .int m]) := hd
      refine ⟨_, rfl, _, _, _, _, true, rfl, .ty "tuple", .base (.tup ha), kit_ty (by decide +kernel), true, rfl, if_f rfl ?_⟩
      refine ⟨_, rfl, _, .inr (.inl ⟨_, SqT.of ha, rfl⟩), if_f rfl ?_⟩
      refine ⟨_, rfl, a, _, _, _, rfl, rfl, SqT.of ha, rfl, _, _, _, _, true, rfl, .ty "str", .base (.str _), kit_ty (by decide +kernel), true, rfl, if_f rfl ?_⟩
      refine ⟨_, rfl, a, _, _, _, rfl, rfl, SqT.of ha, rfl, _, _, rfl, rfl, th.n5, _, rfl, if_f rfl ?_⟩
      refine ⟨_, rfl, a, _, _, _, rfl, rfl, SqT.of ha, rfl, ?_⟩
      refine ⟨_, rfl, a, _, rfl, .inr (SqT.of ha), _, rfl, aT, _, .int 3, rfl, rfl, ⟨_, _, _, th.D.at_, th.D.lit, th.n5, ⟨_, rfl⟩⟩, rfl, _, rfl, if_f rfl ?_⟩
      refine ⟨_, rfl, rfl, _, rfl, if_f (by decide) ?_⟩
      refine ⟨_, rfl, rfl, _, rfl, if_f (by decide) ?_⟩
      refine ⟨_, rfl, rfl, _, rfl, if_f (by decide) ?_⟩
      refine ⟨_, rfl, a, _, _, _, rfl, rfl, SqT.of ha, rfl, _, rfl, a, _, _, _, rfl, rfl, SqT.of ha, rfl, rfl, ?_⟩
      have e : (!decide (V.int j = V.int m)) = true := by
        rw [decide_eq_false fun z => hok.2.2 (by injection z)]
        rfl
      rw [e]
      exact k _ (Evl.Ex.refl _)
end
end V2


namespace V2
open PySem L2
open PySem.Spec PyProof.Rows
def sgn (x : Int) : Int := if x = 0 then 0 else if x > 0 then 1 else -1
theorem sgn_le {x : Int} (h : x ≤ 0) : sgn x ≤ 0 := by
  unfold sgn
  split
  · omega
  · split <;> omega
def spSgn : Sp := fun vs H Q _ => ∃ x : Int, vs = [.int x] ∧ Evl.RetV (.int (sgn x)) H Q
def spOrd : Sp := fun vs H Q _ => ∃ (a b : Addr) (p q x y : Int), vs = [.ref a, .ref b] ∧ Fr H a p q ∧ Fr H b x y ∧ p.natAbs < 2 ^ 50 ∧ q.natAbs < 2 ^ 50 ∧ x.natAbs < 2 ^ 50 ∧ y.natAbs < 2 ^ 50 ∧ Evl.RetV (.int (sgn (p * y - x * q))) H Q
def spTof (n : Int) : Sp := fun vs H Q _ => ∃ (a : Addr) (d : Deed), vs = [.ref a] ∧ DAt H a d ∧ okD n d ∧ ∀ (l : Addr) (ks : List Int) (H' : Hp), Evl.Ex H H' → Li H' l ks → ks.length ≤ 20 → (∀ k ∈ ks, 0 ≤ k ∧ k < n) → Q (.ref l) H'
def spNums : Sp := fun vs H Q _ => ∃ (l : Addr) (ks : List Int) (n : Int), vs = [.ref l, .int n] ∧ Li H l ks ∧ ks.length ≤ 20 ∧ (∀ k ∈ ks, 0 ≤ k ∧ k < n) ∧ Evl.RetV .non H Q
def spPart : Sp := fun vs H Q _ => ∃ (a : Addr) (p q : Int), vs = [.ref a] ∧ Fr H a p q ∧ Pt p q ∧ Evl.RetV .non H Q
def spChkS : Sp := fun vs H Q _ => ∃ (a : Addr) (d : Deed) (n : Int), vs = [.ref a, .int n] ∧ DAt H a d ∧ okD n d ∧ Evl.RetV .non H Q
section
variable {base : Heap} {mg : Str → Option Value} {K : PySem.W.Frag} {w : World} {P : Program} {aT : Addr} {es : Array DictEntry} {nT : Nat} {t1 t2 t3 t4 t5 : Tok}
theorem ok_sign_of {f : Addr} {fd : FuncData} (F : Fun K "sign_of" "sign_of" s_sign_of f fd) : FnOk P w K mg base CX0 1 f fd p_sign_of spSgn := by
  refine F.ok sc_sign_of (fun vs H Q E h => ?_) (fun cdv A outer s H vs Q E hr h => ?_)
  · obtain ⟨x, rfl, _⟩ := h
    rfl
  · obtain ⟨x, rfl, k⟩ := h
    refine ⟨_, pss_cons (ps_if (pt_cmpR op_eq (pv 0) pe_int (nomark _)) (pss_one (ps_ret pe_int)) pss_nil) (pss_one (ps_ret (pe_ifExp (pt_cmpR op_gt (pv 0) pe_int (nomark _)) pe_int (pe_un un_neg pe_int)))), ?_⟩
    refine ⟨_, rfl, rfl, _, rfl, ?_⟩
    unfold sgn at k
    by_cases h0 : x = 0
    · refine if_t (decide_eq_true (by rw [h0])) ?_
      rw [if_pos h0] at k
      exact k _ (Evl.Ex.refl _)
    · refine if_f (decide_eq_false (fun z => h0 (by injection z))) ?_
      rw [if_neg h0] at k
      by_cases h1 : x > 0
      · rw [if_pos h1] at k
        exact ⟨_, rfl, _, _, rfl, rfl, _, rfl, if_t (decide_eq_true h1) (k _ (Evl.Ex.refl _))⟩
      · rw [if_neg h1] at k
        exact ⟨_, rfl, _, _, rfl, rfl, _, rfl, if_f (decide_eq_false h1) ⟨_, rfl, k _ (Evl.Ex.refl _)⟩⟩
theorem ok_order {f : Addr} {fd : FuncData} (F : Fun K "order_of_fractions" "order_of_fractions" s_order_of_fractions f fd) (cS : Cal P w K mg base 1 "sign_of" p_sign_of spSgn) : FnOk P w K mg base CX0 2 f fd p_order_of_fractions spOrd := by
  refine F.ok sc_order_of_fractions (fun vs H Q E h => ?_) (fun cdv A outer s H vs Q E hr h => ?_)
  · obtain ⟨a, b, p, q, x, y, rfl, _⟩ := h
    rfl
  · obtain ⟨a, b, p, q, x, y, rfl, ha, hb, h1, h2, h3, h4, k⟩ := h
    refine ⟨_, pss_one (ps_ret (pe_c cS hr (pa_cons (pe_op op_sub (pe_op op_mulW (pe_ix ix_tup (pv 0) pe_int (fun _ _ => rfl)) (pe_ix ix_tup (pv 1) pe_int (fun _ _ => rfl))) (pe_op op_mulW (pe_ix ix_tup (pv 1) pe_int (fun _ _ => rfl)) (pe_ix ix_tup (pv 0) pe_int (fun _ _ => rfl)))) pa_nil))), ?_⟩
    refine ⟨_, rfl, a, _, _, _, rfl, rfl, SqT.of ha, rfl, _, rfl, b, _, _, _, rfl, rfl, SqT.of hb, rfl, p, y, rfl, rfl, wide_mul (a := 50) (b := 50) h1 h4 (by decide) (by decide) (by decide), ?_⟩
    refine ⟨_, rfl, b, _, _, _, rfl, rfl, SqT.of hb, rfl, _, rfl, a, _, _, _, rfl, rfl, SqT.of ha, rfl, x, q, rfl, rfl, wide_mul (a := 50) (b := 50) h3 h2 (by decide) (by decide) (by decide), _, _, rfl, rfl, ?_⟩
    exact ⟨_, rfl, k⟩
theorem ok_tanks_of {n : Int} {f : Addr} {fd : FuncData} (F : Fun K "tanks_of" "tanks_of" s_tanks_of f fd) : FnOk P w K mg base CX0 1 f fd p_tanks_of (spTof n) := by
  refine F.ok sc_tanks_of (fun vs H Q E h => ?_) (fun cdv A outer s H vs Q E hr h => ?_)
  · obtain ⟨a, d, rfl, _⟩ := h
    rfl
  · obtain ⟨a, d, rfl, hd, hok, k⟩ := h
    have one : 1 ≤ sizeLine := by show 1 ≤ sizeLine; decide
    have two : 2 ≤ sizeLine := by show 2 ≤ sizeLine; decide
    refine ⟨_, pss_cons (ps_if (pt_cmpR op_eq (pe_ix ix_tup (pv 0) pe_int (fun _ _ => rfl)) pe_str (nomark _)) (pss_one (ps_ret (pe_ix ix_tup (pv 0) pe_int (fun _ _ => rfl)))) pss_nil)
      (pss_one (ps_ret (pe_ifExp (pt_cmpR op_in_seq (pe_ix ix_tup (pv 0) pe_int (fun _ _ => rfl)) (pe_tup (pa_cons pe_str (pa_cons pe_str pa_nil))) (by rfl))
        (pe_lst (pa_cons (pe_ix ix_tup (pv 0) pe_int (fun _ _ => rfl)) (pa_cons (pe_ix ix_tup (pv 0) pe_int (fun _ _ => rfl)) pa_nil))) (pe_lst (pa_cons (pe_ix ix_tup (pv 0) pe_int (fun _ _ => rfl)) pa_nil))))), ?_⟩
    cases d with
    | op ks =>
      obtain ⟨l, ha, hl⟩ := hd
      refine ⟨_, rfl, a, _, _, _, rfl, rfl, SqT.of ha, rfl, rfl, _, rfl, if_t (by decide) ?_⟩
      exact ⟨_, rfl, a, _, _, _, rfl, rfl, SqT.of ha, rfl, k l ks H (Evl.Ex.refl _) hl hok.2.1 hok.2.2.2⟩
    | po j x =>
      have ha : H a = some (.tup [.str "pour", .int j, .int x]) := hd
      refine ⟨_, rfl, a, _, _, _, rfl, rfl, SqT.of ha, rfl, rfl, _, rfl, if_f (by decide) ?_⟩
      refine ⟨_, rfl, a, _, _, _, rfl, rfl, SqT.of ha, rfl, two, fun t ht => ?_⟩
      have e1 := Evl.Ex.new (o := .tup [.str "move", .str "unless"]) ht
      refine ⟨t, _, rfl, .inr (SqT.of upd_same), rfl, rfl, _, rfl, if_f (by decide) ?_⟩
      refine ⟨_, rfl, a, _, _, _, rfl, rfl, SqT.of (e1 _ _ ha), rfl, one, fun l hl => k l [j] _ (e1.trans (Evl.Ex.new hl)) upd_same (by show 1 ≤ 20; decide) fun z hz => ?_⟩
      obtain rfl := List.mem_singleton.mp hz
      exact hok.1
    | sc j p q =>
      obtain ⟨g, ha, hg⟩ := hd
      refine ⟨_, rfl, a, _, _, _, rfl, rfl, SqT.of ha, rfl, rfl, _, rfl, if_f (by decide) ?_⟩
      refine ⟨_, rfl, a, _, _, _, rfl, rfl, SqT.of ha, rfl, two, fun t ht => ?_⟩
      have e1 := Evl.Ex.new (o := .tup [.str "move", .str "unless"]) ht
      refine ⟨t, _, rfl, .inr (SqT.of upd_same), rfl, rfl, _, rfl, if_f (by decide) ?_⟩
      refine ⟨_, rfl, a, _, _, _, rfl, rfl, SqT.of (e1 _ _ ha), rfl, one, fun l hl => k l [j] _ (e1.trans (Evl.Ex.new hl)) upd_same (by show 1 ≤ 20; decide) fun z hz => ?_⟩
      obtain rfl := List.mem_singleton.mp hz
      exact hok.1
    | mv j m p q =>
      obtain ⟨g, ha, hg⟩ := hd
      refine ⟨_, rfl, a, _, _, _, rfl, rfl, SqT.of ha, rfl, rfl, _, rfl, if_f (by decide) ?_⟩
      refine ⟨_, rfl, a, _, _, _, rfl, rfl, SqT.of ha, rfl, two, fun t ht => ?_⟩
      have e1 := Evl.Ex.new (o := .tup [.str "move", .str "unless"]) ht
      refine ⟨t, _, rfl, .inr (SqT.of upd_same), rfl, rfl, _, rfl, if_t (by decide) ?_⟩
      refine ⟨_, rfl, a, _, _, _, rfl, rfl, SqT.of (e1 _ _ ha), rfl, _, rfl, a, _, _, _, rfl, rfl, SqT.of (e1 _ _ ha), rfl, two, fun l hl => k l [j, m] _ (e1.trans (Evl.Ex.new hl)) upd_same (by show 2 ≤ 20; decide) fun z hz => ?_⟩
      simp only [List.mem_cons, List.not_mem_nil, or_false] at hz
      rcases hz with rfl | rfl
      · exact hok.1
      · exact hok.2.1
    | un j m =>
      have ha : H a = some (.tup [.str "unless", .int j, .int m]) := hd
      refine ⟨_, rfl, a, _, _, _, rfl, rfl, SqT.of ha, rfl, rfl, _, rfl, if_f (by decide) ?_⟩
      refine ⟨_, rfl, a, _, _, _, rfl, rfl, SqT.of ha, rfl, two, fun t ht => ?_⟩
      have e1 := Evl.Ex.new (o := .tup [.str "move", .str "unless"]) ht
      refine ⟨t, _, rfl, .inr (SqT.of upd_same), rfl, rfl, _, rfl, if_t (by decide) ?_⟩
      refine ⟨_, rfl, a, _, _, _, rfl, rfl, SqT.of (e1 _ _ ha), rfl, _, rfl, a, _, _, _, rfl, rfl, SqT.of (e1 _ _ ha), rfl, two, fun l hl => k l [j, m] _ (e1.trans (Evl.Ex.new hl)) upd_same (by show 2 ≤ 20; decide) fun z hz => ?_⟩
      simp only [List.mem_cons, List.not_mem_nil, or_false] at hz
      rcases hz with rfl | rfl
      · exact hok.1
      · exact hok.2.1
theorem ok_check_numbers {f : Addr} {fd : FuncData} (F : Fun K "check_numbers" "check_numbers" s_check_numbers f fd) (cA : Cal P w K mg base 2 "is_amount" p_is_amount spAmt) : FnOk P w K mg base CX0 3 f fd p_check_numbers spNums := by
  refine F.ok sc_check_numbers (fun vs H Q E h => ?_) (fun cdv A outer s H vs Q E hr h => ?_)
  · obtain ⟨l, ks, n, rfl, _⟩ := h
    rfl
  · obtain ⟨l, ks, n, rfl, hl, h20, hks, k⟩ := h
    have nd := sc_check_numbers.nd
    refine ⟨_, pss_one (ps_for PassesOwn.never rfl (pi_list (pv 0)) (pg_name (i := 2) nd rfl (Or.inl rfl)) (pss_one (ps_if (PW.pt (pw_or (pt_not (pt_val (pe_c cA hr (pa_cons (pv 2) pa_nil)))) (pw_or1 (pt_cmpR op_ge (pv 2) (pv 1) (nomark _))))) (pss_one ps_never) pss_nil))), ?_⟩
    refine ⟨_, rfl, l, rfl, ⟨_, hl.sq⟩, for_list (xs := iV ks) (fun i σ H' => Evl.Ex H H' ∧ ∃ v, σ = [some (.ref l), some (.int n), v]) ⟨Evl.Ex.refl _, none, rfl⟩ (fun i σ H' _ q => SqL.of (q.1 _ _ hl)) ?_ ?_⟩
    · rintro i x σ H1 hi ⟨e1, v, rfl⟩
      obtain ⟨z, hz, rfl⟩ := iV_get hi
      obtain ⟨z0, z1⟩ := hks z (List.mem_of_getElem? hz)
      refine ⟨_, rfl, z, rfl, z0, fun H2 e2 => ⟨true, rfl, if_f rfl ?_⟩⟩
      exact ⟨_, rfl, _, rfl, _, _, rfl, rfl, _, rfl, if_f (decide_eq_false (by omega)) ⟨e1.trans e2, _, rfl⟩⟩
    · rintro σ H1 ⟨e1, v, rfl⟩
      exact k _ e1
theorem ok_check_part {f : Addr} {fd : FuncData} (F : Fun K "check_part" "check_part" s_check_part f fd) (cF : Cal P w K mg base 2 "is_fraction" p_is_fraction spIsFr) (cO : Cal P w K mg base 2 "order_of_fractions" p_order_of_fractions spOrd) : FnOk P w K mg base CX0 3 f fd p_check_part spPart := by
  refine F.ok sc_check_part (fun vs H Q E h => ?_) (fun cdv A outer s H vs Q E hr h => ?_)
  · obtain ⟨a, p, q, rfl, _⟩ := h
    rfl
  · obtain ⟨a, p, q, rfl, ha, ⟨p0, pq, hQ⟩, k⟩ := h
    have two : 2 ≤ sizeLine := by show 2 ≤ sizeLine; decide
    refine ⟨_, pss_one (ps_if (PW.pt (pw_or (pt_not (pt_val (pe_c cF hr (pa_cons (pv 0) pa_nil)))) (pw_or (pt_cmpR op_lt (pe_ix ix_tup (pv 0) pe_int (fun _ _ => rfl)) pe_int (nomark _))
      (pw_or1 (pt_cmpR op_gt (pe_c cO hr (pa_cons (pv 0) (pa_cons (pe_tup (pa_cons pe_int (pa_cons pe_int pa_nil))) pa_nil))) pe_int (nomark _)))))) (pss_one ps_never) pss_nil), ?_⟩
    refine ⟨_, rfl, a, p, q, rfl, ha, hQ, fun H1 e1 => ⟨true, rfl, if_f rfl ?_⟩⟩
    refine ⟨_, rfl, a, _, _, _, rfl, rfl, SqT.of (e1 _ _ ha), rfl, _, _, rfl, rfl, _, rfl, if_f (decide_eq_false (by omega)) ?_⟩
    refine ⟨_, rfl, two, fun t ht => ?_⟩
    have e2 := Evl.Ex.new (o := .tup [.int 1, .int 1]) ht
    refine ⟨a, t, p, q, 1, 1, rfl, e2 _ _ (e1 _ _ ha), upd_same, hQ.2.2.1, hQ.2.2.2, by decide, by decide, fun H2 e3 => ⟨_, _, rfl, rfl, _, rfl, if_f (decide_eq_false ?_) (k _ ((e1.trans e2).trans e3))⟩⟩
    have := sgn_le (x := p * 1 - 1 * q) (by omega)
    omega
theorem ok_check_step {f : Addr} {fd : FuncData} (F : Fun K "check_step" "check_step" s_check_step f fd) (cS : Cal P w K mg base 3 "is_step" p_is_step spStep) (cT : ∀ n, Cal P w K mg base 1 "tanks_of" p_tanks_of (spTof n)) (cN : Cal P w K mg base 3 "check_numbers" p_check_numbers spNums) (cP : Cal P w K mg base 3 "check_part" p_check_part spPart) : FnOk P w K mg base CX0 4 f fd p_check_step spChkS := by
  refine F.ok sc_check_step (fun vs H Q E h => ?_) (fun cdv A outer s H vs Q E hr h => ?_)
  · obtain ⟨a, d, n, rfl, _⟩ := h
    rfl
  · obtain ⟨a, d, n, rfl, hd, hok, k⟩ := h
    have two : 2 ≤ sizeLine := by show 2 ≤ sizeLine; decide
    have r1 : Room 1 _ := hr.mono (by decide)
    refine ⟨_, pss_cons (ps_if (pt_not (pt_val (pe_c cS hr (pa_cons (pv 0) pa_nil)))) (pss_one ps_never) pss_nil)
      (pss_cons (ps_expr (pe_c cN hr (pa_cons (pe_c (cT n) r1 (pa_cons (pv 0) pa_nil)) (pa_cons (pv 1) pa_nil))))
      (pss_one (ps_if (pt_cmpR op_in_seq (pe_ix ix_tup (pv 0) pe_int (fun _ _ => rfl)) (pe_tup (pa_cons pe_str (pa_cons pe_str pa_nil))) (by rfl)) (pss_one (ps_expr (pe_c cP hr (pa_cons (pe_ix ix_tup (pv 0) (pe_un un_neg pe_int) (fun _ _ => rfl)) pa_nil)))) pss_nil))), ?_⟩
    refine ⟨_, rfl, a, d, n, rfl, hd, hok, fun H1 e1 => ⟨true, rfl, if_f rfl ?_⟩⟩
    refine ⟨_, rfl, a, d, rfl, hd.ex e1, hok, fun l ks H2 e2 hl h20 hks => ⟨_, rfl, l, ks, n, rfl, hl, h20, hks, fun H3 e3 => ?_⟩⟩
    have e13 := (e1.trans e2).trans e3
    cases d with
    | op ks =>
      obtain ⟨l, ha, hl⟩ := hd
      refine ⟨_, rfl, a, _, _, _, rfl, rfl, SqT.of (e13 _ _ ha), rfl, two, fun t ht => ⟨t, _, rfl, .inr (SqT.of upd_same), rfl, rfl, _, rfl, if_f (by decide) (k _ (e13.trans (Evl.Ex.new ht)))⟩⟩
    | po j x =>
      have ha : H a = some (.tup [.str "pour", .int j, .int x]) := hd
      refine ⟨_, rfl, a, _, _, _, rfl, rfl, SqT.of (e13 _ _ ha), rfl, two, fun t ht => ⟨t, _, rfl, .inr (SqT.of upd_same), rfl, rfl, _, rfl, if_f (by decide) (k _ (e13.trans (Evl.Ex.new ht)))⟩⟩
    | sc j p q =>
      obtain ⟨g, ha, hg⟩ := hd
      refine ⟨_, rfl, a, _, _, _, rfl, rfl, SqT.of (e13 _ _ ha), rfl, two, fun t ht => ⟨t, _, rfl, .inr (SqT.of upd_same), rfl, rfl, _, rfl, if_t (by decide) ?_⟩⟩
      have e4 := e13.trans (Evl.Ex.new (o := .tup [.str "scoop", .str "move"]) ht)
      exact ⟨_, rfl, _, rfl, a, _, _, _, rfl, rfl, SqT.of (e4 _ _ ha), rfl, g, p, q, rfl, e4 _ _ hg, hok.2, fun H5 e5 => k _ (e4.trans e5)⟩
    | mv j m p q =>
      obtain ⟨g, ha, hg⟩ := hd
      refine ⟨_, rfl, a, _, _, _, rfl, rfl, SqT.of (e13 _ _ ha), rfl, two, fun t ht => ⟨t, _, rfl, .inr (SqT.of upd_same), rfl, rfl, _, rfl, if_t (by decide) ?_⟩⟩
      have e4 := e13.trans (Evl.Ex.new (o := .tup [.str "scoop", .str "move"]) ht)
      exact ⟨_, rfl, _, rfl, a, _, _, _, rfl, rfl, SqT.of (e4 _ _ ha), rfl, g, p, q, rfl, e4 _ _ hg, hok.2.2.2, fun H5 e5 => k _ (e4.trans e5)⟩
    | un j m =>
      have ha : H a = some (.tup [.str "unless", .int j, .int m]) := hd
      refine ⟨_, rfl, a, _, _, _, rfl, rfl, SqT.of (e13 _ _ ha), rfl, two, fun t ht => ⟨t, _, rfl, .inr (SqT.of upd_same), rfl, rfl, _, rfl, if_f (by decide) (k _ (e13.trans (Evl.Ex.new ht)))⟩⟩
end
end V2


namespace V2
open PySem L2
open PySem.Spec PyProof.Rows
/-! ## scripts -/
def DObj : HO → Prop
  | .lst _ => True
  | .tup _ => True
  | .dK _ => True
  | _ => False
mutual
theorem Dq.keep {H H' : Hp} (e : ∀ b o, DObj o → H b = some o → H' b = some o) : ∀ {d : PyData} {v : V}, Dq H v d → Dq H' v d
  | _, _, .non => .non
  | _, _, .bl b => .bl b
  | _, _, .int i => .int i
  | _, _, .str x => .str x
  | _, _, .lst h r => .lst (e _ _ trivial h) (DqAll.keep e r)
  | _, _, .tup h r => .tup (e _ _ trivial h) (DqAll.keep e r)
  | _, _, .dct h r => .dct (e _ _ trivial h) (Dq.keep e r)
theorem DqAll.keep {H H' : Hp} (e : ∀ b o, DObj o → H b = some o → H' b = some o) : ∀ {ds : List PyData} {vs : List V}, DqAll H vs ds → DqAll H' vs ds
  | _, _, .nil => .nil
  | _, _, .cons a b => .cons (Dq.keep e a) (DqAll.keep e b)
end
theorem keep_ins {H H' : Hp} {x C dx : Addr} {fs : List (Str × V)} (hx : H x = some (.ins C dx fs)) (b : But x H H') : ∀ c o, DObj o → H c = some o → H' c = some o := fun c o d h => b c o (fun z => by
  rw [z, hx] at h
  cases h
  exact d) h
theorem cp_ints {n : Nat} {ks : List Int} (h : ks.length ≤ 100) : Cp (n + 1) (.list (ks.map .int)) := .lst (by rw [List.length_map]; exact h) fun d hd => by
  obtain ⟨t, _, rfl⟩ := List.mem_map.mp hd
  exact .int t
theorem cp_dD {d : Deed} {n : Int} (h : okD n d) : Cp 2 (dD d) := by
  cases d with
  | op ks =>
    refine .tup (by show 2 ≤ 100; decide) fun x hx => ?_
    simp only [List.mem_cons, List.not_mem_nil, or_false] at hx
    rcases hx with rfl | rfl
    · exact .str _
    · exact cp_ints (Nat.le_trans h.2.1 (by decide))
  | po k a =>
    refine .tup (by show 3 ≤ 100; decide) fun x hx => ?_
    simp only [List.mem_cons, List.not_mem_nil, or_false] at hx
    rcases hx with rfl | rfl | rfl
    · exact .str _
    · exact .int _
    · exact .int _
  | sc k p q =>
    refine .tup (by show 3 ≤ 100; decide) fun x hx => ?_
    simp only [List.mem_cons, List.not_mem_nil, or_false] at hx
    rcases hx with rfl | rfl | rfl
    · exact .str _
    · exact .int _
    · exact .tup (by show 2 ≤ 100; decide) fun y hy => by
        simp only [List.mem_cons, List.not_mem_nil, or_false] at hy
        rcases hy with rfl | rfl
        · exact .int _
        · exact .int _
  | mv k m p q =>
    refine .tup (by show 4 ≤ 100; decide) fun x hx => ?_
    simp only [List.mem_cons, List.not_mem_nil, or_false] at hx
    rcases hx with rfl | rfl | rfl | rfl
    · exact .str _
    · exact .int _
    · exact .int _
    · exact .tup (by show 2 ≤ 100; decide) fun y hy => by
        simp only [List.mem_cons, List.not_mem_nil, or_false] at hy
        rcases hy with rfl | rfl
        · exact .int _
        · exact .int _
  | un k m =>
    refine .tup (by show 3 ≤ 100; decide) fun x hx => ?_
    simp only [List.mem_cons, List.not_mem_nil, or_false] at hx
    rcases hx with rfl | rfl | rfl
    · exact .str _
    · exact .int _
    · exact .int _
theorem cp_deeds {ds : List Deed} {n : Int} (h : ∀ d ∈ ds, okD n d) (hl : ds.length ≤ 100) : Cp 3 (.list (ds.map dD)) := .lst (by rw [List.length_map]; exact hl) fun d hd => by
  obtain ⟨t, ht, rfl⟩ := List.mem_map.mp hd
  exact cp_dD (h t ht)
theorem dq_ints {H : Hp} : ∀ {ks : List Int} {vs : List V}, DqAll H vs (ks.map .int) → vs = iV ks
  | [], _, .nil => rfl
  | k :: ks, _, .cons a b => by
    cases a
    rw [dq_ints b]
    rfl
theorem dq_deed {H : Hp} {v : V} {d : Deed} (h : Dq H v (dD d)) : ∃ a, v = .ref a ∧ DAt H a d := by
  cases d with
  | op ks =>
    cases h with
    | tup h1 h2 =>
      cases h2 with
      | cons a b =>
        cases a
        cases b with
        | cons b c =>
          cases c
          cases b with
          | lst h3 h4 =>
            rw [dq_ints h4] at h3
            exact ⟨_, rfl, _, h1, h3⟩
  | po k x =>
    cases h with
    | tup h1 h2 =>
      cases h2 with
      | cons a b =>
        cases a
        cases b with
        | cons b c =>
          cases b
          cases c with
          | cons c e =>
            cases c
            cases e
            exact ⟨_, rfl, h1⟩
  | sc k p q =>
    cases h with
    | tup h1 h2 =>
      cases h2 with
      | cons a b =>
        cases a
        cases b with
        | cons b c =>
          cases b
          cases c with
          | cons c e =>
            cases e
            cases c with
            | tup h3 h4 =>
              rw [dq_ints (ks := [p, q]) h4] at h3
              exact ⟨_, rfl, _, h1, h3⟩
  | mv k m p q =>
    cases h with
    | tup h1 h2 =>
      cases h2 with
      | cons a b =>
        cases a
        cases b with
        | cons b c =>
          cases b
          cases c with
          | cons c e =>
            cases c
            cases e with
            | cons e g =>
              cases g
              cases e with
              | tup h3 h4 =>
                rw [dq_ints (ks := [p, q]) h4] at h3
                exact ⟨_, rfl, _, h1, h3⟩
  | un k m =>
    cases h with
    | tup h1 h2 =>
      cases h2 with
      | cons a b =>
        cases a
        cases b with
        | cons b c =>
          cases b
          cases c with
          | cons c e =>
            cases c
            cases e
            exact ⟨_, rfl, h1⟩
/-- the steps that stand in a list -/
def DsAt (H : Hp) (l : Addr) (ds : List Deed) : Prop := ∃ as : List Addr, H l = some (.lst (as.map V.ref)) ∧ as.length = ds.length ∧ ∀ (i : Nat) (a : Addr) (d : Deed), as[i]? = some a → ds[i]? = some d → DAt H a d
theorem DsAt.ex {H H' : Hp} {l : Addr} {ds : List Deed} (h : DsAt H l ds) (e : Evl.Ex H H') : DsAt H' l ds := by
  obtain ⟨as, h1, h2, h3⟩ := h
  exact ⟨as, e _ _ h1, h2, fun i a t x y => (h3 i a t x y).ex e⟩
theorem dq_deeds {H : Hp} : ∀ {ds : List Deed} {vs : List V}, DqAll H vs (ds.map dD) → ∃ as : List Addr, vs = as.map V.ref ∧ as.length = ds.length ∧ ∀ (i : Nat) (a : Addr) (d : Deed), as[i]? = some a → ds[i]? = some d → DAt H a d
  | [], _, .nil => ⟨[], rfl, rfl, fun i a t h => (by cases h)⟩
  | t :: ts, _, .cons a b => by
    obtain ⟨x, rfl, hx⟩ := dq_deed a
    obtain ⟨as, rfl, h2, h3⟩ := dq_deeds b
    refine ⟨x :: as, rfl, congrArg Nat.succ h2, fun i a t' h1 h2 => ?_⟩
    cases i with
    | zero =>
      cases h1
      cases h2
      exact hx
    | succ i => exact h3 i a t' h1 h2
theorem Dq.deeds {H : Hp} {v : V} {ds : List Deed} (h : Dq H v (.list (ds.map dD))) : ∃ l, v = .ref l ∧ DsAt H l ds := by
  cases h with
  | lst h1 h2 =>
    obtain ⟨as, rfl, h3, h4⟩ := dq_deeds h2
    exact ⟨_, rfl, as, h1, h3, h4⟩
structure ScC (K : PySem.W.Frag) (C fI fT fS pT pS : Addr) : Prop where
  cls : Cls K C
  na1 : NoAttr K C "_tanks"
  na2 : NoAttr K C "_steps"
  mkI : Mk K C fI
  prT : PropOf K C "tanks" pT fT
  prS : PropOf K C "steps" pS fS
/-- a script's shape that is right -/
def okS (ts : List Tk) (ds : List Deed) : Prop := okT ts ∧ ds.length ≤ 60 ∧ ∀ d ∈ ds, okD ts.length d
def spScI (C : Addr) : Sp := fun vs H Q _ => ∃ (x dx : Addr) (v u : V) (ts : List Tk) (ds : List Deed), vs = [.ref x, v, u] ∧ H x = some (.ins C dx []) ∧ Dq H v (.list (ts.map tkD)) ∧ Dq H u (.list (ds.map dD)) ∧ okS ts ds ∧
  ∀ (v' u' : V) (fs : List (Str × V)) (H' : Hp), But x H H' → H' x = some (.ins C dx fs) → fs.lookup ("_tanks" : Str) = some v' → fs.lookup ("_steps" : Str) = some u' → Dq H' v' (.list (ts.map tkD)) → Dq H' u' (.list (ds.map dD)) → Q .non H'
def spGet (C : Addr) (n : Nat) (f : Str) : Sp := fun vs H Q _ => ∃ (x dx : Addr) (fs : List (Str × V)) (v : V) (d : PyData), vs = [.ref x] ∧ H x = some (.ins C dx fs) ∧ fs.lookup f = some v ∧ Dq H v d ∧ Cp n d ∧ ∀ v' H', Evl.Ex H H' → Dq (Nw H H') v' d → Q v' H'
section
variable {base : Heap} {mg : Str → Option Value} {K : PySem.W.Frag} {w : World} {P : Program} {C fI fT fS pT pS : Addr}
theorem ok_Sc_tanks {f : Addr} {fd : FuncData} (F : Fun K "tanks" "Script.tanks" s_Sc_tanks f fd) (c : ScC K C fI fT fS pT pS) (c2 : Cal P w K mg base 3 "copied" p_copied (spCp 2)) : FnOk P w K mg base CX0 4 f fd p_Sc_tanks (spGet C 2 "_tanks") := by
  refine F.ok sc_Sc_tanks (fun vs H Q E h => ?_) (fun cdv A outer s H vs Q E hr h => ?_)
  · obtain ⟨x, dx, fs, v, d, rfl, _⟩ := h
    rfl
  · obtain ⟨x, dx, fs, v, d, rfl, hx, hf, hd, hc, k⟩ := h
    refine ⟨_, pss_one (ps_ret (pe_c c2 hr (pa_cons (pe_fld (pv 0) rfl) pa_nil))), ?_⟩
    exact ⟨_, rfl, x, C, dx, fs, v, rfl, hx, c.cls, c.na1, hf, v, d, rfl, hd, hc, k⟩
theorem ok_Sc_steps {f : Addr} {fd : FuncData} (F : Fun K "steps" "Script.steps" s_Sc_steps f fd) (c : ScC K C fI fT fS pT pS) (c3 : Cal P w K mg base 4 "copied" p_copied (spCp 3)) : FnOk P w K mg base CX0 5 f fd p_Sc_steps (spGet C 3 "_steps") := by
  refine F.ok sc_Sc_steps (fun vs H Q E h => ?_) (fun cdv A outer s H vs Q E hr h => ?_)
  · obtain ⟨x, dx, fs, v, d, rfl, _⟩ := h
    rfl
  · obtain ⟨x, dx, fs, v, d, rfl, hx, hf, hd, hc, k⟩ := h
    refine ⟨_, pss_one (ps_ret (pe_c c3 hr (pa_cons (pe_fld (pv 0) rfl) pa_nil))), ?_⟩
    exact ⟨_, rfl, x, C, dx, fs, v, rfl, hx, c.cls, c.na2, hf, v, d, rfl, hd, hc, k⟩
theorem ok_Sc_init {f : Addr} {fd : FuncData} (F : Fun K "__init__" "Script.__init__" s_Sc_init f fd) (mL : mg "len" = none) (c : ScC K C fI fT fS pT pS) (c2 : Cal P w K mg base 3 "copied" p_copied (spCp 2)) (c3 : Cal P w K mg base 4 "copied" p_copied (spCp 3)) (cT : Cal P w K mg base 4 "check_tanks" p_check_tanks spChkT) (cS : Cal P w K mg base 4 "check_step" p_check_step spChkS) : FnOk P w K mg base CX0 5 f fd p_Sc_init (spScI C) := by
  refine F.ok sc_Sc_init (fun vs H Q E h => ?_) (fun cdv A outer s H vs Q E hr h => ?_)
  · obtain ⟨x, dx, v, u, ts, ds, rfl, _⟩ := h
    rfl
  · obtain ⟨x, dx, v, u, ts, ds, rfl, hx, hv, hu, ⟨hT, h60, hD⟩, k⟩ := h
    have nd := sc_Sc_init.nd
    have r3 : Room 3 _ := hr.mono (by decide)
    obtain ⟨lt, rfl, hlt⟩ := hv.tks
    obtain ⟨ls, rfl, hls⟩ := hu.deeds
    refine ⟨_, pss_cons (ps_expr (pe_c cT hr (pa_cons (pv 1) pa_nil)))
      (pss_cons (ps_for PassesOwn.never rfl (pi_list (pv 2)) (pg_name (i := 3) nd rfl (Or.inl rfl)) (pss_one (ps_expr (pe_c cS hr (pa_cons (pv 3) (pa_cons (pe_callB call_len_seq (by rfl) mL PySem.boot_len (pa_cons (pv 1) pa_nil)) pa_nil))))))
      (pss_cons (ps_fld (pv 0) (pe_c c2 r3 (pa_cons (pv 1) pa_nil)) (by rfl))
      (pss_one (ps_fld (pv 0) (pe_c c3 hr (pa_cons (pv 2) pa_nil)) (by rfl))))), ?_⟩
    obtain ⟨as, hl, hlen, hat⟩ := id hls
    obtain ⟨bs, hlb, hlenb, hatb⟩ := id hlt
    refine ⟨_, rfl, lt, ts, rfl, hlt, hT, fun H1 e1 => ?_⟩
    refine ⟨_, rfl, ls, rfl, ⟨_, SqL.of (e1 _ _ hl)⟩, for_list (xs := as.map V.ref) (fun i σ H' => Evl.Ex H H' ∧ ∃ v, σ = [some (.ref x), some (.ref lt), some (.ref ls), v]) ⟨e1, none, rfl⟩ (fun i σ H' _ q => SqL.of (q.1 _ _ hl)) ?_ ?_⟩
    · rintro i y σ H2 hi ⟨e2, v, rfl⟩
      rw [List.getElem?_map] at hi
      obtain ⟨a, ha, rfl⟩ : ∃ a, as[i]? = some a ∧ y = .ref a := by
        cases e : as[i]? with
        | none =>
          rw [e] at hi
          cases hi
        | some a =>
          rw [e] at hi
          exact ⟨a, rfl, (Option.some.inj hi).symm⟩
      have hi2 : i < ds.length := by
        have := (List.getElem?_eq_some_iff.mp ha).1
        omega
      have hd : ds[i]? = some ds[i] := List.getElem?_eq_getElem hi2
      refine ⟨_, rfl, _, rfl, lt, _, rfl, .inl (SqL.of (e2 _ _ hlb)), a, ds[i], _, rfl, (hat i a _ ha hd).ex e2, ?_, fun H3 e3 => ⟨e2.trans e3, _, rfl⟩⟩
      have z := hD ds[i] (List.getElem_mem hi2)
      rw [List.length_map, hlenb]
      exact z
    · rintro σ H2 ⟨e2, v, rfl⟩
      refine ⟨_, rfl, _, _, rfl, hv.go e2, cp_tks (Nat.le_trans hT.1 (by decide)), fun v' H3 e3 hv' => ?_⟩
      have hx3 : H3 x = some (.ins C dx []) := e3 _ _ (e2 _ _ hx)
      refine ⟨_, rfl, x, C, dx, [], rfl, hx3, c.cls, c.na1, by decide, ?_⟩
      have b3 : But x H3 (upd H3 x (.ins C dx (putF "_tanks" v' []))) := But.upd
      have x4 : upd H3 x (.ins C dx (putF "_tanks" v' [])) x = some (.ins C dx (putF "_tanks" v' [])) := upd_same
      have hv4 : Dq (upd H3 x (.ins C dx (putF "_tanks" v' []))) v' (.list (ts.map tkD)) := (hv'.go Nw.ex).keep (keep_ins hx3 b3)
      have hu4 := ((hu.go e2).go e3).keep (keep_ins hx3 b3)
      have b4 : But x H (upd H3 x (.ins C dx (putF "_tanks" v' []))) := (But.of_ex (e2.trans e3)).trans b3
      generalize upd H3 x (.ins C dx (putF "_tanks" v' [])) = H4 at x4 hv4 hu4 b4
      refine ⟨_, rfl, _, _, rfl, hu4, cp_deeds hD (Nat.le_trans h60 (by decide)), fun u' H5 e5 hu' => ?_⟩
      refine ⟨_, rfl, x, C, dx, _, rfl, e5 _ _ x4, c.cls, c.na2, by show 1 < 1000; decide, ?_⟩
      have b6 : But x H5 (upd H5 x (.ins C dx (putF "_steps" u' (putF "_tanks" v' [])))) := But.upd
      refine k v' u' _ _ ((b4.trans (But.of_ex e5)).trans b6) upd_same (by rfl) (by rfl) ((hv4.go e5).keep (keep_ins (e5 _ _ x4) b6)) ((hu'.go Nw.ex).keep (keep_ins (e5 _ _ x4) b6))
end
end V2


namespace V2
open PySem L2
open PySem.Spec PyProof.Rows
/-! ## lists of constants -/
def CsAt (H : Hp) (l : Addr) (ns : List Int) : Prop := ∃ as : List Addr, H l = some (.lst (as.map V.ref)) ∧ as.length = ns.length ∧ ∀ (i : Nat) (a : Addr) (n : Int), as[i]? = some a → ns[i]? = some n → Li H a (cp n)
theorem CsAt.ex {H H' : Hp} {l : Addr} {ns : List Int} (h : CsAt H l ns) (e : Evl.Ex H H') : CsAt H' l ns := by
  obtain ⟨as, h1, h2, h3⟩ := h
  exact ⟨as, e _ _ h1, h2, fun i a t x y => e _ _ (h3 i a t x y)⟩
theorem CsAt.get {H : Hp} {l : Addr} {ns : List Int} (h : CsAt H l ns) {i : Nat} {n : Int} (hn : ns[i]? = some n) : ∃ (xs : List V) (a : Addr), H l = some (.lst xs) ∧ xs[i]? = some (.ref a) ∧ Li H a (cp n) := by
  obtain ⟨as, h1, h2, h3⟩ := h
  have hi : i < as.length := by
    have := (List.getElem?_eq_some_iff.mp hn).1
    omega
  have ha : as[i]? = some as[i] := List.getElem?_eq_getElem hi
  exact ⟨_, as[i], h1, by rw [List.getElem?_map, ha]; rfl, h3 i _ n ha hn⟩
/-- while the list at D is being made: i of them are there -/
def CsN (H : Hp) (D : Addr) (ns : List Int) (i : Nat) : Prop := ∃ as : List Addr, H D = some (.lst (as.map V.ref)) ∧ as.length = i ∧ ∀ (j : Nat) (a : Addr) (n : Int), as[j]? = some a → ns[j]? = some n → a ≠ D ∧ Li H a (cp n)
theorem CsN.start {H : Hp} {D : Addr} {ns : List Int} (h : H D = some (.lst [])) : CsN H D ns 0 := ⟨[], h, rfl, fun j a n h => by cases h⟩
theorem get_app {α : Type} {as : List α} {r a : α} {j : Nat} (h : (as ++ [r])[j]? = some a) : (as[j]? = some a ∧ j < as.length) ∨ (j = as.length ∧ a = r) := by
  by_cases hj : j < as.length
  · rw [List.getElem?_append_left hj] at h
    exact .inl ⟨h, hj⟩
  · rw [List.getElem?_append_right (by omega)] at h
    have h1 : j - as.length < 1 := (List.getElem?_eq_some_iff.mp h).1
    have h2 : j = as.length := by omega
    subst h2
    rw [Nat.sub_self] at h
    exact .inr ⟨rfl, (Option.some.inj h).symm⟩
/-- one more: r, which is no part of the list -/
theorem CsN.more {H2 H3 : Hp} {D r : Addr} {ns : List Int} {i : Nat} {n : Int} (h : CsN H2 D ns i) (e : Evl.Ex H2 H3) (hr : r ≠ D) (h3 : Li H3 r (cp n)) (hn : ns[i]? = some n) (hi : i ≤ 100) :
    ∃ acc, H3 D = some (.lst acc) ∧ acc.length < sizeLine ∧ CsN (upd H3 D (.lst (acc ++ [.ref r]))) D ns (i + 1) := by
  obtain ⟨as, h1, h2, h4⟩ := h
  refine ⟨_, e _ _ h1, ?_, as ++ [r], ?_, ?_, fun j a m ha hm => ?_⟩
  · rw [List.length_map, h2]
    exact Nat.lt_of_le_of_lt hi (by decide)
  · rw [upd_same, List.map_append]
    rfl
  · rw [List.length_append, h2]
    rfl
  · rcases get_app ha with ⟨h5, _⟩ | ⟨h5, rfl⟩
    · obtain ⟨n1, n2⟩ := h4 j a m h5 hm
      exact ⟨n1, Eq.trans (upd_ne n1) (e _ _ n2)⟩
    · rw [h5, h2, hn] at hm
      cases hm
      exact ⟨hr, Eq.trans (upd_ne hr) h3⟩
theorem CsN.done {H : Hp} {D : Addr} {ns : List Int} (h : CsN H D ns ns.length) : CsAt H D ns := by
  obtain ⟨as, h1, h2, h3⟩ := h
  exact ⟨as, h1, h2, fun i a n x y => (h3 i a n x y).2⟩
/-- the widths, times what is below in the told one -/
def wid (u b : Int) (t : Tk) : Int := match t.1 with
  | none => u
  | some z => z * b
def spTold : Sp := fun vs H Q _ => ∃ (l f : Addr) (ts : List Tk) (u b : Int), vs = [.ref l, .ref f] ∧ TksAt H l ts ∧ okT ts ∧ (∀ t ∈ ts, ∀ z, t.1 = some z → z ≤ 1000) ∧ Fr H f u b ∧ 0 < u ∧ 0 < b ∧ u.natAbs < 2 ^ 50 ∧ b.natAbs < 2 ^ 50 ∧ ∀ D H', H D = none → Evl.Ex H H' → CsAt H' D (ts.map (wid u b)) → Q (.ref D) H'
def spFirst : Sp := fun vs H Q _ => ∃ (l : Addr) (ts : List Tk), vs = [.ref l] ∧ TksAt H l ts ∧ ts.length ≤ 20 ∧ ∀ t x y H', Evl.Ex H H' → H' t = some (.tup [.ref x, .ref y]) → CsAt H' x (ts.map (·.2)) → Li H' y [1] → Q (.ref t) H'
def spSum : Sp := fun vs H Q _ => ∃ (l : Addr) (ns : List Int), vs = [.ref l] ∧ CsAt H l ns ∧ Evl.RetL (iV (cp ns.sum)) H Q
theorem tks_get {H : Hp} {l : Addr} {ts : List Tk} (h : TksAt H l ts) : ∃ xs, H l = some (.lst xs) ∧ xs.length = ts.length ∧ ∀ (i : Nat) (x : V), xs[i]? = some x → ∃ a t, x = .ref a ∧ ts[i]? = some t ∧ H a = some (.tup [wV t.1, .int t.2]) := by
  obtain ⟨as, h1, h2, h3⟩ := h
  refine ⟨_, h1, by rw [List.length_map]; exact h2, fun i x hx => ?_⟩
  rw [List.getElem?_map] at hx
  cases e : as[i]? with
  | none =>
    rw [e] at hx
    cases hx
  | some a =>
    rw [e] at hx
    have hi : i < ts.length := by
      have := (List.getElem?_eq_some_iff.mp e).1
      omega
    exact ⟨a, ts[i], (Option.some.inj hx).symm, List.getElem?_eq_getElem hi, h3 i a _ e (List.getElem?_eq_getElem hi)⟩
section
variable {base : Heap} {mg : Str → Option Value} {K : PySem.W.Frag} {w : World} {P : Program}
theorem ok_told_widths {f : Addr} {fd : FuncData} (F : Fun K "told_widths" "told_widths" s_told_widths f fd) : FnOk P w K mg base CX0 1 f fd p_told_widths spTold := by
  refine F.ok sc_told_widths (fun vs H Q E h => ?_) (fun cdv A outer s H vs Q E hr h => ?_)
  · obtain ⟨l, g, ts, u, b, rfl, _⟩ := h
    rfl
  · obtain ⟨l, g, ts, u, b, rfl, hT, ⟨h20, hts, _⟩, h1000, hg, hu, hb, hub, hbb, k⟩ := h
    have nd := sc_told_widths.nd
    have one : 1 ≤ sizeLine := by show 1 ≤ sizeLine; decide
    refine ⟨_, pss_cons (ps_asg (pv 1) (pg_tup rfl (pgs_cons (pg_name (i := 2) nd rfl (Or.inr rfl)) (pgs_cons (pg_name (i := 3) nd rfl (Or.inr rfl)) pgs_nil))))
      (pss_one (ps_ret (pe_lc (own := [("width", 4), ("_", 5)]) (g := gTup K 2 (gCons (gName 4) (gCons (gName 5) gNil))) (tt := tYes) (te := tIf (tB (tIsN (tVar 4))) (tLst (tCons (tVar 2) tNil)) (tLst (tCons (tOp (rI CMulW fun i j => .int (i * j)) (tVar 4) (tVar 3)) tNil))) rfl nd (pi_list (pv 0)) (blkOk_by (N := n_told_widths) (sc := defScope s_told_widths) (by decide +kernel)) (fun _ _ _ _ _ => pg_tup rfl (pgs_cons (pg_name (i := 4) nd rfl (Or.inl rfl)) (pgs_cons (pg_name (i := 5) nd rfl (Or.inl rfl)) pgs_nil))) (fun _ _ _ _ _ => pts_nil)
        (fun _ _ _ _ _ => pe_ifExp (pt_cmp (pc_isN (pv 4))) (pe_lst (pa_cons (pv 2) pa_nil)) (pe_lst (pa_cons (pe_op op_mulW (pv 4) (pv 3)) pa_nil)))))), ?_⟩
    obtain ⟨xs, hl, hlen, hx⟩ := tks_get hT
    refine ⟨_, rfl, g, _, rfl, SqT.of hg, rfl, _, _, rfl, _, _, rfl, rfl, ?_⟩
    refine ⟨_, rfl, l, rfl, ⟨_, SqL.of hl⟩, fun D hD => lc_list (xs := xs) (fun i H' => Evl.Ex H H' ∧ CsN H' D (ts.map (wid u b)) i) ⟨Evl.Ex.new hD, CsN.start upd_same⟩ (fun i H' _ q => SqL.of (q.1 _ _ hl)) ?_ ?_⟩
    · rintro i x H2 hi ⟨e2, hN⟩
      obtain ⟨a, t, rfl, ht, ha⟩ := hx i x hi
      have ht2 : (ts.map (wid u b))[i]? = some (wid u b t) := by rw [List.getElem?_map, ht]; rfl
      have hi20 : i ≤ 100 := by
        have := (List.getElem?_eq_some_iff.mp ht).1
        omega
      have hmem := List.mem_of_getElem? ht
      refine ⟨a, _, rfl, SqT.of (e2 _ _ ha), rfl, _, _, rfl, _, _, rfl, rfl, rfl, ?_⟩
      show tIf (tB (tIsN (tVar 4))) (tLst (tCons (tVar 2) tNil)) (tLst (tCons (tOp (rI CMulW fun i j => .int (i * j)) (tVar 4) (tVar 3)) tNil)) _ _ _
      obtain ⟨tw, ta⟩ := t
      have fin : ∀ r n, H2 r = none → n = wid u b (tw, ta) → n ≠ 0 → ∃ acc, upd H2 r (.lst [.int n]) D = some (.lst acc) ∧ acc.length < sizeLine ∧ Evl.Ex H (upd (upd H2 r (.lst [.int n])) D (.lst (acc ++ [.ref r]))) ∧ CsN (upd (upd H2 r (.lst [.int n])) D (.lst (acc ++ [.ref r]))) D (ts.map (wid u b)) (i + 1) := fun r n hr hn h0 => by
        have e3 := Evl.Ex.new (o := .lst [.int n]) hr
        obtain ⟨as0, hD0, _⟩ := id hN
        have l3 : Li (upd H2 r (.lst [.int n])) r (cp n) := by
          rw [cp_n h0]
          exact upd_same
        obtain ⟨acc, a1, a2, a3⟩ := hN.more e3 (ne_of_none hD0 hr).symm l3 (hn ▸ ht2) hi20
        exact ⟨acc, a1, a2, Evl.Ex.mut (e2.trans e3) hD, a3⟩
      cases tw with
      | none =>
        refine ⟨_, rfl, _, rfl, if_t rfl ⟨_, rfl, one, fun r hr => fin r u hr rfl (by omega)⟩⟩
      | some z =>
        have z1 := (hts _ hmem).1 z rfl
        have z2 := h1000 _ hmem z rfl
        have hzb : z * b ≠ 0 := Int.ne_of_gt (Int.mul_pos (by omega) hb)
        refine ⟨_, rfl, _, rfl, if_f rfl ⟨_, rfl, _, rfl, z, b, rfl, rfl, wide_mul (a := 10) (b := 50) (Nat.lt_of_le_of_lt (show z.natAbs ≤ 1000 by omega) (by decide)) hbb (by decide) (by decide) (by decide), one, fun r hr => fin r (z * b) hr rfl hzb⟩⟩
    · rintro H2 ⟨e2, hN⟩
      rw [hlen, show ts.length = (ts.map (wid u b)).length by rw [List.length_map]] at hN
      exact k D H2 hD e2 hN.done
theorem ok_first_water {f : Addr} {fd : FuncData} (F : Fun K "first_water" "first_water" s_first_water f fd) (cC : Cal P w K mg base 1 "cut" p_cut (spTrim K)) : FnOk P w K mg base CX0 2 f fd p_first_water spFirst := by
  refine F.ok sc_first_water (fun vs H Q E h => ?_) (fun cdv A outer s H vs Q E hr h => ?_)
  · obtain ⟨l, ts, rfl, _⟩ := h
    rfl
  · obtain ⟨l, ts, rfl, hT, h20, k⟩ := h
    have nd := sc_first_water.nd
    have one : 1 ≤ sizeLine := by show 1 ≤ sizeLine; decide
    have two : 2 ≤ sizeLine := by show 2 ≤ sizeLine; decide
    refine ⟨_, pss_one (ps_ret (pe_tup (pa_cons (pe_lc (own := [("_", 1), ("amount", 2)]) (g := gTup K 2 (gCons (gName 1) (gCons (gName 2) gNil))) (tt := tYes) (te := tCall (spTrim K) [] E0 (tCons (tLst (tCons (tVar 2) tNil)) tNil)) rfl nd (pi_list (pv 0)) (blkOk_by (N := n_first_water) (sc := defScope s_first_water) (by decide +kernel)) (fun _ _ _ _ _ => pg_tup rfl (pgs_cons (pg_name (i := 1) nd rfl (Or.inl rfl)) (pgs_cons (pg_name (i := 2) nd rfl (Or.inl rfl)) pgs_nil))) (fun _ _ _ _ _ => pts_nil)
        (fun _ _ _ _ _ => pe_c cC hr (pa_cons (pe_lst (pa_cons (pv 2) pa_nil)) pa_nil))) (pa_cons (pe_lst (pa_cons pe_int pa_nil)) pa_nil)))), ?_⟩
    obtain ⟨xs, hl, hlen, hx⟩ := tks_get hT
    refine ⟨_, rfl, l, rfl, ⟨_, SqL.of hl⟩, fun D hD => lc_list (xs := xs) (fun i H' => Evl.Ex H H' ∧ CsN H' D (ts.map (·.2)) i) ⟨Evl.Ex.new hD, CsN.start upd_same⟩ (fun i H' _ q => SqL.of (q.1 _ _ hl)) ?_ ?_⟩
    · rintro i x H2 hi ⟨e2, hN⟩
      obtain ⟨a, t, rfl, ht, ha⟩ := hx i x hi
      have ht2 : (ts.map (·.2))[i]? = some t.2 := by rw [List.getElem?_map, ht]; rfl
      have hi20 : i ≤ 100 := by
        have := (List.getElem?_eq_some_iff.mp ht).1
        omega
      refine ⟨a, _, rfl, SqT.of (e2 _ _ ha), rfl, _, _, rfl, _, _, rfl, rfl, rfl, ?_⟩
      show tCall (spTrim K) [] E0 (tCons (tLst (tCons (tVar 2) tNil)) tNil) _ _ _
      refine ⟨_, rfl, one, fun r hr2 => ⟨r, [t.2], rfl, SqL.of upd_same, by show 1 ≤ 1000; decide, fun q H3 hq e3 h3 => ?_⟩⟩
      have e4 := (Evl.Ex.new (o := .lst [.int t.2]) hr2).trans e3
      obtain ⟨as0, hD0, _⟩ := id hN
      have qD : q ≠ D := (ne_of_none (Evl.Ex.new hr2 _ _ hD0) hq).symm
      rw [trm_1] at h3
      obtain ⟨acc, a1, a2, a3⟩ := hN.more e4 qD h3 ht2 hi20
      exact ⟨acc, a1, a2, Evl.Ex.mut (e2.trans e4) hD, a3⟩
    · rintro H2 ⟨e2, hN⟩
      rw [hlen, show ts.length = (ts.map (·.2)).length by rw [List.length_map]] at hN
      have hC := hN.done
      refine ⟨one, fun y hy => ⟨two, fun t ht => ?_⟩⟩
      have e3 := Evl.Ex.new (o := .lst [.int 1]) hy
      have e4 := Evl.Ex.new (o := .tup [.ref D, .ref y]) ht
      exact k t D y _ ((e2.trans e3).trans e4) upd_same ((hC.ex e3).ex e4) (e4 _ _ upd_same)
theorem sum_take {ns : List Int} {i : Nat} {n : Int} (h : ns[i]? = some n) : (ns.take (i + 1)).sum = (ns.take i).sum + n := by
  rw [List.take_add_one, h, List.sum_append]
  simp
theorem ok_sum_of {f : Addr} {fd : FuncData} (F : Fun K "sum_of" "sum_of" s_sum_of f fd) (cA : Cal P w K mg base 2 "added" p_added (spTwoW (fun _ _ => True) fun xs ys => trm (padd xs ys))) : FnOk P w K mg base CX0 3 f fd p_sum_of spSum := by
  refine F.ok sc_sum_of (fun vs H Q E h => ?_) (fun cdv A outer s H vs Q E hr h => ?_)
  · obtain ⟨l, ns, rfl, _⟩ := h
    rfl
  · obtain ⟨l, ns, rfl, hC, k⟩ := h
    have nd := sc_sum_of.nd
    refine ⟨_, pss_cons (ps_set (i := 1) nd rfl (Or.inl rfl) (pe_lst pa_nil))
      (pss_cons (ps_for PassesOwn.never rfl (pi_list (pv 0)) (pg_name (i := 2) nd rfl (Or.inl rfl)) (pss_one (ps_set (i := 1) nd rfl (Or.inl rfl) (pe_c cA hr (pa_cons (pv 1) (pa_cons (pv 2) pa_nil))))))
      (pss_one (ps_ret (pv 1)))), ?_⟩
    obtain ⟨as, hl, hlen, hat⟩ := id hC
    refine ⟨Nat.zero_le _, fun t0 ht0 => ?_⟩
    refine ⟨_, rfl, l, rfl, ⟨_, SqL.of (Evl.Ex.new ht0 _ _ hl)⟩, for_list (xs := as.map V.ref) (fun i σ H' => Evl.Ex H H' ∧ ∃ t v, σ = [some (.ref l), some (.ref t), v] ∧ H t = none ∧ Li H' t (cp (ns.take i).sum)) ⟨Evl.Ex.new ht0, t0, none, rfl, ht0, upd_same⟩ (fun i σ H' _ q => SqL.of (q.1 _ _ hl)) ?_ ?_⟩
    · rintro i x σ H2 hi ⟨e2, t, v, rfl, ht, hLi⟩
      rw [List.getElem?_map] at hi
      obtain ⟨a, ha, rfl⟩ : ∃ a, as[i]? = some a ∧ x = .ref a := by
        cases e : as[i]? with
        | none =>
          rw [e] at hi
          cases hi
        | some a =>
          rw [e] at hi
          exact ⟨a, rfl, (Option.some.inj hi).symm⟩
      have hi2 : i < ns.length := by
        have := (List.getElem?_eq_some_iff.mp ha).1
        omega
      have hn : ns[i]? = some ns[i] := List.getElem?_eq_getElem hi2
      refine ⟨_, rfl, _, rfl, t, a, _, _, rfl, hLi, e2 _ _ (hat i a _ ha hn), cp_pw _, cp_pw _, fun _ _ _ _ => trivial, fun r H3 hr2 e3 h3 => ⟨e2.trans e3, r, _, rfl, Evl.fresh_back e2 hr2, ?_⟩⟩
      have h3 : H3 r = some (.lst (iV (trm (padd (cp (ns.take i).sum) (cp ns[i]))))) := h3
      rw [cp_add, ← sum_take hn] at h3
      exact h3
    · rintro σ H2 ⟨e2, t, v, rfl, ht, hLi⟩
      rw [List.length_map, hlen, List.take_length] at hLi
      exact ⟨_, rfl, k t H2 ht e2 hLi⟩
end
end V2


namespace V2
open PySem L2
open PySem.Spec PyProof.Rows
/-! ## what steps do to water -/
def pick (ns : List Int) (ks : List Int) : List Int := ks.map fun k => ns.getD k.toNat 0
/-- numbers of less than n bits -/
def Bn (n : Nat) (x : Int) : Prop := x.natAbs < 2 ^ n
theorem Bn.le {n m : Nat} {x : Int} (h : Bn n x) (l : n ≤ m) : Bn m x := Nat.lt_of_lt_of_le h (Nat.pow_le_pow_right (by decide) l)
theorem Bn.mul {n m : Nat} {x y : Int} (h : Bn n x) (k : Bn m y) : Bn (n + m) (x * y) := wide_lt h k
theorem Bn.add {n : Nat} {x y : Int} (h : Bn n x) (k : Bn n y) : Bn (n + 1) (x + y) := by
  unfold Bn at *
  rw [Nat.pow_succ]
  omega
/-- water: the amounts A by W -/
structure Wat (H : Hp) (t : Addr) (A : List Int) (W : Int) : Prop where
  at_ : ∃ la lw, H t = some (.tup [.ref la, .ref lw]) ∧ CsAt H la A ∧ Li H lw [W]
  pos : 0 < W
theorem Wat.ex {H H' : Hp} {t : Addr} {A : List Int} {W : Int} (h : Wat H t A W) (e : Evl.Ex H H') : Wat H' t A W := by
  obtain ⟨⟨la, lw, h1, h2, h3⟩, p⟩ := h
  exact ⟨⟨la, lw, e _ _ h1, h2.ex e, e _ _ h3⟩, p⟩
def okK (n : Nat) (ks : List Int) : Prop := ks.length ≤ 20 ∧ ∀ k ∈ ks, 0 ≤ k ∧ k < n
def spTog : Sp := fun vs H Q _ => ∃ (lk la lw : Addr) (ks A ws : List Int), vs = [.ref lk, .ref la, .ref lw] ∧ Li H lk ks ∧ CsAt H la A ∧ CsAt H lw ws ∧ okK A.length ks ∧ ws.length = A.length ∧
  ∀ q x y H', Evl.Ex H H' → H' q = some (.tup [.ref x, .ref y]) → Li H' x (cp (pick A ks).sum) → Li H' y (cp (pick ws ks).sum) → Q (.ref q) H'
theorem pick_get {ns ks : List Int} {i : Nat} {k : Int} (h : ks[i]? = some k) : (pick ns ks)[i]? = some (ns.getD k.toNat 0) := by
  unfold pick
  rw [List.getElem?_map, h]
  rfl
theorem getD_some {ns : List Int} {j : Nat} (h : j < ns.length) : ns[j]? = some (ns.getD j 0) := by
  rw [List.getD_eq_getElem?_getD, List.getElem?_eq_getElem h]
  rfl
/-- a list of some of the constants of another one -/
theorem picked {H H' : Hp} {D la : Addr} {A ks : List Int} {as : List Addr} {i : Nat} {k : Int} (hA : ∀ (i : Nat) (a : Addr) (n : Int), as[i]? = some a → A[i]? = some n → Li H a (cp n)) (hla : as.length = A.length) (hk : ks[i]? = some k) (hok : okK A.length ks) :
    ∃ a, as[k.toNat]? = some a ∧ atI (as.map V.ref) k = some (.ref a) ∧ Li H a (cp (A.getD k.toNat 0)) := by
  obtain ⟨k0, k1⟩ := hok.2 k (List.mem_of_getElem? hk)
  obtain ⟨j, rfl⟩ : ∃ j : Nat, k = j := ⟨k.toNat, by omega⟩
  rw [Int.toNat_natCast]
  have hlt : j < A.length := by omega
  obtain ⟨a, ha⟩ : ∃ a, as[j]? = some a := ⟨_, List.getElem?_eq_getElem (by omega)⟩
  exact ⟨a, ha, atI_nat (by rw [List.getElem?_map, ha]; rfl), hA _ _ _ ha (getD_some hlt)⟩
section
variable {base : Heap} {mg : Str → Option Value} {K : PySem.W.Frag} {w : World} {P : Program}
theorem ok_together {f : Addr} {fd : FuncData} (F : Fun K "together" "together" s_together f fd) (cS : Cal P w K mg base 3 "sum_of" p_sum_of spSum) : FnOk P w K mg base CX0 4 f fd p_together spTog := by
  refine F.ok sc_together (fun vs H Q E h => ?_) (fun cdv A outer s H vs Q E hr h => ?_)
  · obtain ⟨lk, la, lw, ks, A, ws, rfl, _⟩ := h
    rfl
  · obtain ⟨lk, la, lw, ks, A, ws, rfl, hk, hA, hw, hok, hl, k⟩ := h
    have nd := sc_together.nd
    have two : 2 ≤ sizeLine := by show 2 ≤ sizeLine; decide
    refine ⟨_, pss_one (ps_ret (pe_tup (pa_cons (pe_c cS hr (pa_cons (pe_lc (own := [("k", 3)]) (g := gName 3) (tt := tYes) (te := tOp (rIxL K) (tVar 1) (tVar 3)) rfl nd (pi_list (pv 0)) (blkOk_by (N := n_together) (sc := defScope s_together) (by decide +kernel)) (fun _ _ _ _ _ => pg_name (i := 3) nd rfl (Or.inl rfl)) (fun _ _ _ _ _ => pts_nil) (fun _ _ _ _ _ => pe_ix ix_list (pv 1) (pv 3) (fun _ _ => rfl))) pa_nil))
      (pa_cons (pe_c cS hr (pa_cons (pe_lc (own := [("k", 3)]) (g := gName 3) (tt := tYes) (te := tOp (rIxL K) (tVar 2) (tVar 3)) rfl nd (pi_list (pv 0)) (blkOk_by (N := n_together) (sc := defScope s_together) (by decide +kernel)) (fun _ _ _ _ _ => pg_name (i := 3) nd rfl (Or.inl rfl)) (fun _ _ _ _ _ => pts_nil) (fun _ _ _ _ _ => pe_ix ix_list (pv 2) (pv 3) (fun _ _ => rfl))) pa_nil)) pa_nil)))), ?_⟩
    obtain ⟨as, ha, hla, haa⟩ := id hA
    obtain ⟨bs, hb, hlb, hbb⟩ := id hw
    have hokw : okK ws.length ks := by rw [hl]; exact hok
    refine ⟨_, rfl, lk, rfl, ⟨_, hk.sq⟩, fun D hD => lc_list (xs := iV ks) (fun i H' => Evl.Ex H H' ∧ CsN H' D (pick A ks) i) ⟨Evl.Ex.new hD, CsN.start upd_same⟩ (fun i H' _ q => SqL.of (q.1 _ _ hk)) ?_ ?_⟩
    · rintro i x H2 hi ⟨e2, hN⟩
      obtain ⟨z, hz, rfl⟩ := iV_get hi
      obtain ⟨a, h1, h2, h3⟩ := picked (H' := H) (D := D) (la := la) haa hla hz hok
      have hi20 : i ≤ 100 := by
        have := (List.getElem?_eq_some_iff.mp hz).1
        have := hok.1
        omega
      refine ⟨rfl, ?_⟩
      show tOp (rIxL K) (tVar 1) (tVar 3) _ _ _
      obtain ⟨acc, a1, a2, a3⟩ := hN.more (Evl.Ex.refl _) (ne_of_none (show H a = some _ from h3) hD) (e2 _ _ h3) (pick_get hz) hi20
      exact ⟨_, rfl, _, rfl, la, _, _, _, rfl, rfl, SqL.of (e2 _ _ ha), h2, acc, a1, a2, Evl.Ex.mut e2 hD, a3⟩
    · rintro H2 ⟨e2, hN⟩
      rw [iV_len, show ks.length = (pick A ks).length by unfold pick; rw [List.length_map]] at hN
      refine ⟨D, _, rfl, hN.done, fun x H3 hx e3 h3 => ?_⟩
      have e03 := e2.trans e3
      refine ⟨_, rfl, lk, rfl, ⟨_, SqL.of (e03 _ _ hk)⟩, fun D2 hD2 => lc_list (xs := iV ks) (fun i H' => Evl.Ex H3 H' ∧ CsN H' D2 (pick ws ks) i) ⟨Evl.Ex.new hD2, CsN.start upd_same⟩ (fun i H' _ q => SqL.of (q.1 _ _ (e03 _ _ hk))) ?_ ?_⟩
      · rintro i v H4 hi ⟨e4, hN4⟩
        obtain ⟨z, hz, rfl⟩ := iV_get hi
        obtain ⟨a, h1, h2, h4⟩ := picked (H' := H) (D := D) (la := la) hbb hlb hz hokw
        have hi20 : i ≤ 100 := by
          have := (List.getElem?_eq_some_iff.mp hz).1
          have := hok.1
          omega
        refine ⟨rfl, ?_⟩
        show tOp (rIxL K) (tVar 2) (tVar 3) _ _ _
        have h5 : Li H3 a (cp (ws.getD z.toNat 0)) := e03 _ _ h4
        obtain ⟨acc, a1, a2, a3⟩ := hN4.more (Evl.Ex.refl _) (ne_of_none (show H3 a = some _ from h5) hD2) (e4 _ _ h5) (pick_get hz) hi20
        exact ⟨_, rfl, _, rfl, lw, _, _, _, rfl, rfl, SqL.of (e4 _ _ (e03 _ _ hb)), h2, acc, a1, a2, Evl.Ex.mut e4 hD2, a3⟩
      · rintro H4 ⟨e4, hN4⟩
        rw [iV_len, show ks.length = (pick ws ks).length by unfold pick; rw [List.length_map]] at hN4
        refine ⟨D2, _, rfl, hN4.done, fun y H5 hy e5 h5 => ⟨two, fun q hq => ?_⟩⟩
        have e6 := Evl.Ex.new (o := .tup [.ref x, .ref y]) hq
        exact k q x y _ (((e03.trans e4).trans e5).trans e6) upd_same (e6 _ _ (e5 _ _ (e4 _ _ h3))) (e6 _ _ h5)
end
end V2


namespace V2
open PySem L2
open PySem.Spec PyProof.Rows
theorem fn_weak {P : Program} {w : World} {K : PySem.W.Frag} {mg : Str → Option Value} {base : Heap} {CX : CXT} {k : Nat} {f : Addr} {fd : FuncData} {ps : List Str} {sp sp' : Sp} (F : FnOk P w K mg base CX k f fd ps sp) (h : ∀ vs H Q E, sp' vs H Q E → sp vs H Q E) : FnOk P w K mg base CX k f fd ps sp' :=
  ⟨fun vs H Q E z => F.len vs H Q E (h _ _ _ _ z), fun A outer s H args us vs Q E hr e0 hb r z => F.run A outer s H args us vs Q E hr e0 hb r (h _ _ _ _ z)⟩
theorem Cal.weak {P : Program} {w : World} {K : PySem.W.Frag} {mg : Str → Option Value} {base : Heap} {k : Nat} {x : Str} {ps : List Str} {sp sp' : Sp} (c : Cal P w K mg base k x ps sp) (h : ∀ vs H Q E, sp' vs H Q E → sp vs H Q E) : Cal P w K mg base k x ps sp' := by
  obtain ⟨f, fd, F, a, b, d⟩ := c
  exact ⟨f, fd, fn_weak F h, a, b, d⟩
/-- products and sums of constants -/
def spMc : Sp := fun vs H Q _ => ∃ (a b : Addr) (x y : Int), vs = [.ref a, .ref b] ∧ Li H a (cp x) ∧ Li H b (cp y) ∧ Bn 3000 x ∧ Bn 3000 y ∧ Evl.RetL (iV (cp (x * y))) H Q
def spAc : Sp := fun vs H Q _ => ∃ (a b : Addr) (x y : Int), vs = [.ref a, .ref b] ∧ Li H a (cp x) ∧ Li H b (cp y) ∧ Evl.RetL (iV (cp (x + y))) H Q
theorem mc_of : ∀ vs H Q E, spMc vs H Q E → spTwoW (fun x y => CMulW x y) (fun xs ys => trm (pmul xs ys)) vs H Q E := by
  rintro vs H Q E ⟨a, b, x, y, rfl, ha, hb, hx, hy, k⟩
  refine ⟨a, b, _, _, rfl, ha, hb, cp_pw _, cp_pw _, fun u hu v hv => ?_, ?_⟩
  · rw [cp_mem hu, cp_mem hv]
    exact wide_mul (a := 3000) (b := 3000) hx hy (by decide) (by decide) (by decide)
  · show Evl.RetL (iV (trm (pmul (cp x) (cp y)))) H Q
    rw [cp_mul]
    exact k
theorem ac_of : ∀ vs H Q E, spAc vs H Q E → spTwoW (fun _ _ => True) (fun xs ys => trm (padd xs ys)) vs H Q E := by
  rintro vs H Q E ⟨a, b, x, y, rfl, ha, hb, k⟩
  refine ⟨a, b, _, _, rfl, ha, hb, cp_pw _, cp_pw _, fun _ _ _ _ => trivial, ?_⟩
  show Evl.RetL (iV (trm (padd (cp x) (cp y)))) H Q
  rw [cp_add]
  exact k
/-- the amounts behind a valve -/
def openA (A ws ks : List Int) : List Int := (List.range A.length).map fun (k : Nat) => if (k : Int) ∈ ks then (pick A ks).sum * ws.getD k 0 else A.getD k 0 * (pick ws ks).sum
theorem map_range_get {n i : Nat} {f : Nat → Int} (h : i < n) : ((List.range n).map f)[i]? = some (f i) := by
  rw [List.getElem?_map, List.getElem?_range h]
  rfl
theorem inV_ints (k : Int) (ks : List Int) : inV (.int k) (iV ks) = decide (k ∈ ks) := by
  induction ks with
  | nil => rfl
  | cons x r ih =>
    have e : inV (.int k) (iV (x :: r)) = (eqV (.int x) (.int k) || inV (.int k) (iV r)) := rfl
    rw [e, ih]
    have e2 : eqV (.int x) (.int k) = decide (x = k) := by
      by_cases h : x = k
      · subst h
        simp [eqV]
      · simp [eqV, h]
    rw [e2]
    by_cases h : x = k
    · simp [h]
    · have h' : ¬ k = x := fun z => h z.symm
      simp [h, h']
theorem flat_ints (ks : List Int) : (iV ks).all flatV = true := by
  unfold iV
  rw [List.all_map]
  exact List.all_eq_true.mpr fun x _ => rfl
def spOpen : Sp := fun vs H Q _ => ∃ (lk t lw : Addr) (ks A ws : List Int) (W : Int), vs = [.ref lk, .ref t, .ref lw] ∧ Li H lk ks ∧ Wat H t A W ∧ CsAt H lw ws ∧ okK A.length ks ∧ ws.length = A.length ∧ A.length ≤ 20 ∧
  (∀ x ∈ A, Bn 3000 x) ∧ Bn 3000 W ∧ (∀ x ∈ ws, Bn 3000 x) ∧ Bn 3000 (pick A ks).sum ∧ Bn 3000 (pick ws ks).sum ∧ 0 < (pick ws ks).sum ∧ ∀ t' H', Evl.Ex H H' → Wat H' t' (openA A ws ks) (W * (pick ws ks).sum) → Q (.ref t') H'
theorem cs_items {H : Hp} {l : Addr} {ns : List Int} (h : CsAt H l ns) : ∃ xs, H l = some (.lst xs) ∧ xs.length = ns.length ∧ ∀ (i : Nat) (x : V), xs[i]? = some x → ∃ a, x = .ref a ∧ i < ns.length ∧ Li H a (cp (ns.getD i 0)) := by
  obtain ⟨as, h1, h2, h3⟩ := h
  refine ⟨_, h1, by rw [List.length_map]; exact h2, fun i x hx => ?_⟩
  rw [List.getElem?_map] at hx
  cases e : as[i]? with
  | none =>
    rw [e] at hx
    cases hx
  | some a =>
    rw [e] at hx
    have hi : i < ns.length := by
      have := (List.getElem?_eq_some_iff.mp e).1
      omega
    exact ⟨a, (Option.some.inj hx).symm, hi, h3 i a _ e (getD_some hi)⟩
theorem getD_mem' {ns : List Int} {i : Nat} (h : i < ns.length) : ns.getD i 0 ∈ ns := List.mem_of_getElem? (getD_some h)
section
variable {base : Heap} {mg : Str → Option Value} {K : PySem.W.Frag} {w : World} {P : Program}
theorem ok_opened {f : Addr} {fd : FuncData} (F : Fun K "opened" "opened" s_opened f fd) (T : T2 mg) (cT : Cal P w K mg base 4 "together" p_together spTog) (cM : Cal P w K mg base 1 "multiplied" p_multiplied spMc) : FnOk P w K mg base CX0 5 f fd p_opened spOpen := by
  refine F.ok sc_opened (fun vs H Q E h => ?_) (fun cdv A outer s H vs Q E hr h => ?_)
  · obtain ⟨lk, t, lw, ks, A, ws, W, rfl, _⟩ := h
    rfl
  · obtain ⟨lk, t, lw, ks, Am, ws, W, rfl, hk, ⟨⟨la, lo, ht, hA, hW⟩, W0⟩, hw, hok, hl, h20, bA, bW, bw, bT, bS, S0, k⟩ := h
    have nd := sc_opened.nd
    have r1 : Room 1 _ := hr.mono (by decide)
    have two : 2 ≤ sizeLine := by show 2 ≤ sizeLine; decide
    refine ⟨_, pss_cons (ps_asg (pv 1) (pg_tup rfl (pgs_cons (pg_name (i := 3) nd rfl (Or.inl rfl)) (pgs_cons (pg_name (i := 4) nd rfl (Or.inl rfl)) pgs_nil))))
      (pss_cons (ps_asg (pe_c cT hr (pa_cons (pv 0) (pa_cons (pv 3) (pa_cons (pv 2) pa_nil)))) (pg_tup rfl (pgs_cons (pg_name (i := 5) nd rfl (Or.inr rfl)) (pgs_cons (pg_name (i := 6) nd rfl (Or.inr rfl)) pgs_nil))))
      (pss_cons (ps_setLc (i := 7) (own := [("k", 8), ("one", 9)]) (g := gTup K 2 (gCons (gName 8) (gCons (gName 9) gNil))) (tt := tYes) (te := tIf (tTest (tOp (rIn K false) (tVar 8) (tVar 0))) (tCall spMc [] E0 (tCons (tVar 5) (tCons (tOp (rIxL K) (tVar 2) (tVar 8)) tNil))) (tCall spMc [] E0 (tCons (tVar 9) (tCons (tVar 6) tNil)))) rfl nd rfl rfl (sw_true rfl rfl rfl (by decide +kernel)) (pi_enum (by rfl) T.enu (pa_cons (pv 3) pa_nil)) (blkOk_by (N := n_opened) (sc := defScope s_opened) (by decide +kernel))
          (fun _ _ _ _ _ => pg_tup rfl (pgs_cons (pg_name (i := 8) nd rfl (Or.inl rfl)) (pgs_cons (pg_name (i := 9) nd rfl (Or.inl rfl)) pgs_nil))) (fun _ _ _ _ _ => pts_nil)
          (fun _ _ _ _ _ => pe_ifExp (pt_cmpR op_in_seq (pv 8) (pv 0) (by rfl)) (pe_c cM r1 (pa_cons (pv 5) (pa_cons (pe_ix ix_list (pv 2) (pv 8) (fun _ _ => rfl)) pa_nil))) (pe_c cM r1 (pa_cons (pv 9) (pa_cons (pv 6) pa_nil)))))
      (pss_one (ps_ret (pe_tup (pa_cons (pv 7) (pa_cons (pe_c cM r1 (pa_cons (pv 4) (pa_cons (pv 6) pa_nil))) pa_nil))))))), ?_⟩
    refine ⟨_, rfl, t, _, rfl, SqT.of ht, rfl, _, _, rfl, _, _, rfl, rfl, ?_⟩
    refine ⟨_, rfl, _, rfl, _, rfl, lk, la, lw, ks, Am, ws, rfl, hk, hA, hw, hok, hl, fun q x y H1 e1 hq hx hy => ?_⟩
    refine ⟨q, _, rfl, SqT.of hq, rfl, _, _, rfl, _, _, rfl, rfl, ?_⟩
    obtain ⟨xs, hxs, hxl, hxi⟩ := cs_items (hA.ex e1)
    obtain ⟨ys, hys, hyl, hyi⟩ := cs_items (hw.ex e1)
    refine ⟨_, rfl, la, _, rfl, SqL.of hxs, fun D hD => lc_it walk_enum (fun i H' => Evl.Ex H1 H' ∧ CsN H' D (openA Am ws ks) i) ⟨Evl.Ex.new hD, CsN.start upd_same⟩ (fun i H' _ q => SqL.of (q.1 _ _ hxs)) ?_ ?_⟩
    · rintro i v H2 H3 hi ⟨e2, hN⟩ ⟨t3, z, o, rfl, ht3, rfl, hz, ho⟩
      obtain rfl := (Option.some.inj hz).symm
      obtain ⟨a, rfl, hia, hLa⟩ := hxi i _ ho
      have e3 := Evl.Ex.new (o := .tup [.int (i : Nat), .ref a]) ht3
      have e23 := e2.trans e3
      refine ⟨t3, _, rfl, SqT.of upd_same, rfl, _, _, rfl, _, _, rfl, rfl, rfl, ?_⟩
      show tIf (tTest (tOp (rIn K false) (tVar 8) (tVar 0))) (tCall spMc [] E0 (tCons (tVar 5) (tCons (tOp (rIxL K) (tVar 2) (tVar 8)) tNil))) (tCall spMc [] E0 (tCons (tVar 9) (tCons (tVar 6) tNil))) _ _ _
      obtain ⟨as0, hD0, _⟩ := id hN
      have fin : ∀ (r : Addr) (H4 : Hp) (n : Int), upd H2 t3 (.tup [.int (i : Nat), .ref a]) r = none → Evl.Ex (upd H2 t3 (.tup [.int (i : Nat), .ref a])) H4 → Li H4 r (cp n) → (openA Am ws ks)[i]? = some n → ∃ acc, H4 D = some (.lst acc) ∧ acc.length < sizeLine ∧ Evl.Ex H1 (upd H4 D (.lst (acc ++ [.ref r]))) ∧ CsN (upd H4 D (.lst (acc ++ [.ref r]))) D (openA Am ws ks) (i + 1) := fun r H4 n hr4 e4 h4 hn => by
        obtain ⟨acc, a1, a2, a3⟩ := hN.more (e3.trans e4) (ne_of_none (e3 _ _ hD0) hr4).symm h4 hn (by omega)
        exact ⟨acc, a1, a2, Evl.Ex.mut (e23.trans e4) hD, a3⟩
      have hget : (openA Am ws ks)[i]? = some (if (i : Int) ∈ ks then (pick Am ks).sum * ws.getD i 0 else Am.getD i 0 * (pick ws ks).sum) := map_range_get hia
      refine ⟨_, rfl, _, rfl, lk, _, rfl, .inl (SqL.of (e23 _ _ (e1 _ _ hk))), rfl, flat_ints ks, _, rfl, ?_⟩
      have em : (if false = true then !inV (.int (i : Nat)) (iV ks) else inV (.int (i : Nat)) (iV ks)) = decide (((i : Nat) : Int) ∈ ks) := inV_ints _ _
      rw [em]
      by_cases hm : ((i : Nat) : Int) ∈ ks
      · rw [if_pos hm] at hget
        refine if_t (decide_eq_true hm) ?_
        have hiw : i < ws.length := by omega
        have hyx : ys[i]? = some ys[i] := List.getElem?_eq_getElem (by omega)
        obtain ⟨b, hb, _, hLb⟩ := hyi i _ hyx
        rw [hb] at hyx
        refine ⟨_, rfl, _, rfl, _, rfl, lw, _, _, _, rfl, rfl, SqL.of (e23 _ _ hys), atI_nat hyx, x, b, _, _, rfl, e23 _ _ hx, e23 _ _ hLb, bT, bw _ (getD_mem' hiw), fun r H4 hr4 e4 h4 => fin r H4 _ hr4 e4 h4 hget⟩
      · rw [if_neg hm] at hget
        refine if_f (decide_eq_false hm) ?_
        refine ⟨_, rfl, _, rfl, a, y, _, _, rfl, e23 _ _ hLa, e23 _ _ hy, bA _ (getD_mem' hia), bS, fun r H4 hr4 e4 h4 => fin r H4 _ hr4 e4 h4 hget⟩
    · rintro H2 ⟨e2, hN⟩
      rw [hxl, show Am.length = (openA Am ws ks).length by unfold openA; rw [List.length_map, List.length_range]] at hN
      have hC := hN.done
      have e12 := e1.trans e2
      refine ⟨_, rfl, _, rfl, _, rfl, lo, y, W, _, rfl, ?_, e2 _ _ hy, bW, bS, fun r H3 hr3 e3 h3 => ⟨two, fun q2 hq2 => ?_⟩⟩
      · rw [cp_n (by omega)]
        exact e12 _ _ hW
      have e4 := Evl.Ex.new (o := .tup [.ref D, .ref r]) hq2
      have WS : 0 < W * (pick ws ks).sum := Int.mul_pos W0 S0
      refine k q2 _ ((e12.trans e3).trans e4) ⟨⟨D, r, upd_same, (hC.ex e3).ex e4, ?_⟩, WS⟩
      have h5 : H3 r = some (.lst (iV (cp (W * (pick ws ks).sum)))) := h3
      rw [cp_n (Int.ne_of_gt WS)] at h5
      exact e4 _ _ h5
end
end V2


namespace V2
open PySem L2
open PySem.Spec PyProof.Rows
def pourA (A : List Int) (W k a : Int) : List Int := (List.range A.length).map fun (j : Nat) => if (j : Int) = k then A.getD j 0 + a * W else A.getD j 0
def spPour : Sp := fun vs H Q _ => ∃ (t : Addr) (A : List Int) (W k a : Int), vs = [.int k, .int a, .ref t] ∧ Wat H t A W ∧ A.length ≤ 20 ∧ Bn 3000 W ∧ Bn 3000 a ∧ ∀ t' H', Evl.Ex H H' → Wat H' t' (pourA A W k a) W → Q (.ref t') H'
/-- an element of a list of constants is not the list -/
theorem cs_ne {H : Hp} {l a : Addr} {as : List Addr} {i : Nat} {n : Int} (hl : H l = some (.lst (as.map V.ref))) (ha : as[i]? = some a) (h : Li H a (cp n)) : a ≠ l := by
  intro z
  have h : H a = some (.lst (iV (cp n))) := h
  rw [z, hl] at h
  injection h with h
  injection h with h
  have h2 := congrArg (fun x => x[i]?) h
  simp only [List.getElem?_map, ha] at h2
  have h2 : some (V.ref a) = (iV (cp n))[i]? := h2
  unfold iV at h2
  rw [List.getElem?_map] at h2
  cases e : (cp n)[i]? with
  | none =>
    rw [e] at h2
    cases h2
  | some x =>
    rw [e] at h2
    cases h2
/-- an element put anew -/
theorem cs_set {H : Hp} {l r : Addr} {as : List Addr} {ns : List Int} {j : Nat} {n : Int} (hl : H l = some (.lst (as.map V.ref))) (hlen : as.length = ns.length) (hat : ∀ (i : Nat) (a : Addr) (n : Int), as[i]? = some a → ns[i]? = some n → Li H a (cp n)) (hr : r ≠ l) (h : Li H r (cp n)) (hj : j < ns.length) :
    CsAt (upd H l (.lst ((as.map V.ref).set j (.ref r)))) l (ns.set j n) := by
  refine ⟨as.set j r, ?_, by rw [List.length_set, List.length_set, hlen], fun i a m ha hm => ?_⟩
  · rw [upd_same, List.map_set]
  · by_cases hij : j = i
    · subst hij
      rw [List.getElem?_set_self (by omega)] at ha hm
      cases ha
      cases hm
      exact Eq.trans (upd_ne hr) h
    · rw [List.getElem?_set_ne hij] at ha hm
      have h3 := hat i a m ha hm
      exact Eq.trans (upd_ne (cs_ne hl ha h3)) h3
section
variable {base : Heap} {mg : Str → Option Value} {K : PySem.W.Frag} {w : World} {P : Program}
theorem ok_poured {f : Addr} {fd : FuncData} (F : Fun K "poured" "poured" s_poured f fd) (T : T2 mg) (cC : Cal P w K mg base 1 "cut" p_cut (spTrim K)) (cM : Cal P w K mg base 1 "multiplied" p_multiplied spMc) (cA : Cal P w K mg base 2 "added" p_added spAc) : FnOk P w K mg base CX0 3 f fd p_poured spPour := by
  refine F.ok sc_poured (fun vs H Q E h => ?_) (fun cdv A outer s H vs Q E hr h => ?_)
  · obtain ⟨t, A, W, k, a, rfl, _⟩ := h
    rfl
  · obtain ⟨t, Am, W, j, x, rfl, ⟨⟨la, lo, ht, hA, hW⟩, W0⟩, h20, bW, bx, k⟩ := h
    have nd := sc_poured.nd
    have r1 : Room 1 _ := hr.mono (by decide)
    have one : 1 ≤ sizeLine := by show 1 ≤ sizeLine; decide
    have two : 2 ≤ sizeLine := by show 2 ≤ sizeLine; decide
    refine ⟨_, pss_cons (ps_asg (pv 2) (pg_tup rfl (pgs_cons (pg_name (i := 3) nd rfl (Or.inl rfl)) (pgs_cons (pg_name (i := 4) nd rfl (Or.inl rfl)) pgs_nil))))
      (pss_cons (ps_set (i := 5) nd rfl (Or.inr rfl) (pe_c cM r1 (pa_cons (pe_c cC r1 (pa_cons (pe_lst (pa_cons (pv 1) pa_nil)) pa_nil)) (pa_cons (pv 4) pa_nil))))
      (pss_one (ps_ret (pe_tup (pa_cons (pe_lc (own := [("k", 6), ("one", 7)]) (g := gTup K 2 (gCons (gName 6) (gCons (gName 7) gNil))) (tt := tYes) (te := tIf (tTest (tOp rEq (tVar 6) (tVar 0))) (tCall spAc [] E0 (tCons (tVar 7) (tCons (tVar 5) tNil))) (tVar 7)) rfl nd (pi_enum (by rfl) T.enu (pa_cons (pv 3) pa_nil)) (blkOk_by (N := n_poured) (sc := defScope s_poured) (by decide +kernel))
          (fun _ _ _ _ _ => pg_tup rfl (pgs_cons (pg_name (i := 6) nd rfl (Or.inl rfl)) (pgs_cons (pg_name (i := 7) nd rfl (Or.inl rfl)) pgs_nil))) (fun _ _ _ _ _ => pts_nil)
          (fun _ _ _ _ _ => pe_ifExp (pt_cmpR op_eq (pv 6) (pv 0) (nomark _)) (pe_c cA hr (pa_cons (pv 7) (pa_cons (pv 5) pa_nil))) (pv 7))) (pa_cons (pv 4) pa_nil)))))), ?_⟩
    refine ⟨_, rfl, t, _, rfl, SqT.of ht, rfl, _, _, rfl, _, _, rfl, rfl, ?_⟩
    refine ⟨_, rfl, one, fun r0 hr0 => ⟨r0, [x], rfl, SqL.of upd_same, by show 1 ≤ 1000; decide, fun r H1 hr1 e1 h1 => ?_⟩⟩
    rw [trm_1] at h1
    have e01 := (Evl.Ex.new (o := .lst [.int x]) hr0).trans e1
    refine ⟨_, rfl, r, lo, x, W, rfl, h1, ?_, bx, bW, fun y H2 hy e2 h2 => ?_⟩
    · rw [cp_n (by omega)]
      exact e01 _ _ hW
    have e02 := e01.trans e2
    have hA2 := hA.ex e02
    obtain ⟨xs, hxs, hxl, hxi⟩ := cs_items hA2
    refine ⟨_, rfl, la, _, rfl, SqL.of hxs, fun D hD => lc_it walk_enum (fun i H' => Evl.Ex H2 H' ∧ CsN H' D (pourA Am W j x) i) ⟨Evl.Ex.new hD, CsN.start upd_same⟩ (fun i H' _ q => SqL.of (q.1 _ _ hxs)) ?_ ?_⟩
    · rintro i v H3 H4 hi ⟨e3, hN⟩ ⟨t3, z, o, rfl, ht3, rfl, hz, ho⟩
      obtain rfl := (Option.some.inj hz).symm
      obtain ⟨a, rfl, hia, hLa⟩ := hxi i _ ho
      have e4 := Evl.Ex.new (o := .tup [.int (i : Nat), .ref a]) ht3
      have e34 := e3.trans e4
      refine ⟨t3, _, rfl, SqT.of upd_same, rfl, _, _, rfl, _, _, rfl, rfl, rfl, ?_⟩
      show tIf (tTest (tOp rEq (tVar 6) (tVar 0))) (tCall spAc [] E0 (tCons (tVar 7) (tCons (tVar 5) tNil))) (tVar 7) _ _ _
      obtain ⟨as0, hD0, _⟩ := id hN
      have hget : (pourA Am W j x)[i]? = some (if (i : Int) = j then Am.getD i 0 + x * W else Am.getD i 0) := map_range_get hia
      refine ⟨_, rfl, _, rfl, rfl, _, rfl, ?_⟩
      by_cases hm : ((i : Nat) : Int) = j
      · rw [if_pos hm] at hget
        refine if_t (decide_eq_true (by rw [hm])) ?_
        refine ⟨_, rfl, _, rfl, a, y, _, _, rfl, e34 _ _ hLa, e34 _ _ h2, fun r H5 hr5 e5 h5 => ?_⟩
        obtain ⟨acc, a1, a2, a3⟩ := hN.more (e4.trans e5) (ne_of_none (e4 _ _ hD0) hr5).symm h5 hget (by omega)
        exact ⟨acc, a1, a2, Evl.Ex.mut (e34.trans e5) hD, a3⟩
      · rw [if_neg hm] at hget
        refine if_f (decide_eq_false fun z => hm (by injection z)) ?_
        obtain ⟨acc, a1, a2, a3⟩ := hN.more e4 (ne_of_none (show H2 a = some _ from hLa) hD) (e34 _ _ hLa) hget (by omega)
        exact ⟨_, rfl, acc, a1, a2, Evl.Ex.mut e34 hD, a3⟩
    · rintro H3 ⟨e3, hN⟩
      rw [hxl, show Am.length = (pourA Am W j x).length by unfold pourA; rw [List.length_map, List.length_range]] at hN
      have hC := hN.done
      refine ⟨_, rfl, two, fun q hq => ?_⟩
      have e5 := Evl.Ex.new (o := .tup [.ref D, .ref lo]) hq
      exact k q _ ((e02.trans e3).trans e5) ⟨⟨D, lo, upd_same, hC.ex e5, e5 _ _ (e3 _ _ (e02 _ _ hW))⟩, W0⟩
end
end V2


namespace V2
open PySem L2
open PySem.Spec PyProof.Rows
def oV : Option Int → V
  | none => .non
  | some m => .int m
/-- the amounts when p of q of tank k are taken, put into the tank o -/
def takeA (A : List Int) (k p q : Int) (o : Option Int) : List Int :=
  let B := (A.map (· * q)).set k.toNat (A.getD k.toNat 0 * (q - p))
  match o with
  | none => B
  | some m => B.set m.toNat (B.getD m.toNat 0 + A.getD k.toNat 0 * p)
def spTake : Sp := fun vs H Q _ => ∃ (f t : Addr) (A : List Int) (W k p q : Int) (o : Option Int), vs = [.int k, oV o, .ref f, .ref t] ∧ Wat H t A W ∧ A.length ≤ 20 ∧ (∀ x ∈ A, Bn 3000 x) ∧ Bn 3000 W ∧ Fr H f p q ∧ Pt p q ∧ (0 ≤ k ∧ k < A.length) ∧
  (∀ m, o = some m → 0 ≤ m ∧ m < A.length) ∧ ∀ t' H', Evl.Ex H H' → Wat H' t' (takeA A k p q o) (W * q) → Q (.ref t') H'
section
variable {base : Heap} {mg : Str → Option Value} {K : PySem.W.Frag} {w : World} {P : Program}
theorem ok_taken {f : Addr} {fd : FuncData} (F : Fun K "taken" "taken" s_taken f fd) (cC : Cal P w K mg base 1 "cut" p_cut (spTrim K)) (cM : Cal P w K mg base 1 "multiplied" p_multiplied spMc) (cA : Cal P w K mg base 2 "added" p_added spAc) : FnOk P w K mg base CX0 3 f fd p_taken spTake := by
  refine F.ok sc_taken (fun vs H Q E h => ?_) (fun cdv A outer s H vs Q E hr h => ?_)
  · obtain ⟨g, t, A, W, k, p, q, o, rfl, _⟩ := h
    rfl
  · obtain ⟨g, t, Am, W, j, p, q, o, rfl, ⟨⟨la, lo, ht, hA, hW⟩, W0⟩, h20, bA, bW, hg, ⟨p0, pq, hQn⟩, ⟨j0, j1⟩, hm, k⟩ := h
    have nd := sc_taken.nd
    have r1 : Room 1 _ := hr.mono (by decide)
    have one : 1 ≤ sizeLine := by show 1 ≤ sizeLine; decide
    have two : 2 ≤ sizeLine := by show 2 ≤ sizeLine; decide
    obtain ⟨q0, qc, pb, qb⟩ := hQn
    have bq : Bn 3000 q := Nat.lt_of_lt_of_le qb (Nat.pow_le_pow_right (by decide) (by decide))
    have bp : Bn 3000 p := Nat.lt_of_lt_of_le pb (Nat.pow_le_pow_right (by decide) (by decide))
    have bqp : Bn 3000 (q - p) := Nat.lt_of_le_of_lt (show (q - p).natAbs ≤ q.natAbs by omega) bq
    refine ⟨_, pss_cons (ps_asg (pv 3) (pg_tup rfl (pgs_cons (pg_name (i := 4) nd rfl (Or.inl rfl)) (pgs_cons (pg_name (i := 5) nd rfl (Or.inl rfl)) pgs_nil))))
      (pss_cons (ps_asg (pv 2) (pg_tup rfl (pgs_cons (pg_name (i := 6) nd rfl (Or.inl rfl)) (pgs_cons (pg_name (i := 7) nd rfl (Or.inr rfl)) pgs_nil))))
      (pss_cons (ps_setLc (i := 8) (own := [("one", 9)]) (g := gName 9) (tt := tYes) (te := tCall spMc [] E0 (tCons (tVar 9) (tCons (tLst (tCons (tVar 7) tNil)) tNil))) rfl nd rfl rfl (sw_true rfl rfl rfl (by decide +kernel)) (pi_list (pv 4)) (blkOk_by (N := n_taken) (sc := defScope s_taken) (by decide +kernel)) (fun _ _ _ _ _ => pg_name (i := 9) nd rfl (Or.inl rfl)) (fun _ _ _ _ _ => pts_nil)
          (fun _ _ _ _ _ => pe_c cM r1 (pa_cons (pv 9) (pa_cons (pe_lst (pa_cons (pv 7) pa_nil)) pa_nil))))
      (pss_cons (ps_asg (pe_c cM r1 (pa_cons (pe_ix ix_list (pv 4) (pv 0) (fun _ _ => rfl)) (pa_cons (pe_c cC r1 (pa_cons (pe_lst (pa_cons (pe_op op_sub (pv 7) (pv 6)) pa_nil)) pa_nil)) pa_nil))) (pg_sub (pv 8) (pv 0) set_list))
      (Evl.pss_cut (ps_if (pt_cmp (pc_notN (pv 1))) (pss_one (ps_asg (pe_c cA hr (pa_cons (pe_ix ix_list (pv 8) (pv 1) (fun _ _ => rfl)) (pa_cons (pe_c cM r1 (pa_cons (pe_ix ix_list (pv 4) (pv 0) (fun _ _ => rfl)) (pa_cons (pe_c cC r1 (pa_cons (pe_lst (pa_cons (pv 6) pa_nil)) pa_nil)) pa_nil))) pa_nil))) (pg_sub (pv 8) (pv 1) set_list))) pss_nil)
      (pss_one (ps_ret (pe_tup (pa_cons (pv 8) (pa_cons (pe_c cM r1 (pa_cons (pv 5) (pa_cons (pe_lst (pa_cons (pv 7) pa_nil)) pa_nil))) pa_nil))))))))), ?_⟩
    refine ⟨_, rfl, t, _, rfl, SqT.of ht, rfl, _, _, rfl, _, _, rfl, rfl, ?_⟩
    refine ⟨_, rfl, g, _, rfl, SqT.of hg, rfl, _, _, rfl, _, _, rfl, rfl, ?_⟩
    obtain ⟨xs, hxs, hxl, hxi⟩ := cs_items hA
    have hjn : j.toNat < Am.length := by omega
    obtain ⟨jn, rfl⟩ : ∃ n : Nat, j = n := ⟨j.toNat, by omega⟩
    rw [Int.toNat_natCast] at hjn
    have hxj : xs[jn]? = some xs[jn] := List.getElem?_eq_getElem (by omega)
    obtain ⟨aj, haj, _, hLj⟩ := hxi jn _ hxj
    rw [haj] at hxj
    have bAj := bA _ (getD_mem' hjn)
    refine ⟨_, rfl, la, rfl, ⟨_, SqL.of hxs⟩, fun D hD => lc_list (xs := xs) (fun i H' => Evl.Ex H H' ∧ CsN H' D (Am.map (· * q)) i) ⟨Evl.Ex.new hD, CsN.start upd_same⟩ (fun i H' _ z => SqL.of (z.1 _ _ hxs)) ?_ ?_⟩
    · rintro i v H2 hi ⟨e2, hN⟩
      obtain ⟨a, rfl, hia, hLa⟩ := hxi i _ hi
      refine ⟨rfl, ?_⟩
      show tCall spMc [] E0 (tCons (tVar 9) (tCons (tLst (tCons (tVar 7) tNil)) tNil)) _ _ _
      obtain ⟨as0, hD0, _⟩ := id hN
      have hget : (Am.map (· * q))[i]? = some (Am.getD i 0 * q) := by
        rw [List.getElem?_map, getD_some hia]
        rfl
      refine ⟨_, rfl, _, rfl, one, fun r0 hr0 => ⟨a, r0, Am.getD i 0, q, rfl, Evl.Ex.new hr0 _ _ (e2 _ _ hLa), ?_, bA _ (getD_mem' hia), bq, fun r H4 hr4 e4 h4 => ?_⟩⟩
      · rw [cp_n (by omega)]
        exact upd_same
      · have e3 := Evl.Ex.new (o := .lst [.int q]) hr0
        obtain ⟨acc, a1, a2, a3⟩ := hN.more (e3.trans e4) (ne_of_none (e3 _ _ hD0) hr4).symm h4 hget (by omega)
        exact ⟨acc, a1, a2, Evl.Ex.mut ((e2.trans e3).trans e4) hD, a3⟩
    · rintro H2 ⟨e2, hN⟩
      rw [hxl, show Am.length = (Am.map (· * q)).length by rw [List.length_map]] at hN
      obtain ⟨as, hDa, hDl, hDi⟩ := hN.done
      -- found[tank]
      refine ⟨_, rfl, _, rfl, la, xs, _, _, rfl, rfl, SqL.of (e2 _ _ hxs), atI_nat hxj, _, rfl, _, rfl, _, _, rfl, rfl, one, fun r0 hr0 => ⟨r0, [q - p], rfl, SqL.of upd_same, by show 1 ≤ 1000; decide, fun r1' H3 hr3 e3 h3 => ?_⟩⟩
      rw [trm_1] at h3
      have e23 := (Evl.Ex.new (o := .lst [.int (q - p)]) hr0).trans e3
      have e03 := e2.trans e23
      refine ⟨aj, r1', _, _, rfl, e03 _ _ hLj, h3, bAj, bqp, fun r2 H4 hr4 e4 h4 => ?_⟩
      have e24 := e23.trans e4
      have e04 := e2.trans e24
      have hD4 : H4 D = some (.lst (as.map V.ref)) := e24 _ _ hDa
      have r2D : r2 ≠ D := (ne_of_none (e23 _ _ hDa) hr4).symm
      have hDi4 : ∀ (i : Nat) (a : Addr) (n : Int), as[i]? = some a → (Am.map (· * q))[i]? = some n → Li H4 a (cp n) := fun i a n x y => e24 _ _ (hDi i a n x y)
      have hset := cs_set (r := r2) (j := jn) hD4 hDl hDi4 r2D h4 (by rw [List.length_map]; exact hjn)
      refine ⟨_, rfl, _, rfl, D, _, _, jn, rfl, rfl, hD4, Evl.ixN_nat (by rw [List.length_map, hDl, List.length_map]; exact hjn), ?_⟩
      have x5 : Evl.Ex H (upd H4 D (.lst ((as.map V.ref).set jn (.ref r2)))) := Evl.Ex.mut e04 hD
      generalize upd H4 D (.lst ((as.map V.ref).set jn (.ref r2))) = H5 at hset x5
      -- the other tank
      refine ⟨fun σ H' => Evl.Ex H H' ∧ σ = [some (.int (jn : Int)), some (oV o), some (.ref g), some (.ref t), some (.ref la), some (.ref lo), some (.int p), some (.int q), some (.ref D), none] ∧ CsAt H' D (takeA Am jn p q o), ?_, ?_⟩
      · refine ⟨_, rfl, _, rfl, ?_⟩
        cases o with
        | none => exact ⟨x5, rfl, by unfold takeA; rw [Int.toNat_natCast]; exact hset⟩
        | some m =>
          obtain ⟨m0, m1⟩ := hm m rfl
          obtain ⟨mn, rfl⟩ : ∃ n : Nat, m = n := ⟨m.toNat, by omega⟩
          have hmn : mn < Am.length := by omega
          obtain ⟨bs, hDb, hDbl, hDbi⟩ := id hset
          have hBl : ((Am.map (· * q)).set jn (Am.getD jn 0 * (q - p))).length = Am.length := by rw [List.length_set, List.length_map]
          have hbm : bs[mn]? = some bs[mn] := List.getElem?_eq_getElem (by rw [hDbl, hBl]; exact hmn)
          have hbL := hDbi mn _ _ hbm (getD_some (by rw [hBl]; exact hmn))
          refine ⟨_, rfl, _, rfl, D, _, _, _, rfl, rfl, SqL.of hDb, atI_nat (by rw [List.getElem?_map, hbm]; rfl), ?_⟩
          refine ⟨_, rfl, _, rfl, la, xs, _, _, rfl, rfl, SqL.of (x5 _ _ hxs), atI_nat hxj, _, rfl, one, fun s0 hs0 => ⟨s0, [p], rfl, SqL.of upd_same, by show 1 ≤ 1000; decide, fun s1 H6 hs6 e6 h6 => ?_⟩⟩
          rw [trm_1] at h6
          have e56 := (Evl.Ex.new (o := .lst [.int p]) hs0).trans e6
          refine ⟨aj, s1, _, _, rfl, e56 _ _ (x5 _ _ hLj), h6, bAj, bp, fun s2 H7 hs7 e7 h7 => ?_⟩
          have e57 := e56.trans e7
          refine ⟨bs[mn], s2, _, _, rfl, e57 _ _ hbL, h7, fun s3 H8 hs8 e8 h8 => ?_⟩
          have e58 := e57.trans e8
          have hD8 : H8 D = some (.lst (bs.map V.ref)) := e58 _ _ hDb
          have s3D : s3 ≠ D := (ne_of_none (e57 _ _ hDb) hs8).symm
          have hset2 := cs_set (r := s3) (j := mn) hD8 hDbl (fun i a n x y => e58 _ _ (hDbi i a n x y)) s3D h8 (by rw [hBl]; exact hmn)
          refine ⟨_, rfl, _, rfl, D, _, _, mn, rfl, rfl, hD8, Evl.ixN_nat (by rw [List.length_map, hDbl, hBl]; exact hmn), ?_⟩
          refine ⟨Evl.Ex.mut (x5.trans e58) hD, rfl, ?_⟩
          unfold takeA
          rw [Int.toNat_natCast]
          exact hset2
      · rintro σ H6 ⟨e6, rfl, hC⟩
        refine ⟨_, rfl, _, rfl, _, rfl, one, fun r0 hr0 => ⟨lo, r0, W, q, rfl, ?_, ?_, bW, bq, fun y H7 hy e7 h7 => ⟨two, fun z hz => ?_⟩⟩⟩
        · rw [cp_n (by omega)]
          exact Evl.Ex.new hr0 _ _ (e6 _ _ hW)
        · rw [cp_n (by omega)]
          exact upd_same
        · have e67 := (Evl.Ex.new (o := .lst [.int q]) hr0).trans e7
          have e8 := Evl.Ex.new (o := .tup [.ref D, .ref y]) hz
          have Wq : 0 < W * q := Int.mul_pos W0 q0
          have h7 : H7 y = some (.lst (iV (cp (W * q)))) := h7
          rw [cp_n (Int.ne_of_gt Wq)] at h7
          exact k z _ ((e6.trans e67).trans e8) ⟨⟨D, y, upd_same, (hC.ex e67).ex e8, e8 _ _ h7⟩, Wq⟩
end
end V2


namespace V2
open PySem L2
open PySem.Spec PyProof.Rows
/-- what a step does -/
def stepA (ws : List Int) (S : List Int × Int) : Deed → List Int × Int
  | .op ks => (openA S.1 ws ks, S.2 * (pick ws ks).sum)
  | .po k a => (pourA S.1 S.2 k a, S.2)
  | .sc k p q => (takeA S.1 k p q none, S.2 * q)
  | .mv k m p q => (takeA S.1 k p q (some m), S.2 * q)
  | .un _ _ => S
theorem bn_sum {N : Nat} : ∀ xs : List Int, (∀ x ∈ xs, Bn N x) → xs.sum.natAbs ≤ xs.length * 2 ^ N
  | [], _ => by simp
  | x :: r, h => by
    have h1 := bn_sum r fun y hy => h y (List.mem_cons_of_mem _ hy)
    have h2 : x.natAbs < 2 ^ N := h x List.mem_cons_self
    have h3 : (x :: r).sum = x + r.sum := List.sum_cons
    rw [h3, List.length_cons, Nat.succ_mul r.length (2 ^ N)]
    omega
theorem bn_sum20 {N : Nat} {xs : List Int} (h : ∀ x ∈ xs, Bn N x) (hl : xs.length ≤ 20) : Bn (N + 5) xs.sum := by
  have h1 := bn_sum xs h
  have h2 := Nat.mul_le_mul_right (2 ^ N) hl
  have h3 : (2 : Nat) ^ (N + 5) = 32 * 2 ^ N := by rw [Nat.pow_add, Nat.mul_comm]
  have h4 : 0 < 2 ^ N := Nat.pow_pos (by decide)
  unfold Bn
  omega
theorem pick_mem {ns ks : List Int} (hok : okK ns.length ks) {x : Int} (h : x ∈ pick ns ks) : x ∈ ns := by
  unfold pick at h
  obtain ⟨k, hk, rfl⟩ := List.mem_map.mp h
  obtain ⟨k0, k1⟩ := hok.2 k hk
  exact getD_mem' (by omega)
theorem pick_len (ns ks : List Int) : (pick ns ks).length = ks.length := by unfold pick; rw [List.length_map]
theorem sum_pos : ∀ {xs : List Int}, xs ≠ [] → (∀ x ∈ xs, 0 < x) → 0 < xs.sum
  | [], h, _ => absurd rfl h
  | [x], _, h => by
    have := h x List.mem_cons_self
    simpa using this
  | x :: y :: r, _, h => by
    have h1 := sum_pos (xs := y :: r) (by simp) fun z hz => h z (List.mem_cons_of_mem _ hz)
    have h2 := h x List.mem_cons_self
    rw [List.sum_cons]
    omega
/-- the state of the water: amounts from 0 on, of at most N bits -/
structure OkW (N : Nat) (A : List Int) (W : Int) : Prop where
  nn : ∀ x ∈ A, 0 ≤ x
  bA : ∀ x ∈ A, Bn N x
  bW : Bn N W
  pos : 0 < W
structure OkV (n : Nat) (ws : List Int) : Prop where
  len : ws.length = n
  pos : ∀ x ∈ ws, 0 < x
  bit : ∀ x ∈ ws, Bn 60 x
def spAfter : Sp := fun vs H Q _ => ∃ (s t lw : Addr) (d : Deed) (A ws : List Int) (W : Int) (N : Nat), vs = [.ref s, .ref t, .ref lw] ∧ DAt H s d ∧ okD A.length d ∧ (∀ k a, d = .po k a → Bn 60 a) ∧ Wat H t A W ∧ CsAt H lw ws ∧ A.length ≤ 20 ∧ OkV A.length ws ∧ OkW N A W ∧ N ≤ 2900 ∧
  ∀ t' H', Evl.Ex H H' → Wat H' t' (stepA ws (A, W) d).1 (stepA ws (A, W) d).2 → Q (.ref t') H'
/-- the level of a tank -/
def lvl (A ws : List Int) (W b : Int) (i : Nat) : Int × Int := fr (A.getD i 0 * b) (W * ws.getD i 0)
def FmAt (H : Hp) (l : Addr) (fs : List (Int × Int)) : Prop := ∃ as : List Addr, H l = some (.lst (as.map V.ref)) ∧ as.length = fs.length ∧ ∀ (i : Nat) (a : Addr) (f : Int × Int), as[i]? = some a → fs[i]? = some f → ∃ x y, H a = some (.tup [.ref x, .ref y]) ∧ Li H x (cp f.1) ∧ Li H y [f.2]
def spLev : Sp := fun vs H Q _ => ∃ (t lw : Addr) (A ws : List Int) (W b : Int) (N : Nat), vs = [.ref t, .ref lw, .int b] ∧ Wat H t A W ∧ CsAt H lw ws ∧ A.length ≤ 20 ∧ OkV A.length ws ∧ OkW N A W ∧ N ≤ 2500 ∧ 0 < b ∧ Bn 50 b ∧
  ∀ D H', H D = none → Evl.Ex H H' → FmAt H' D ((List.range A.length).map (lvl A ws W b)) → Q (.ref D) H'
section
variable {base : Heap} {mg : Str → Option Value} {K : PySem.W.Frag} {w : World} {P : Program}
theorem ok_after {f : Addr} {fd : FuncData} (F : Fun K "after" "after" s_after f fd) (cO : Cal P w K mg base 5 "opened" p_opened spOpen) (cP : Cal P w K mg base 3 "poured" p_poured spPour) (cT : Cal P w K mg base 3 "taken" p_taken spTake) : FnOk P w K mg base CX0 6 f fd p_after spAfter := by
  refine F.ok sc_after (fun vs H Q E h => ?_) (fun cdv A outer s H vs Q E hr h => ?_)
  · obtain ⟨s, t, lw, d, A, ws, W, N, rfl, _⟩ := h
    rfl
  · obtain ⟨s, t, lw, d, Am, ws, W, N, rfl, hd, hok, hpo, hWt, hw, h20, hV, hW, hN, k⟩ := h
    have nd := sc_after.nd
    have r3 : Room 3 _ := hr.mono (by decide)
    refine ⟨_, pss_cons (ps_set (i := 3) nd rfl (Or.inl rfl) (pe_ix ix_tup (pv 0) pe_int (fun _ _ => rfl)))
      (pss_cons (ps_if (pt_cmpR op_eq (pv 3) pe_str (nomark _)) (pss_one (ps_ret (pe_c cO hr (pa_cons (pe_ix ix_tup (pv 0) pe_int (fun _ _ => rfl)) (pa_cons (pv 1) (pa_cons (pv 2) pa_nil)))))) pss_nil)
      (pss_cons (ps_if (pt_cmpR op_eq (pv 3) pe_str (nomark _)) (pss_one (ps_ret (pe_c cP r3 (pa_cons (pe_ix ix_tup (pv 0) pe_int (fun _ _ => rfl)) (pa_cons (pe_ix ix_tup (pv 0) pe_int (fun _ _ => rfl)) (pa_cons (pv 1) pa_nil)))))) pss_nil)
      (pss_cons (ps_if (pt_cmpR op_eq (pv 3) pe_str (nomark _)) (pss_one (ps_ret (pe_c cT r3 (pa_cons (pe_ix ix_tup (pv 0) pe_int (fun _ _ => rfl)) (pa_cons pe_non (pa_cons (pe_ix ix_tup (pv 0) pe_int (fun _ _ => rfl)) (pa_cons (pv 1) pa_nil))))))) pss_nil)
      (pss_cons (ps_if (pt_cmpR op_eq (pv 3) pe_str (nomark _)) (pss_one (ps_ret (pe_c cT r3 (pa_cons (pe_ix ix_tup (pv 0) pe_int (fun _ _ => rfl)) (pa_cons (pe_ix ix_tup (pv 0) pe_int (fun _ _ => rfl)) (pa_cons (pe_ix ix_tup (pv 0) pe_int (fun _ _ => rfl)) (pa_cons (pv 1) pa_nil))))))) pss_nil)
      (pss_one (ps_ret (pv 1))))))), ?_⟩
    cases d with
    | op ks =>
      obtain ⟨l, ha, hl⟩ := hd
      obtain ⟨h2, hk20, _, hks⟩ := hok
      have ok1 : okK Am.length ks := ⟨hk20, hks⟩
      have ok2 : okK ws.length ks := by rw [hV.len]; exact ok1
      have l20 : ∀ ns : List Int, (pick ns ks).length ≤ 20 := fun ns => by rw [pick_len]; exact hk20
      refine ⟨_, rfl, s, _, _, _, rfl, rfl, SqT.of ha, rfl, _, rfl, rfl, _, rfl, if_t (by decide) ?_⟩
      refine ⟨_, rfl, s, _, _, _, rfl, rfl, SqT.of ha, rfl, _, rfl, _, rfl, l, t, lw, ks, Am, ws, W, rfl, hl, hWt, hw, ok1, hV.len, h20, fun x hx => (hW.bA x hx).le (by omega), hW.bW.le (by omega), fun x hx => (hV.bit x hx).le (by decide), ?_, ?_, ?_, k⟩
      · exact (bn_sum20 (fun x hx => hW.bA x (pick_mem ok1 hx)) (l20 _)).le (by omega)
      · exact (bn_sum20 (fun x hx => hV.bit x (pick_mem ok2 hx)) (l20 _)).le (by decide)
      · refine sum_pos (fun z => ?_) fun x hx => hV.pos x (pick_mem ok2 hx)
        have := congrArg List.length z
        rw [pick_len, List.length_nil] at this
        omega
    | po j x =>
      have ha : H s = some (.tup [.str "pour", .int j, .int x]) := hd
      refine ⟨_, rfl, s, _, _, _, rfl, rfl, SqT.of ha, rfl, _, rfl, rfl, _, rfl, if_f (by decide) ?_⟩
      refine ⟨_, rfl, rfl, _, rfl, if_t (by decide) ?_⟩
      exact ⟨_, rfl, s, _, _, _, rfl, rfl, SqT.of ha, rfl, _, rfl, s, _, _, _, rfl, rfl, SqT.of ha, rfl, _, rfl, t, Am, W, j, x, rfl, hWt, h20, hW.bW.le (by omega), (hpo j x rfl).le (by decide), k⟩
    | sc j p q =>
      obtain ⟨g, ha, hg⟩ := hd
      refine ⟨_, rfl, s, _, _, _, rfl, rfl, SqT.of ha, rfl, _, rfl, rfl, _, rfl, if_f (by decide) ?_⟩
      refine ⟨_, rfl, rfl, _, rfl, if_f (by decide) ?_⟩
      refine ⟨_, rfl, rfl, _, rfl, if_t (by decide) ?_⟩
      exact ⟨_, rfl, s, _, _, _, rfl, rfl, SqT.of ha, rfl, _, rfl, s, _, _, _, rfl, rfl, SqT.of ha, rfl, _, rfl, g, t, Am, W, j, p, q, none, rfl, hWt, h20, fun x hx => (hW.bA x hx).le (by omega), hW.bW.le (by omega), hg, hok.2, hok.1, fun m hm => (by cases hm), k⟩
    | mv j m p q =>
      obtain ⟨g, ha, hg⟩ := hd
      refine ⟨_, rfl, s, _, _, _, rfl, rfl, SqT.of ha, rfl, _, rfl, rfl, _, rfl, if_f (by decide) ?_⟩
      refine ⟨_, rfl, rfl, _, rfl, if_f (by decide) ?_⟩
      refine ⟨_, rfl, rfl, _, rfl, if_f (by decide) ?_⟩
      refine ⟨_, rfl, rfl, _, rfl, if_t (by decide) ?_⟩
      exact ⟨_, rfl, s, _, _, _, rfl, rfl, SqT.of ha, rfl, _, rfl, s, _, _, _, rfl, rfl, SqT.of ha, rfl, _, rfl, s, _, _, _, rfl, rfl, SqT.of ha, rfl, _, rfl, g, t, Am, W, j, p, q, some m, rfl, hWt, h20, fun x hx => (hW.bA x hx).le (by omega), hW.bW.le (by omega), hg, hok.2.2.2, hok.1, fun m' hm => (by cases hm; exact hok.2.1), k⟩
    | un j m =>
      have ha : H s = some (.tup [.str "unless", .int j, .int m]) := hd
      refine ⟨_, rfl, s, _, _, _, rfl, rfl, SqT.of ha, rfl, _, rfl, rfl, _, rfl, if_f (by decide) ?_⟩
      refine ⟨_, rfl, rfl, _, rfl, if_f (by decide) ?_⟩
      refine ⟨_, rfl, rfl, _, rfl, if_f (by decide) ?_⟩
      refine ⟨_, rfl, rfl, _, rfl, if_f (by decide) ?_⟩
      exact ⟨_, rfl, k t H (Evl.Ex.refl _) hWt⟩
end
end V2


namespace V2
open PySem L2
open PySem.Spec PyProof.Rows
/-- while the list of forms at D is being made -/
def FmN (H : Hp) (D : Addr) (fs : List (Int × Int)) (i : Nat) : Prop := ∃ as : List Addr, H D = some (.lst (as.map V.ref)) ∧ as.length = i ∧ ∀ (j : Nat) (a : Addr) (f : Int × Int), as[j]? = some a → fs[j]? = some f → ∃ x y, a ≠ D ∧ x ≠ D ∧ y ≠ D ∧ H a = some (.tup [.ref x, .ref y]) ∧ Li H x (cp f.1) ∧ Li H y [f.2]
theorem FmN.start {H : Hp} {D : Addr} {fs : List (Int × Int)} (h : H D = some (.lst [])) : FmN H D fs 0 := ⟨[], h, rfl, fun j a n h => by cases h⟩
theorem FmN.more {H2 H3 : Hp} {D r x y : Addr} {fs : List (Int × Int)} {i : Nat} {f : Int × Int} (h : FmN H2 D fs i) (e : Evl.Ex H2 H3) (hx : x ≠ D) (hy : y ≠ D) (hr : H3 r = some (.tup [.ref x, .ref y])) (h3 : Li H3 x (cp f.1)) (h4 : Li H3 y [f.2]) (hn : fs[i]? = some f) (hi : i ≤ 100) :
    ∃ acc, H3 D = some (.lst acc) ∧ acc.length < sizeLine ∧ FmN (upd H3 D (.lst (acc ++ [.ref r]))) D fs (i + 1) := by
  obtain ⟨as, h1, h2, h5⟩ := h
  have h1' := e _ _ h1
  have rD : r ≠ D := ne_of hr h1' (fun z => by cases z)
  refine ⟨_, h1', ?_, as ++ [r], ?_, ?_, fun j a m ha hm => ?_⟩
  · rw [List.length_map, h2]
    exact Nat.lt_of_le_of_lt hi (by decide)
  · rw [upd_same, List.map_append]
    rfl
  · rw [List.length_append, h2]
    rfl
  · rcases get_app ha with ⟨h6, _⟩ | ⟨h6, rfl⟩
    · obtain ⟨x', y', n1, n2, n3, g1, g2, g3⟩ := h5 j a m h6 hm
      exact ⟨x', y', n1, n2, n3, by rw [upd_ne n1]; exact e _ _ g1, Eq.trans (upd_ne n2) (e _ _ g2), Eq.trans (upd_ne n3) (e _ _ g3)⟩
    · rw [h6, h2, hn] at hm
      cases hm
      exact ⟨x, y, rD, hx, hy, by rw [upd_ne rD]; exact hr, Eq.trans (upd_ne hx) h3, Eq.trans (upd_ne hy) h4⟩
theorem FmN.done {H : Hp} {D : Addr} {fs : List (Int × Int)} (h : FmN H D fs fs.length) : FmAt H D fs := by
  obtain ⟨as, h1, h2, h3⟩ := h
  exact ⟨as, h1, h2, fun i a f x y => let ⟨u, v, _, _, _, g⟩ := h3 i a f x y; ⟨u, v, g⟩⟩
section
variable {base : Heap} {mg : Str → Option Value} {K : PySem.W.Frag} {w : World} {P : Program}
theorem ok_levels {f : Addr} {fd : FuncData} (F : Fun K "levels" "levels" s_levels f fd) (T : T2 mg) (cM : Cal P w K mg base 1 "multiplied" p_multiplied spMc) (cR : Cal P w K mg base 5 "reduced" p_reduced spRed1) : FnOk P w K mg base CX0 6 f fd p_levels spLev := by
  refine F.ok sc_levels (fun vs H Q E h => ?_) (fun cdv A outer s H vs Q E hr h => ?_)
  · obtain ⟨t, lw, A, ws, W, b, N, rfl, _⟩ := h
    rfl
  · obtain ⟨t, lw, Am, ws, W, b, N, rfl, ⟨⟨la, lo, ht, hA, hW⟩, _⟩, hw, h20, hV, hOk, hN, b0, bb, k⟩ := h
    have nd := sc_levels.nd
    have r1 : Room 1 _ := hr.mono (by decide)
    have one : 1 ≤ sizeLine := by show 1 ≤ sizeLine; decide
    refine ⟨_, pss_cons (ps_asg (pv 0) (pg_tup rfl (pgs_cons (pg_name (i := 3) nd rfl (Or.inl rfl)) (pgs_cons (pg_name (i := 4) nd rfl (Or.inr rfl)) pgs_nil))))
      (pss_one (ps_ret (pe_lc (own := [("k", 5), ("one", 6)]) (g := gTup K 2 (gCons (gName 5) (gCons (gName 6) gNil))) (tt := tYes) (te := tCall spRed1 [] E0 (tCons (tCall spMc [] E0 (tCons (tVar 6) (tCons (tLst (tCons (tVar 2) tNil)) tNil))) (tCons (tCall spMc [] E0 (tCons (tVar 4) (tCons (tOp (rIxL K) (tVar 1) (tVar 5)) tNil))) tNil))) rfl nd (pi_enum (by rfl) T.enu (pa_cons (pv 3) pa_nil)) (blkOk_by (N := n_levels) (sc := defScope s_levels) (by decide +kernel))
          (fun _ _ _ _ _ => pg_tup rfl (pgs_cons (pg_name (i := 5) nd rfl (Or.inl rfl)) (pgs_cons (pg_name (i := 6) nd rfl (Or.inl rfl)) pgs_nil))) (fun _ _ _ _ _ => pts_nil)
          (fun _ _ _ _ _ => pe_c cR hr (pa_cons (pe_c cM r1 (pa_cons (pv 6) (pa_cons (pe_lst (pa_cons (pv 2) pa_nil)) pa_nil))) (pa_cons (pe_c cM r1 (pa_cons (pv 4) (pa_cons (pe_ix ix_list (pv 1) (pv 5) (fun _ _ => rfl)) pa_nil))) pa_nil)))))), ?_⟩
    refine ⟨_, rfl, t, _, rfl, SqT.of ht, rfl, _, _, rfl, _, _, rfl, rfl, ?_⟩
    obtain ⟨xs, hxs, hxl, hxi⟩ := cs_items hA
    obtain ⟨ys, hys, hyl, hyi⟩ := cs_items hw
    refine ⟨_, rfl, la, _, rfl, SqL.of hxs, fun D hD => lc_it walk_enum (fun i H' => Evl.Ex H H' ∧ FmN H' D ((List.range Am.length).map (lvl Am ws W b)) i) ⟨Evl.Ex.new hD, FmN.start upd_same⟩ (fun i H' _ q => SqL.of (q.1 _ _ hxs)) ?_ ?_⟩
    · rintro i v H3 H4 hi ⟨e3, hN3⟩ ⟨t3, z, o, rfl, ht3, rfl, hz, ho⟩
      obtain rfl := (Option.some.inj hz).symm
      obtain ⟨a, rfl, hia, hLa⟩ := hxi i _ ho
      have e4 := Evl.Ex.new (o := .tup [.int (i : Nat), .ref a]) ht3
      have e34 := e3.trans e4
      refine ⟨t3, _, rfl, SqT.of upd_same, rfl, _, _, rfl, _, _, rfl, rfl, rfl, ?_⟩
      show tCall spRed1 [] E0 (tCons (tCall spMc [] E0 (tCons (tVar 6) (tCons (tLst (tCons (tVar 2) tNil)) tNil))) (tCons (tCall spMc [] E0 (tCons (tVar 4) (tCons (tOp (rIxL K) (tVar 1) (tVar 5)) tNil))) tNil)) _ _ _
      have hiw : i < ws.length := by rw [hV.len]; exact hia
      have hyx : ys[i]? = some ys[i] := List.getElem?_eq_getElem (by omega)
      obtain ⟨bq, hb, _, hLb⟩ := hyi i _ hyx
      rw [hb] at hyx
      have bAi := hOk.bA _ (getD_mem' hia)
      have bwi := hV.bit _ (getD_mem' hiw)
      have pwi := hV.pos _ (getD_mem' hiw)
      have hget : ((List.range Am.length).map (lvl Am ws W b))[i]? = some (lvl Am ws W b i) := by
        rw [List.getElem?_map, List.getElem?_range hia]
        rfl
      obtain ⟨as0, hD0, _⟩ := id hN3
      have hD4 := e4 _ _ hD0
      generalize upd H3 t3 (.tup [.int (i : Nat), .ref a]) = H4 at e4 e34 hD4
      refine ⟨_, rfl, _, rfl, one, fun r0 hr0 => ⟨a, r0, Am.getD i 0, b, rfl, Evl.Ex.new hr0 _ _ (e34 _ _ hLa), ?_, bAi.le (by omega), bb.le (by decide), fun r H5 hr5 e5 h5 => ?_⟩⟩
      · rw [cp_n (by omega)]
        exact upd_same
      have e45 := (Evl.Ex.new (o := .lst [.int b]) hr0).trans e5
      have e05 := e34.trans e45
      refine ⟨_, rfl, _, rfl, _, rfl, lw, _, _, _, rfl, rfl, SqL.of (e05 _ _ hys), atI_nat hyx, lo, bq, W, ws.getD i 0, rfl, ?_, e05 _ _ hLb, hOk.bW.le (by omega), bwi.le (by decide), fun r2 H6 hr6 e6 h6 => ?_⟩
      · rw [cp_n (by have := hOk.pos; omega)]
        exact e05 _ _ hW
      have Ww : 0 < W * ws.getD i 0 := Int.mul_pos hOk.pos pwi
      have h6 : H6 r2 = some (.lst (iV (cp (W * ws.getD i 0)))) := h6
      rw [cp_n (Int.ne_of_gt Ww)] at h6
      refine ⟨r, r2, Am.getD i 0 * b, W * ws.getD i 0, rfl, e6 _ _ h5, h6, Ww, (bAi.mul bb).le (by omega), (hOk.bW.mul bwi).le (by omega), fun q x y H7 hx hy e7 hq hLx hLy => ?_⟩
      have e47 := (e45.trans e6).trans e7
      have hD6 := e6 _ _ (e45 _ _ hD4)
      obtain ⟨acc, a1, a2, a3⟩ := hN3.more (e4.trans e47) (ne_of_none hD6 hx).symm (ne_of_none hD6 hy).symm hq hLx hLy hget (by omega)
      exact ⟨acc, a1, a2, Evl.Ex.mut (e34.trans e47) hD, a3⟩
    · rintro H2 ⟨e2, hN2⟩
      rw [hxl] at hN2
      exact k D H2 hD e2 (FmN.done (by rw [List.length_map, List.length_range]; exact hN2))
end
end V2


namespace V2
open PySem L2
/-! ## the sizes of what stands in the tanks -/
theorem sum_nn : ∀ {xs : List Int}, (∀ x ∈ xs, 0 ≤ x) → 0 ≤ xs.sum
  | [], _ => by simp
  | x :: r, h => by
    have h1 := sum_nn fun z hz => h z (List.mem_cons_of_mem _ hz)
    have h2 := h x List.mem_cons_self
    rw [List.sum_cons]
    omega
theorem openA_len (A ws ks : List Int) : (openA A ws ks).length = A.length := by unfold openA; rw [List.length_map, List.length_range]
theorem pourA_len (A : List Int) (W k a : Int) : (pourA A W k a).length = A.length := by unfold pourA; rw [List.length_map, List.length_range]
theorem takeA_len (A : List Int) (k p q : Int) (o : Option Int) : (takeA A k p q o).length = A.length := by
  unfold takeA
  cases o with
  | none => simp
  | some m => simp
theorem stepA_len (ws A : List Int) (W : Int) (d : Deed) : (stepA ws (A, W) d).1.length = A.length := by
  cases d with
  | op ks => exact openA_len _ _ _
  | po k a => exact pourA_len _ _ _ _
  | sc k p q => exact takeA_len A k p q none
  | mv k m p q => exact takeA_len A k p q (some m)
  | un k m => rfl
theorem mem_set' {α : Type} {l : List α} {i : Nat} {x y : α} (h : y ∈ l.set i x) : y ∈ l ∨ y = x := by
  rcases List.mem_or_eq_of_mem_set h with h | h
  · exact .inl h
  · exact .inr h
theorem getD_or (A : List Int) (i : Nat) : A.getD i 0 ∈ A ∨ A.getD i 0 = 0 := by
  by_cases h : i < A.length
  · exact .inl (getD_mem' h)
  · right
    rw [List.getD_eq_getElem?_getD, List.getElem?_eq_none (by omega)]
    rfl
theorem bn0 (N : Nat) : Bn N 0 := Nat.pow_pos (by decide)
theorem takeA_ok {N : Nat} {A : List Int} {k p q : Int} {o : Option Int} (nn : ∀ x ∈ A, 0 ≤ x) (bA : ∀ x ∈ A, Bn N x) (h : Pt p q) : ∀ x ∈ takeA A k p q o, 0 ≤ x ∧ Bn (N + 51) x := by
  obtain ⟨p0, pq, q0, qc, pb, qb⟩ := h
  have bq : Bn 50 q := qb
  have bp : Bn 50 p := pb
  have bqp : Bn 50 (q - p) := Nat.lt_of_le_of_lt (show (q - p).natAbs ≤ q.natAbs by omega) bq
  have g : 0 ≤ A.getD k.toNat 0 ∧ Bn N (A.getD k.toNat 0) := by
    rcases getD_or A k.toNat with z | z
    · exact ⟨nn _ z, bA _ z⟩
    · rw [z]
      exact ⟨Int.le_refl _, bn0 _⟩
  have hB : ∀ x ∈ (A.map (· * q)).set k.toNat (A.getD k.toNat 0 * (q - p)), 0 ≤ x ∧ Bn (N + 50) x := by
    intro x hx
    rcases mem_set' hx with hx | rfl
    · obtain ⟨y, hy, rfl⟩ := List.mem_map.mp hx
      exact ⟨Int.mul_nonneg (nn y hy) (by omega), (bA y hy).mul bq⟩
    · exact ⟨Int.mul_nonneg g.1 (by omega), g.2.mul bqp⟩
  intro x hx
  unfold takeA at hx
  cases o with
  | none => exact ⟨(hB x hx).1, (hB x hx).2.le (by omega)⟩
  | some m =>
    rcases mem_set' hx with hx | rfl
    · exact ⟨(hB x hx).1, (hB x hx).2.le (by omega)⟩
    · have gm : 0 ≤ ((A.map (· * q)).set k.toNat (A.getD k.toNat 0 * (q - p))).getD m.toNat 0 ∧ Bn (N + 50) (((A.map (· * q)).set k.toNat (A.getD k.toNat 0 * (q - p))).getD m.toNat 0) := by
        rcases getD_or ((A.map (· * q)).set k.toNat (A.getD k.toNat 0 * (q - p))) m.toNat with z | z
        · exact hB _ z
        · rw [z]
          exact ⟨Int.le_refl _, bn0 _⟩
      have z1 := Int.mul_nonneg g.1 p0
      exact ⟨by omega, gm.2.add (g.2.mul bp)⟩
theorem okW_step {N n : Nat} {A ws : List Int} {W : Int} {d : Deed} (hA : A.length = n) (hV : OkV n ws) (hW : OkW N A W) (hd : okD n d) (hpo : ∀ k a, d = .po k a → Bn 60 a) : OkW (N + 66) (stepA ws (A, W) d).1 (stepA ws (A, W) d).2 := by
  subst hA
  cases d with
  | op ks =>
    obtain ⟨h2, hk20, _, hks⟩ := hd
    have ok1 : okK A.length ks := ⟨hk20, hks⟩
    have ok2 : okK ws.length ks := by rw [hV.len]; exact ok1
    have l20 : ∀ ns : List Int, (pick ns ks).length ≤ 20 := fun ns => by rw [pick_len]; exact hk20
    have bT := bn_sum20 (fun x hx => hW.bA x (pick_mem ok1 hx)) (l20 _)
    have bS := bn_sum20 (fun x hx => hV.bit x (pick_mem ok2 hx)) (l20 _)
    have nT := sum_nn (xs := pick A ks) fun x hx => hW.nn x (pick_mem ok1 hx)
    have pS : 0 < (pick ws ks).sum := by
      refine sum_pos (fun z => ?_) fun x hx => hV.pos x (pick_mem ok2 hx)
      have := congrArg List.length z
      rw [pick_len, List.length_nil] at this
      omega
    have each : ∀ x ∈ openA A ws ks, 0 ≤ x ∧ Bn (N + 66) x := by
      intro x hx
      unfold openA at hx
      obtain ⟨i, hi, rfl⟩ := List.mem_map.mp hx
      have hi := List.mem_range.mp hi
      split
      · have m := getD_mem' (ns := ws) (i := i) (by rw [hV.len]; exact hi)
        exact ⟨Int.mul_nonneg nT (Int.le_of_lt (hV.pos _ m)), (bT.mul (hV.bit _ m)).le (by omega)⟩
      · have m := getD_mem' hi
        exact ⟨Int.mul_nonneg (hW.nn _ m) (Int.le_of_lt pS), ((hW.bA _ m).mul bS).le (by omega)⟩
    exact ⟨fun x hx => (each x hx).1, fun x hx => (each x hx).2, (hW.bW.mul bS).le (by omega), Int.mul_pos hW.pos pS⟩
  | po k a =>
    have ba := hpo k a rfl
    have a0 : 0 ≤ a := hd.2
    have aW := Int.mul_nonneg a0 (Int.le_of_lt hW.pos)
    have baW : Bn (N + 60) (a * W) := (ba.mul hW.bW).le (by omega)
    have each : ∀ x ∈ pourA A W k a, 0 ≤ x ∧ Bn (N + 66) x := by
      intro x hx
      unfold pourA at hx
      obtain ⟨i, hi, rfl⟩ := List.mem_map.mp hx
      have m := getD_mem' (List.mem_range.mp hi)
      have n1 := hW.nn _ m
      split
      · exact ⟨by omega, (((hW.bA _ m).le (show N ≤ N + 60 by omega)).add baW).le (by omega)⟩
      · exact ⟨n1, (hW.bA _ m).le (by omega)⟩
    exact ⟨fun x hx => (each x hx).1, fun x hx => (each x hx).2, hW.bW.le (by omega), hW.pos⟩
  | sc k p q =>
    have hp := hd.2
    have z := takeA_ok (k := k) (o := none) hW.nn hW.bA hp
    have bq : Bn 50 q := hp.2.2.2.2.2
    exact ⟨fun x hx => (z x hx).1, fun x hx => (z x hx).2.le (by omega), (hW.bW.mul bq).le (by omega), Int.mul_pos hW.pos hp.2.2.1⟩
  | mv k m p q =>
    have hp := hd.2.2.2
    have z := takeA_ok (k := k) (o := some m) hW.nn hW.bA hp
    have bq : Bn 50 q := hp.2.2.2.2.2
    exact ⟨fun x hx => (z x hx).1, fun x hx => (z x hx).2.le (by omega), (hW.bW.mul bq).le (by omega), Int.mul_pos hW.pos hp.2.2.1⟩
  | un k m => exact ⟨hW.nn, fun x hx => (hW.bA x hx).le (by omega), hW.bW.le (by omega), hW.pos⟩
/-- behind all steps -/
def runA (ws : List Int) (S : List Int × Int) (ds : List Deed) : List Int × Int := ds.foldl (stepA ws) S
theorem runA_take {ws : List Int} {S : List Int × Int} {ds : List Deed} {i : Nat} {d : Deed} (h : ds[i]? = some d) : runA ws S (ds.take (i + 1)) = stepA ws (runA ws S (ds.take i)) d := by
  unfold runA
  rw [List.take_add_one, h, List.foldl_append]
  rfl
theorem runA_ok {n : Nat} {ws : List Int} (hV : OkV n ws) : ∀ {ds : List Deed} {N : Nat} {S : List Int × Int}, S.1.length = n → OkW N S.1 S.2 → (∀ d ∈ ds, okD n d ∧ ∀ k a, d = .po k a → Bn 60 a) → (runA ws S ds).1.length = n ∧ OkW (N + 66 * ds.length) (runA ws S ds).1 (runA ws S ds).2
  | [], N, S, h, hW, _ => ⟨h, hW⟩
  | d :: ds, N, S, h, hW, hd => by
    obtain ⟨h1, h2⟩ := hd d List.mem_cons_self
    have z := runA_ok hV (ds := ds) (N := N + 66) (S := stepA ws S d) (by rw [stepA_len]; exact h) (okW_step h hV hW h1 h2) fun x hx => hd x (List.mem_cons_of_mem _ hx)
    refine ⟨z.1, ?_⟩
    have e : N + 66 * (d :: ds).length = N + 66 + 66 * ds.length := by rw [List.length_cons]; omega
    rw [e]
    exact z.2
end V2


namespace V2
open PySem L2
open PySem.Spec PyProof.Rows
/-! ## a script run -/
/-- pairs of ints that stand in a list, as tuples -/
def PrAt (H : Hp) (l : Addr) (fs : List (Int × Int)) : Prop := ∃ as : List Addr, H l = some (.lst (as.map V.ref)) ∧ as.length = fs.length ∧ ∀ (i : Nat) (a : Addr) (f : Int × Int), as[i]? = some a → fs[i]? = some f → Fr H a f.1 f.2
theorem PrAt.ex {H H' : Hp} {l : Addr} {fs : List (Int × Int)} (h : PrAt H l fs) (e : Evl.Ex H H') : PrAt H' l fs := by
  obtain ⟨as, h1, h2, h3⟩ := h
  exact ⟨as, e _ _ h1, h2, fun i a t x y => e _ _ (h3 i a t x y)⟩
def amts (ts : List Tk) : List Int := ts.map (·.2)
/-- the levels behind the steps, at the width u by b -/
def lvls (u b : Int) (ts : List Tk) (ds : List Deed) : List (Int × Int) :=
  (List.range ts.length).map (lvl (runA (ts.map (wid u b)) (amts ts, 1) ds).1 (ts.map (wid u b)) (runA (ts.map (wid u b)) (amts ts, 1) ds).2 b)
/-- a shape whose numbers are not great -/
structure Shp (ts : List Tk) (ds : List Deed) : Prop where
  ok : okS ts ds
  d30 : ds.length ≤ 30
  w1000 : ∀ t ∈ ts, (∀ z, t.1 = some z → z ≤ 1000) ∧ t.2 ≤ 1000
  p1000 : ∀ k a, Deed.po k a ∈ ds → a ≤ 1000
  nu : ∀ k m, Deed.un k m ∉ ds
def spRunOf : Sp := fun vs H Q _ => ∃ (lt ls f : Addr) (ts : List Tk) (ds : List Deed) (u b : Int), vs = [.ref lt, .ref ls, .ref f] ∧ TksAt H lt ts ∧ DsAt H ls ds ∧ Shp ts ds ∧ Fr H f u b ∧ 0 < u ∧ Qn u b ∧
  ∀ q D H', Evl.Ex H H' → H' q = some (.tup [.non, .ref D]) → PrAt H' D (lvls u b ts ds) → Q (.ref q) H'
theorem shp_v {ts : List Tk} {ds : List Deed} {u b : Int} (h : Shp ts ds) (hu : 0 < u) (hQ : Qn u b) : OkV ts.length (ts.map (wid u b)) := by
  obtain ⟨b0, _, ub, bb⟩ := hQ
  refine ⟨by rw [List.length_map], fun x hx => ?_, fun x hx => ?_⟩
  · obtain ⟨t, ht, rfl⟩ := List.mem_map.mp hx
    unfold wid
    split
    · exact hu
    · rename_i z hz
      have := (h.ok.1.2.1 t ht).1 z hz
      exact Int.mul_pos (by omega) b0
  · obtain ⟨t, ht, rfl⟩ := List.mem_map.mp hx
    unfold wid
    split
    · exact Nat.lt_of_lt_of_le ub (Nat.pow_le_pow_right (by decide) (by decide))
    · rename_i z hz
      have h1 := (h.ok.1.2.1 t ht).1 z hz
      have h2 := (h.w1000 t ht).1 z hz
      have hz : Bn 10 z := Nat.lt_of_le_of_lt (show z.natAbs ≤ 1000 by omega) (by decide)
      exact hz.mul bb
theorem shp_w {ts : List Tk} {ds : List Deed} (h : Shp ts ds) : OkW 11 (amts ts) 1 := by
  refine ⟨fun x hx => ?_, fun x hx => ?_, by show 1 < 2 ^ 11; decide, by decide⟩
  · obtain ⟨t, ht, rfl⟩ := List.mem_map.mp hx
    exact (h.ok.1.2.1 t ht).2
  · obtain ⟨t, ht, rfl⟩ := List.mem_map.mp hx
    have h1 := (h.ok.1.2.1 t ht).2
    have h2 := (h.w1000 t ht).2
    exact Nat.lt_of_le_of_lt (show t.2.natAbs ≤ 1000 by omega) (by decide)
theorem shp_d {ts : List Tk} {ds : List Deed} (h : Shp ts ds) : ∀ d ∈ ds, okD ts.length d ∧ ∀ k a, d = .po k a → Bn 60 a := by
  intro d hd
  have h1 := h.ok.2.2 d hd
  refine ⟨h1, fun k a e => ?_⟩
  subst e
  have h2 := h.p1000 k a hd
  have h3 : 0 ≤ a := h1.2
  exact Nat.lt_of_le_of_lt (show a.natAbs ≤ 1000 by omega) (by decide)
theorem shp_run {ts : List Tk} {ds : List Deed} {u b : Int} (h : Shp ts ds) (hu : 0 < u) (hQ : Qn u b) {i : Nat} (hi : i ≤ ds.length) : (runA (ts.map (wid u b)) (amts ts, 1) (ds.take i)).1.length = ts.length ∧ OkW 2000 (runA (ts.map (wid u b)) (amts ts, 1) (ds.take i)).1 (runA (ts.map (wid u b)) (amts ts, 1) (ds.take i)).2 := by
  have z := runA_ok (shp_v h hu hQ) (ds := ds.take i) (N := 11) (S := (amts ts, 1)) (by show (amts ts).length = _; unfold amts; rw [List.length_map]) (shp_w h) fun d hd => shp_d h d (List.mem_of_mem_take hd)
  refine ⟨z.1, ?_⟩
  have hl : (ds.take i).length ≤ 30 := by
    rw [List.length_take]
    have := h.d30
    omega
  obtain ⟨a1, a2, a3, a4⟩ := z.2
  exact ⟨a1, fun x hx => (a2 x hx).le (by omega), a3.le (by omega), a4⟩
theorem dat_word {H : Hp} {a : Addr} {d : Deed} (h : DAt H a d) (nu : ∀ k m, d ≠ .un k m) : ∃ (x : Str) (r : List V), H a = some (.tup (.str x :: r)) ∧ (!decide (V.str x = V.str "unless")) = true := by
  cases d with
  | op ks =>
    obtain ⟨l, h1, _⟩ := h
    exact ⟨_, _, h1, by decide⟩
  | po k x => exact ⟨_, _, h, by decide⟩
  | sc k p q =>
    obtain ⟨l, h1, _⟩ := h
    exact ⟨_, _, h1, by decide⟩
  | mv k m p q =>
    obtain ⟨l, h1, _⟩ := h
    exact ⟨_, _, h1, by decide⟩
  | un k m => exact absurd rfl (nu k m)
theorem ds_items {H : Hp} {l : Addr} {ds : List Deed} (h : DsAt H l ds) : ∃ xs, H l = some (.lst xs) ∧ xs.length = ds.length ∧ ∀ (i : Nat) (x : V), xs[i]? = some x → ∃ a d, x = .ref a ∧ ds[i]? = some d ∧ DAt H a d := by
  obtain ⟨as, h1, h2, h3⟩ := h
  refine ⟨_, h1, by rw [List.length_map]; exact h2, fun i x hx => ?_⟩
  rw [List.getElem?_map] at hx
  cases e : as[i]? with
  | none =>
    rw [e] at hx
    cases hx
  | some a =>
    rw [e] at hx
    have hi : i < ds.length := by
      have := (List.getElem?_eq_some_iff.mp e).1
      omega
    exact ⟨a, ds[i], (Option.some.inj hx).symm, List.getElem?_eq_getElem hi, h3 i a _ e (List.getElem?_eq_getElem hi)⟩
def spNum : Sp := fun vs H Q _ => ∃ (a x y : Addr) (f : Int × Int), vs = [.ref a] ∧ H a = some (.tup [.ref x, .ref y]) ∧ Li H x (cp f.1) ∧ Li H y [f.2] ∧ RetU [.int f.1, .int f.2] H Q
def spEnd : Sp := fun vs H Q _ => ∃ (s t lw : Addr) (d : Deed), vs = [.ref s, .ref t, .ref lw] ∧ DAt H s d ∧ (∀ k m, d ≠ .un k m) ∧ Evl.RetV (.bl false) H Q
def spTL : Sp := fun vs H Q _ => ∃ (t lw g : Addr) (A ws : List Int) (W u b : Int) (N : Nat), vs = [.ref t, .ref lw, .ref g] ∧ Wat H t A W ∧ CsAt H lw ws ∧ Fr H g u b ∧ A.length ≤ 20 ∧ OkV A.length ws ∧ OkW N A W ∧ N ≤ 2500 ∧ 0 < b ∧ Bn 50 b ∧
  ∀ D H', H D = none → Evl.Ex H H' → PrAt H' D ((List.range A.length).map (lvl A ws W b)) → Q (.ref D) H'
section
variable {base : Heap} {mg : Str → Option Value} {K : PySem.W.Frag} {w : World} {P : Program}
theorem ok_number_of {f : Addr} {fd : FuncData} (F : Fun K "number_of" "number_of" s_number_of f fd) : FnOk P w K mg base CX0 1 f fd p_number_of spNum := by
  refine F.ok sc_number_of (fun vs H Q E h => ?_) (fun cdv A outer s H vs Q E hr h => ?_)
  · obtain ⟨a, x, y, f, rfl, _⟩ := h
    rfl
  · obtain ⟨a, x, y, f, rfl, ha, hx, hy, k⟩ := h
    have nd := sc_number_of.nd
    have two : 2 ≤ sizeLine := by show 2 ≤ sizeLine; decide
    refine ⟨_, pss_cons (ps_asg (pv 0) (pg_tup rfl (pgs_cons (pg_name (i := 1) nd rfl (Or.inl rfl)) (pgs_cons (pg_name (i := 2) nd rfl (Or.inl rfl)) pgs_nil))))
      (pss_one (ps_ret (pe_tup (pa_cons (pe_ifExp (pt_truth (pv 1) (by intro _; rfl)) (pe_ix ix_list (pv 1) pe_int (fun _ _ => rfl)) pe_int) (pa_cons (pe_ix ix_list (pv 2) pe_int (fun _ _ => rfl)) pa_nil))))), ?_⟩
    refine ⟨_, rfl, a, _, rfl, SqT.of ha, rfl, _, _, rfl, _, _, rfl, rfl, ?_⟩
    refine ⟨_, rfl, _, tru_list hx, ?_⟩
    have fin : ∀ r, H r = none → Q (.ref r) (upd H r (.tup [.int f.1, .int f.2])) := fun r hr5 => k r _ hr5 (Evl.Ex.new hr5) upd_same
    by_cases h0 : f.1 = 0
    · refine if_f (by rw [h0]; rfl) ?_
      rw [h0] at fin
      exact ⟨_, rfl, y, _, _, _, rfl, rfl, SqL.of hy, rfl, two, fun r hr5 => fin r hr5⟩
    · rw [cp_n h0] at hx
      refine if_t (by rw [cp_n h0]; rfl) ?_
      exact ⟨_, rfl, x, _, _, _, rfl, rfl, SqL.of hx, rfl, _, rfl, y, _, _, _, rfl, rfl, SqL.of hy, rfl, two, fun r hr5 => fin r hr5⟩
theorem ok_is_ended {f : Addr} {fd : FuncData} (F : Fun K "is_ended" "is_ended" s_is_ended f fd) : FnOk P w K mg base CX0 1 f fd p_is_ended spEnd := by
  refine F.ok sc_is_ended (fun vs H Q E h => ?_) (fun cdv A outer s H vs Q E hr h => ?_)
  · obtain ⟨a, t, lw, d, rfl, _⟩ := h
    rfl
  · obtain ⟨a, t, lw, d, rfl, hd, hnu, k⟩ := h
    refine ⟨_, pss_one (ps_ret (pe_and (pe_cmpR op_eq (pe_ix ix_tup (pv 0) pe_int (fun _ _ => rfl)) pe_str (nomark _)) pe_never)), ?_⟩
    obtain ⟨wd, rest, hwd, hne⟩ := dat_word hd hnu
    refine ⟨_, rfl, a, _, _, _, rfl, rfl, SqT.of hwd, (by exact atI_nat (j := 0) rfl), rfl, _, rfl, if_f ?_ (k _ (Evl.Ex.refl _))⟩
    cases z : decide (V.str wd = V.str "unless") with
    | false => rfl
    | true =>
      rw [z] at hne
      cases hne
theorem ok_told_levels {f : Addr} {fd : FuncData} (F : Fun K "told_levels" "told_levels" s_told_levels f fd) (cN : Cal P w K mg base 1 "number_of" p_number_of spNum) (cL : Cal P w K mg base 6 "levels" p_levels spLev) : FnOk P w K mg base CX0 7 f fd p_told_levels spTL := by
  refine F.ok sc_told_levels (fun vs H Q E h => ?_) (fun cdv A outer s H vs Q E hr h => ?_)
  · obtain ⟨t, lw, g, A, ws, W, u, b, N, rfl, _⟩ := h
    rfl
  · obtain ⟨t, lw, g, Am, ws, W, u, b, N, rfl, hWt, hw, hg, h20, hV, hOk, hN, b0, bb, k⟩ := h
    have nd := sc_told_levels.nd
    have r1 : Room 1 _ := hr.mono (by decide)
    refine ⟨_, pss_one (ps_ret (pe_lc (own := [("form", 3)]) (g := gName 3) (tt := tYes) (te := tCall spNum [] E0 (tCons (tVar 3) tNil)) rfl nd (pi_list (pe_c cL hr (pa_cons (pv 0) (pa_cons (pv 1) (pa_cons (pe_ix ix_tup (pv 2) pe_int (fun _ _ => rfl)) pa_nil))))) (blkOk_by (N := n_told_levels) (sc := defScope s_told_levels) (by decide +kernel))
          (fun _ _ _ _ _ => pg_name (i := 3) nd rfl (Or.inl rfl)) (fun _ _ _ _ _ => pts_nil)
          (fun _ _ _ _ _ => pe_c cN r1 (pa_cons (pv 3) pa_nil)))), ?_⟩
    refine ⟨_, rfl, _, rfl, _, rfl, g, _, _, _, rfl, rfl, SqT.of hg, rfl, t, lw, _, ws, _, b, N, rfl, hWt, hw, h20, hV, hOk, hN, b0, bb, fun D H4 hDn e4 hF => ?_⟩
    have fl : ((List.range Am.length).map (lvl Am ws W b)).length ≤ 20 := by
      rw [List.length_map, List.length_range]
      exact h20
    generalize (List.range Am.length).map (lvl Am ws W b) = fs at hF fl k
    obtain ⟨as, hDl, hlen, hat⟩ := hF
    refine ⟨D, rfl, ⟨_, SqL.of hDl⟩, fun D2 hD2 => lc_list (xs := as.map V.ref) (fun i H' => Evl.Ex H4 H' ∧ ∃ rs : List Addr, H' D2 = some (.lst (rs.map V.ref)) ∧ rs.length = i ∧ ∀ (j : Nat) (a : Addr) (f : Int × Int), rs[j]? = some a → fs[j]? = some f → a ≠ D2 ∧ Fr H' a f.1 f.2) ⟨Evl.Ex.new hD2, [], upd_same, rfl, fun j a f h => (by cases h)⟩ (fun i H' _ q => SqL.of (q.1 _ _ hDl)) ?_ ?_⟩
    · rintro i v H5 hi ⟨e5, rs, hrs, hrl, hra⟩
      rw [List.getElem?_map] at hi
      obtain ⟨a, ha, rfl⟩ : ∃ a, as[i]? = some a ∧ v = .ref a := by
        cases e : as[i]? with
        | none =>
          rw [e] at hi
          cases hi
        | some a =>
          rw [e] at hi
          exact ⟨a, rfl, (Option.some.inj hi).symm⟩
      have hif : i < fs.length := by
        have := (List.getElem?_eq_some_iff.mp ha).1
        omega
      have hf : fs[i]? = some fs[i] := List.getElem?_eq_getElem hif
      obtain ⟨p, q, h1, h2, h3⟩ := hat i a _ ha hf
      generalize fs[i] = fi at hf h2 h3
      refine ⟨rfl, ?_⟩
      unfold tYes
      refine if_t rfl ?_
      show tCall spNum [] E0 (tCons (tVar 3) tNil) _ _ _
      refine ⟨_, rfl, a, p, q, fi, rfl, e5 _ _ h1, e5 _ _ h2, e5 _ _ h3, fun r H6 hr5 e6 hr6 => ?_⟩
      have rD : r ≠ D2 := (ne_of_none hrs hr5).symm
      refine ⟨_, e6 _ _ hrs, ?_, Evl.Ex.mut (e5.trans e6) hD2, rs ++ [r], ?_, ?_, fun j a' f h7 h8 => ?_⟩
      · rw [List.length_map, hrl]
        exact Nat.lt_of_le_of_lt (show i ≤ 20 by omega) (by decide)
      · rw [upd_same, List.map_append]
        rfl
      · rw [List.length_append, hrl]
        rfl
      · rcases get_app h7 with ⟨h9, _⟩ | ⟨h9, rfl⟩
        · obtain ⟨n1, n2⟩ := hra j a' f h9 h8
          exact ⟨n1, Eq.trans (upd_ne n1) (e6 _ _ n2)⟩
        · rw [h9, hrl, hf] at h8
          cases h8
          exact ⟨rD, Eq.trans (upd_ne rD) hr6⟩
    · rintro H5 ⟨e5, rs, hrs, hrl, hra⟩
      rw [List.length_map, hlen] at hrl
      refine k D2 _ ?_ (e4.trans e5) ⟨rs, hrs, hrl, fun i a f h1 h2 => (hra i a f h1 h2).2⟩
      cases e : H D2 with
      | none => rfl
      | some o =>
        have h1 := e4 _ _ e
        rw [hD2] at h1
        cases h1
theorem ok_run_of {f : Addr} {fd : FuncData} (F : Fun K "run_of" "run_of" s_run_of f fd) (T : T2 mg) (cT : Cal P w K mg base 1 "told_widths" p_told_widths spTold) (cF : Cal P w K mg base 2 "first_water" p_first_water spFirst) (cA : Cal P w K mg base 6 "after" p_after spAfter) (cE : Cal P w K mg base 1 "is_ended" p_is_ended spEnd) (cL : Cal P w K mg base 7 "told_levels" p_told_levels spTL) : FnOk P w K mg base CX0 8 f fd p_run_of spRunOf := by
  refine F.ok sc_run_of (fun vs H Q E h => ?_) (fun cdv A outer s H vs Q E hr h => ?_)
  · obtain ⟨lt, ls, g, ts, ds, u, b, rfl, _⟩ := h
    rfl
  · obtain ⟨lt, ls, g, ts, ds, u, b, rfl, hT, hD, hS, hg, hu, hQ, k⟩ := h
    have nd := sc_run_of.nd
    have r1 : Room 1 _ := hr.mono (by decide)
    have r2 : Room 2 _ := hr.mono (by decide)
    have r6 : Room 6 _ := hr.mono (by decide)
    have two : 2 ≤ sizeLine := by show 2 ≤ sizeLine; decide
    refine ⟨_, pss_cons (ps_par (i := 3) (j := 4) rfl nd rfl rfl (by decide) rfl rfl (pa_cons (pe_c cT r1 (pa_cons (pv 0) (pa_cons (pv 2) pa_nil))) (pa_cons (pe_c cF r2 (pa_cons (pv 0) pa_nil)) pa_nil)) (by rfl))
      (pss_cons (ps_for PassesOwn.never rfl (pi_enum (by rfl) T.enu (pa_cons (pv 1) pa_nil)) (pg_tup rfl (pgs_cons (pg_name (i := 5) nd rfl (Or.inl rfl)) (pgs_cons (pg_name (i := 6) nd rfl (Or.inl rfl)) pgs_nil)))
        (pss_cons (ps_if (pt_val (pe_c cE r1 (pa_cons (pv 6) (pa_cons (pv 4) (pa_cons (pv 3) pa_nil))))) (pss_one ps_never) pss_nil)
        (pss_one (ps_set (i := 4) nd rfl (Or.inl rfl) (pe_c cA r6 (pa_cons (pv 6) (pa_cons (pv 4) (pa_cons (pv 3) pa_nil))))))))
      (pss_one (ps_ret (pe_tup (pa_cons pe_non (pa_cons (pe_c cL hr (pa_cons (pv 4) (pa_cons (pv 3) (pa_cons (pv 2) pa_nil)))) pa_nil)))))), ?_⟩
    obtain ⟨b0, bc, ub, bb⟩ := hQ
    have hQ : Qn u b := ⟨b0, bc, ub, bb⟩
    have h20 := hS.ok.1.1
    refine ⟨_, rfl, _, rfl, lt, g, ts, u, b, rfl, hT, hS.ok.1, fun t ht => (hS.w1000 t ht).1, hg, hu, b0, ub, bb, fun Wd H1 hWd e1 hw => ?_⟩
    refine ⟨_, rfl, lt, ts, rfl, hT.ex e1, h20, fun t x y H2 e2 ht hx hy => ⟨_, _, rfl, ?_⟩⟩
    have hw2 := hw.ex e2
    have e02 := e1.trans e2
    have hV := shp_v hS hu hQ
    obtain ⟨xs, hxs, hxl, hxi⟩ := ds_items (hD.ex e02)
    refine ⟨_, rfl, ls, _, rfl, SqL.of hxs, for_it walk_enum (fun i σ H' => ∃ (t : Addr) (v6 v7 : Option V), σ = [some (.ref lt), some (.ref ls), some (.ref g), some (.ref Wd), some (.ref t), v6, v7] ∧ Evl.Ex H2 H' ∧ Wat H' t (runA (ts.map (wid u b)) (amts ts, 1) (ds.take i)).1 (runA (ts.map (wid u b)) (amts ts, 1) (ds.take i)).2)
      ⟨t, none, none, rfl, Evl.Ex.refl _, ⟨x, y, ht, hx, hy⟩, by show (0 : Int) < 1; decide⟩ (fun i σ H' _ ⟨_, _, _, _, q, _⟩ => SqL.of (q _ _ hxs)) ?_ ?_⟩
    · rintro i v σ H3 H4 hi ⟨t, v6, v7, rfl, e3, hWt⟩ ⟨t3, z, o, rfl, ht3, rfl, hz, ho⟩
      obtain rfl := (Option.some.inj hz).symm
      obtain ⟨a, d, rfl, hd, hDa⟩ := hxi i _ ho
      have e4 := Evl.Ex.new (o := .tup [.int (i : Nat), .ref a]) ht3
      have e34 := e3.trans e4
      refine ⟨t3, _, rfl, SqT.of upd_same, rfl, _, _, rfl, _, _, rfl, rfl, ?_⟩
      refine ⟨_, rfl, _, rfl, _, rfl, a, t, Wd, d, rfl, hDa.ex e34, (fun k m z => hS.nu k m (z ▸ List.mem_of_getElem? hd)), fun H5 e5 => ⟨_, rfl, if_f rfl ?_⟩⟩
      have e35 := e34.trans e5
      have hi2 : i ≤ ds.length := by
        have := (List.getElem?_eq_some_iff.mp hd).1
        omega
      obtain ⟨rl, rok⟩ := shp_run hS hu hQ hi2
      obtain ⟨od, op⟩ := shp_d hS d (List.mem_of_getElem? hd)
      refine ⟨_, rfl, _, rfl, _, rfl, a, t, Wd, d, _, ts.map (wid u b), _, 2000, rfl, hDa.ex e35, by rw [rl]; exact od, op, (hWt.ex e4).ex e5, hw2.ex e35, by rw [rl]; exact h20, by rw [rl]; exact hV, rok, by decide, fun t' H6 e6 hW6 => ?_⟩
      refine ⟨t', _, _, rfl, e35.trans e6, ?_⟩
      rw [runA_take hd]
      exact hW6
    · rintro σ H3 ⟨t, v6, v7, rfl, e3, hWt⟩
      rw [hxl, List.take_length] at hWt
      have zz := shp_run hS hu hQ (Nat.le_refl ds.length)
      rw [List.take_length] at zz
      obtain ⟨rl, rok⟩ := zz
      have e03 := e02.trans e3
      refine ⟨_, rfl, _, rfl, _, rfl, t, Wd, g, _, ts.map (wid u b), _, u, b, 2000, rfl, hWt, hw2.ex e3, e03 _ _ hg, by rw [rl]; exact h20, by rw [rl]; exact hV, rok, by decide, b0, bb, fun D2 H5 hD2 e5 hF => ?_⟩
      rw [rl] at hF
      have hF : PrAt H5 D2 (lvls u b ts ds) := hF
      refine ⟨two, fun q hq => ?_⟩
      have e6 := Evl.Ex.new (o := .tup [.non, .ref D2]) hq
      exact k q D2 _ ((e03.trans e5).trans e6) upd_same (hF.ex e6)
end
end V2


namespace V2
open PySem L2
open PySem.Spec PyProof.Rows
def spCw : Sp := fun vs H Q _ => ∃ (a : Addr) (u b : Int), vs = [.ref a] ∧ Fr H a u b ∧ Qn u b ∧ 0 < u ∧ Evl.RetV .non H Q
/-- a script stands at x -/
def ScAt (H : Hp) (C x : Addr) (ts : List Tk) (ds : List Deed) : Prop := ∃ (dx : Addr) (fs : List (Str × V)) (v u : V), H x = some (.ins C dx fs) ∧ fs.lookup ("_tanks" : Str) = some v ∧ fs.lookup ("_steps" : Str) = some u ∧ Dq H v (.list (ts.map tkD)) ∧ Dq H u (.list (ds.map dD))
theorem ScAt.ex {H H' : Hp} {C x : Addr} {ts : List Tk} {ds : List Deed} (h : ScAt H C x ts ds) (e : Evl.Ex H H') : ScAt H' C x ts ds := by
  obtain ⟨dx, fs, v, u, h1, h2, h3, h4, h5⟩ := h
  exact ⟨dx, fs, v, u, e _ _ h1, h2, h3, h4.go e, h5.go e⟩
def spRun (C : Addr) : Sp := fun vs H Q _ => ∃ (x f : Addr) (ts : List Tk) (ds : List Deed) (u b : Int), vs = [.ref x, .ref f] ∧ ScAt H C x ts ds ∧ Shp ts ds ∧ Fr H f u b ∧ 0 < u ∧ Qn u b ∧
  ∀ q D H', Evl.Ex H H' → H' q = some (.tup [.non, .ref D]) → PrAt H' D (lvls u b ts ds) → Q (.ref q) H'
section
variable {base : Heap} {mg : Str → Option Value} {K : PySem.W.Frag} {w : World} {P : Program} {C fI fT fS pT pS : Addr}
theorem ok_check_width {f : Addr} {fd : FuncData} (F : Fun K "check_width" "check_width" s_check_width f fd) (cF : Cal P w K mg base 2 "is_fraction" p_is_fraction spIsFr) : FnOk P w K mg base CX0 3 f fd p_check_width spCw := by
  refine F.ok sc_check_width (fun vs H Q E h => ?_) (fun cdv A outer s H vs Q E hr h => ?_)
  · obtain ⟨a, u, b, rfl, _⟩ := h
    rfl
  · obtain ⟨a, u, b, rfl, ha, hQ, hu, k⟩ := h
    refine ⟨_, pss_one (ps_if (PW.pt (pw_or (pt_not (pt_val (pe_c cF hr (pa_cons (pv 0) pa_nil)))) (pw_or1 (pt_cmpR op_le (pe_ix ix_tup (pv 0) pe_int (fun _ _ => rfl)) pe_int (nomark _))))) (pss_one ps_never) pss_nil), ?_⟩
    refine ⟨_, rfl, a, u, b, rfl, ha, hQ, fun H1 e1 => ⟨true, rfl, if_f rfl ?_⟩⟩
    exact ⟨_, rfl, a, _, _, _, rfl, rfl, SqT.of (e1 _ _ ha), rfl, _, _, rfl, rfl, _, rfl, if_f (decide_eq_false (by omega)) (k _ e1)⟩
theorem ok_run {f : Addr} {fd fdT fdS : FuncData} (F : Fun K "run" "run" s_run f fd) (c : ScC K C fI fT fS pT pS) (FT : FnOk P w K mg base CX0 4 fT fdT p_Sc_tanks (spGet C 2 "_tanks")) (bT : Binds K fdT p_Sc_tanks []) (FS : FnOk P w K mg base CX0 5 fS fdS p_Sc_steps (spGet C 3 "_steps")) (bS : Binds K fdS p_Sc_steps [])
    (cW : Cal P w K mg base 3 "check_width" p_check_width spCw) (cR : Cal P w K mg base 8 "run_of" p_run_of spRunOf) : FnOk P w K mg base CX0 9 f fd p_run (spRun C) := by
  refine F.ok sc_run (fun vs H Q E h => ?_) (fun cdv A outer s H vs Q E hr h => ?_)
  · obtain ⟨x, g, ts, ds, u, b, rfl, _⟩ := h
    rfl
  · obtain ⟨x, g, ts, ds, u, b, rfl, ⟨dx, fs, v, y, hx, hv, hy, hdv, hdy⟩, hS, hg, hu, hQ, k⟩ := h
    refine ⟨_, pss_cons (ps_expr (pe_c cW (hr.mono (by decide)) (pa_cons (pv 1) pa_nil)))
      (pss_one (ps_ret (pe_c cR hr (pa_cons (pe_prop (pv 0) c.cls c.prT FT (hr.mono (by decide)) bT .nil pass0 rfl) (pa_cons (pe_prop (pv 0) c.cls c.prS FS (hr.mono (by decide)) bS .nil pass0 rfl) (pa_cons (pv 1) pa_nil)))))), ?_⟩
    refine ⟨_, rfl, g, u, b, rfl, hg, hQ, hu, fun H1 e1 => ?_⟩
    refine ⟨_, rfl, x, dx, fs, rfl, e1 _ _ hx, x, dx, fs, v, _, rfl, e1 _ _ hx, hv, hdv.go e1, cp_tks (Nat.le_trans hS.ok.1.1 (by decide)), fun v1 H2 e2 h2 => ?_⟩
    have e02 := e1.trans e2
    refine ⟨_, rfl, x, dx, fs, rfl, e02 _ _ hx, x, dx, fs, y, _, rfl, e02 _ _ hx, hy, hdy.go e02, cp_deeds hS.ok.2.2 (Nat.le_trans hS.ok.2.1 (by decide)), fun v2 H3 e3 h3 => ?_⟩
    have e03 := e02.trans e3
    obtain ⟨lt, rfl, hlt⟩ := ((h2.go Nw.ex).go e3).tks
    obtain ⟨ls, rfl, hls⟩ := (h3.go Nw.ex).deeds
    exact ⟨_, rfl, lt, ls, g, ts, ds, u, b, rfl, hlt, hls, hS, e03 _ _ hg, hu, hQ, fun q D H' e4 hq hP => k q D H' (e03.trans e4) hq hP⟩
end
end V2


namespace V2
open PySem L2
open PySem.Spec PyProof.Rows
/-! ## the law's own draws and fractions -/
def spGcd : Sp := fun vs H Q _ => ∃ x y : Int, vs = [.int x, .int y] ∧ Evl.RetV (.int (Int.gcd x y : Int)) H Q
def spRt : Sp := fun vs H Q _ => ∃ x y : Int, vs = [.int x, .int y] ∧ 0 < y ∧ Bn 9000 y ∧ RetU [.int (fr x y).1, .int (fr x y).2] H Q
def spFp (g : Int → Int → Int → Int → Int × Int) : Sp := fun vs H Q _ => ∃ (a b : Addr) (p q x y : Int), vs = [.ref a, .ref b] ∧ Fr H a p q ∧ Fr H b x y ∧ 0 < q ∧ 0 < y ∧ Bn 4400 p ∧ Bn 4400 q ∧ Bn 4400 x ∧ Bn 4400 y ∧ RetU [.int (g p q x y).1, .int (g p q x y).2] H Q
def spFl : Sp := fun vs H Q _ => ∃ (a b : Addr) (p q x y : Int), vs = [.ref a, .ref b] ∧ Fr H a p q ∧ Fr H b x y ∧ Bn 4400 p ∧ Bn 4400 q ∧ Bn 4400 x ∧ Bn 4400 y ∧ Evl.RetV (.bl (decide (p * y < x * q))) H Q
section
variable {base : Heap} {mg : Str → Option Value} {K : PySem.W.Frag} {w : World} {P : Program}
theorem ok__coin {f : Addr} {fd : FuncData} (F : Fun K "_law_coin" "_law_coin" s__law_coin f fd) (T : T0 mg) : FnOk P w K mg base CX0 1 f fd p__law_coin spCoin := by
  refine F.ok sc__law_coin (fun vs H Q E h => ?_) (fun cdv A outer s H vs Q E hr h => ?_)
  · obtain ⟨p, many, m, rfl, _⟩ := h
    rfl
  · obtain ⟨p, many, m, rfl, ⟨a, b, c, hp, ha, hb, hb2, hc, hc2⟩, hm, h0, h200, k⟩ := h
    have nd := sc__law_coin.nd
    refine ⟨_, pss_cons (ps_if (pt_cmpR op_gt (pe_ix ix_list (pv 0) pe_int (fun _ _ => rfl)) pe_int (nomark _))
        (pss_cons (ps_set (i := 2) nd rfl (Or.inl rfl) (pe_op op_mod (pe_callTy call_int1 (by rfl) T.int (by decide +kernel) (pa_cons (pe_ix ix_list (pv 0) pe_int (fun _ _ => rfl)) pa_nil)) (pv 1)))
        (pss_cons (ps_asg (pe_op op_fdivW (pe_ix ix_list (pv 0) pe_int (fun _ _ => rfl)) (pv 1)) (pg_sub (pv 0) pe_int set_list))
        (pss_one (ps_ret (pv 2))))) pss_nil)
      (pss_cons (ps_asg (pe_op op_add (pe_ix ix_list (pv 0) pe_int (fun _ _ => rfl)) pe_int) (pg_sub (pv 0) pe_int set_list))
      (pss_cons (ps_set (i := 3) nd rfl (Or.inl rfl) (pe_op op_mod (pe_op op_powX (pe_callTy call_int1 (by rfl) T.int (by decide +kernel) (pa_cons (pe_op op_add (pe_ix ix_list (pv 0) pe_int (fun _ _ => rfl)) (pe_op op_mul pe_int (pe_ix ix_list (pv 0) pe_int (fun _ _ => rfl)))) pa_nil)) pe_int) (pe_op op_add (pe_op op_powX pe_int pe_int) pe_int)))
      (pss_cons (ps_set (i := 3) nd rfl (Or.inl rfl) (pe_op op_mod (pe_op op_powX (pe_callTy call_int1 (by rfl) T.int (by decide +kernel) (pa_cons (pe_op op_add (pv 3) (pe_op op_mul pe_int (pe_ix ix_list (pv 0) pe_int (fun _ _ => rfl)))) pa_nil)) pe_int) (pe_op op_add (pe_op op_powX pe_int pe_int) pe_int)))
      (pss_one (ps_ret (pe_op op_mod (pe_callTy call_int1 (by rfl) T.int (by decide +kernel) (pa_cons (pe_op op_fdivW (pv 3) pe_int) pa_nil)) (pv 1))))))), ?_⟩
    refine ⟨_, rfl, p, _, _, _, rfl, rfl, SqL.of hp, at0, _, _, rfl, rfl, _, rfl, ?_⟩
    refine ite2 (fun q => ?_) (fun _ => ?_)
    · have q0 : 0 < a := by simpa using q
      refine ⟨_, rfl, p, _, _, _, rfl, rfl, SqL.of hp, at0, .inl ⟨_, rfl, _, rfl, _, _, rfl, rfl, h0, ?_⟩⟩
      refine ⟨_, rfl, p, _, _, _, rfl, rfl, SqL.of hp, at0, _, rfl, _, _, rfl, rfl, wide_div h0 h200 (by decide) (by decide), _, rfl, p, _, 0, 0, rfl, rfl, hp, ixN3 0 (by decide), ?_⟩
      refine ⟨_, rfl, k _ _ (Int.emod_nonneg _ (by omega)) (Int.emod_lt_of_pos _ h0) But.upd ⟨a / many, b, c, upd_same, Int.ediv_nonneg ha (by omega), hb, hb2, hc, by omega⟩ (fun q hq => ?_)⟩
      rw [upd_ne (fun z => by rw [z, hp] at hq; cases hq)]; exact hq
    · have e24 : ((10 : Int) ^ (24 : Int).toNat + 7) = 1000000000000000000000007 := by decide
      have e25 : ((10 : Int) ^ (25 : Int).toNat + 13) = 10000000000000000000000013 := by decide
      have p80 : (2 : Int) ^ 80 = 1208925819614629174706176 := by decide
      have n81 : (2 : Nat) ^ 81 = 2417851639229258349412352 := by decide
      have n85 : (2 : Nat) ^ 85 = 38685626227668133590597632 := by decide
      rw [p80] at hb2
      have w1 : CPowX (b + 2038074743 * (c + 1)) 3 := pow_ok (k := 81) (n := 3) (by rw [n81]; omega) (by decide)
      have w25 : CPowX 10 25 := pow_ok (k := 4) (n := 25) (by decide) (by decide)
      have w24 : CPowX 10 24 := pow_ok (k := 4) (n := 24) (by decide) (by decide)
      have hp2 : upd H p (.lst [.int a, .int b, .int (c + 1)]) p = some (.lst [.int a, .int b, .int (c + 1)]) := upd_same
      refine ⟨_, rfl, p, _, _, _, rfl, rfl, SqL.of hp, at2, _, _, rfl, rfl, _, rfl, p, _, 2, 2, rfl, rfl, hp, ixN3 2 (by decide), ?_⟩
      refine ⟨_, rfl, p, _, _, _, rfl, rfl, SqL.of hp2, at1, _, rfl, p, _, _, _, rfl, rfl, SqL.of hp2, at2, _, _, rfl, rfl, .inl ⟨by decide, by decide⟩, _, _, rfl, rfl, .inl ⟨_, rfl, ?_⟩⟩
      have g25 : (0 : Int) < 10 ^ (25 : Int).toNat + 13 := by rw [e25]; decide
      have g24 : (0 : Int) < 10 ^ (24 : Int).toNat + 7 := by rw [e24]; decide
      refine ⟨_, 3, rfl, rfl, w1, 10, 25, rfl, rfl, w25, _, 13, rfl, rfl, _, _, rfl, rfl, g25, ?_⟩
      have x0 : 0 ≤ (b + 2038074743 * (c + 1)) ^ (3 : Int).toNat % (10 ^ (25 : Int).toNat + 13) := Int.emod_nonneg _ (by omega)
      have x1 : (b + 2038074743 * (c + 1)) ^ (3 : Int).toNat % (10 ^ (25 : Int).toNat + 13) < 10000000000000000000000013 := by rw [← e25]; exact Int.emod_lt_of_pos _ g25
      have w2 : CPowX ((b + 2038074743 * (c + 1)) ^ (3 : Int).toNat % (10 ^ (25 : Int).toNat + 13) + 982451653 * (c + 1)) 2 := pow_ok (k := 85) (n := 2) (by rw [n85]; omega) (by decide)
      refine ⟨_, rfl, _, rfl, p, _, _, _, rfl, rfl, SqL.of hp2, at2, _, _, rfl, rfl, .inl ⟨by decide, by decide⟩, _, _, rfl, rfl, .inl ⟨_, rfl, ?_⟩⟩
      refine ⟨_, 2, rfl, rfl, w2, 10, 24, rfl, rfl, w24, _, 7, rfl, rfl, _, _, rfl, rfl, g24, ?_⟩
      refine ⟨_, rfl, _, 1024, rfl, rfl, wide_div (b := 11) (by decide) (by decide) (by decide) (by decide), .inl ⟨_, rfl, _, rfl, _, _, rfl, rfl, h0, ?_⟩⟩
      refine k _ _ (Int.emod_nonneg _ (by omega)) (Int.emod_lt_of_pos _ h0) But.upd ⟨a, b, c + 1, hp2, ha, hb, by rw [p80]; exact hb2, by omega, by omega⟩ (fun q hq => ?_)
      rw [upd_ne (fun z => by rw [z, hp] at hq; cases hq)]; exact hq
theorem ok__purse {f : Addr} {fd : FuncData} (F : Fun K "_law_purse" "_law_purse" s__law_purse f fd) (T : T0 mg) : FnOk P w K mg base CX0 1 f fd p__law_purse (spSack K) := by
  refine F.ok sc__law_purse (fun vs H Q E h => ?_) (fun cdv A outer s H vs Q E hr h => ?_)
  · obtain ⟨a, ns, r, rfl, _⟩ := h
    rfl
  · obtain ⟨a, ns, r, rfl, hS, hl, hr63, k⟩ := h
    have nd := sc__law_purse.nd
    refine ⟨_, pss_cons (ps_set (i := 2) nd rfl (Or.inl rfl) (pe_ifExp (pt_cmpR op_lt (pv 1) (pe_callB call_len_seq (by rfl) T.len PySem.boot_len (pa_cons (pv 0) pa_nil)) (nomark _)) (pe_ix ix_list (pv 0) (pv 1) (fun _ _ => rfl)) pe_int))
      (pss_one (ps_ret (pe_lst (pa_cons (pe_callB (call_max2 rfl) (by rfl) T.max (by decide +kernel) (pa_cons pe_int (pa_cons (pe_op op_sub (pe_callB call_abs (by rfl) T.abs (by decide +kernel) (pa_cons (pv 2) pa_nil)) (pe_op op_powX pe_int pe_int)) pa_nil)))
        (pa_cons (pe_op op_mod (pe_callTy call_int1 (by rfl) T.int (by decide +kernel) (pa_cons (pe_op op_add (pe_op op_add (pe_op op_mul (pv 2) pe_int) (pe_op op_mul (pv 1) pe_int)) pe_int) pa_nil)) (pe_op op_add (pe_op op_powX pe_int pe_int) pe_int))
        (pa_cons pe_int pa_nil)))))), ?_⟩
    have w18 : CPowX 10 18 := pow_ok (k := 4) (n := 18) (by decide) (by decide)
    have w24 : CPowX 10 24 := pow_ok (k := 4) (n := 24) (by decide) (by decide)
    have e24 : ((10 : Int) ^ (24 : Int).toNat + 7) = 1000000000000000000000007 := by decide
    have g24 : (0 : Int) < 10 ^ (24 : Int).toNat + 7 := by rw [e24]; decide
    have p80 : (2 : Int) ^ 80 = 1208925819614629174706176 := by decide
    (refine ⟨_, rfl, _, rfl, a, _, rfl, .inl hS, _, _, rfl, rfl, _, rfl, ?_⟩)
    refine ite2 (fun q => ?_) (fun _ => ?_)
    · have q2 : r < ns.length := by
        have q1 := of_decide_eq_true q
        rw [iV_len] at q1
        omega
      refine ⟨_, rfl, _, rfl, a, _, _, _, rfl, rfl, hS, atI_nat (iV_at (List.getElem?_eq_getElem q2)), ?_⟩
      refine ⟨_, rfl, _, rfl, 10, 18, rfl, rfl, w18, _, _, rfl, rfl, _, _, rfl, ?_⟩
      refine ⟨_, rfl, _, 30011, rfl, rfl, .inr ⟨by decide, by decide⟩, _, rfl, _, 7368787, rfl, rfl, .inr ⟨by decide, by decide⟩, _, _, rfl, rfl, _, _, rfl, rfl, .inl ⟨_, rfl, ?_⟩⟩
      refine ⟨10, 24, rfl, rfl, w24, _, 7, rfl, rfl, _, _, rfl, rfl, g24, ?_⟩
      refine ⟨by show 3 ≤ sizeLine; decide, fun q hq => ?_⟩
      refine k q _ hq (Evl.Ex.new hq) ⟨_, _, _, upd_same, ?_, Int.emod_nonneg _ (by omega), Int.lt_trans (Int.emod_lt_of_pos _ g24) (by rw [e24, p80]; decide), Int.le_refl _, Int.le_refl _⟩
      split <;> omega
    · refine ⟨_, rfl, _, rfl, 10, 18, rfl, rfl, w18, _, _, rfl, rfl, _, _, rfl, ?_⟩
      refine ⟨_, rfl, _, 30011, rfl, rfl, .inr ⟨by decide, by decide⟩, _, rfl, _, 7368787, rfl, rfl, .inr ⟨by decide, by decide⟩, _, _, rfl, rfl, _, _, rfl, rfl, .inl ⟨_, rfl, ?_⟩⟩
      refine ⟨10, 24, rfl, rfl, w24, _, 7, rfl, rfl, _, _, rfl, rfl, g24, ?_⟩
      refine ⟨by show 3 ≤ sizeLine; decide, fun q hq => ?_⟩
      refine k q _ hq (Evl.Ex.new hq) ⟨_, _, _, upd_same, ?_, Int.emod_nonneg _ (by omega), Int.lt_trans (Int.emod_lt_of_pos _ g24) (by rw [e24, p80]; decide), Int.le_refl _, Int.le_refl _⟩
      split <;> omega
theorem ok__divisor {f : Addr} {fd : FuncData} (F : Fun K "_law_wl_divisor" "_law_wl_divisor" s__law_wl_divisor f fd) (T : T0 mg) : FnOk P w K mg base CX0 1 f fd p__law_wl_divisor spGcd := by
  refine F.ok sc__law_wl_divisor (fun vs H Q E h => ?_) (fun cdv A outer s H vs Q E hr h => ?_)
  · obtain ⟨x, y, rfl, _⟩ := h
    rfl
  · obtain ⟨x, y, rfl, k⟩ := h
    have nd := sc__law_wl_divisor.nd
    refine ⟨_, pss_cons (ps_par (i := 0) (j := 1) rfl nd rfl rfl (by decide) rfl rfl (pa_cons (pe_callB call_abs (by rfl) T.abs (by decide +kernel) (pa_cons (pv 0) pa_nil)) (pa_cons (pe_callB call_abs (by rfl) T.abs (by decide +kernel) (pa_cons (pv 1) pa_nil)) pa_nil)) (by rfl))
      (pss_cons (ps_while PassesOwn.never (pt_cmpR op_ne (pv 1) pe_int (nomark _)) (pss_one (ps_par (i := 0) (j := 1) rfl nd rfl rfl (by decide) rfl rfl (pa_cons (pv 1) (pa_cons (pe_op op_mod (pe_callTy call_int1 (by rfl) T.int (by decide +kernel) (pa_cons (pv 0) pa_nil)) (pe_callTy call_int1 (by rfl) T.int (by decide +kernel) (pa_cons (pv 1) pa_nil))) pa_nil)) (by rfl))))
      (pss_one (ps_ret (pv 0)))), ?_⟩
    have ab : ∀ z : Int, (if z < 0 then -z else z) = (z.natAbs : Int) := fun z => by split <;> omega
    refine ⟨_, rfl, x, rfl, _, rfl, y, rfl, _, _, rfl, ?_⟩
    refine ⟨fun n σ H' => H' = H ∧ ∃ a b : Nat, n = b ∧ Nat.gcd a b = Int.gcd x y ∧ σ = [some (.int (a : Int)), some (.int (b : Int))], ⟨y.natAbs, rfl, x.natAbs, y.natAbs, rfl, rfl, ?_⟩, ?_⟩
    · show [some (V.int (if x < 0 then -x else x)), some (V.int (if y < 0 then -y else y))] = _
      rw [ab, ab]
    · rintro n σ H1 ⟨rfl, a, b, rfl, hg, rfl⟩
      refine ⟨_, rfl, rfl, _, rfl, ?_⟩
      by_cases h0 : n = 0
      · subst h0
        refine if_f (by decide) ⟨_, rfl, ?_⟩
        rw [Nat.gcd_zero_right] at hg
        rw [hg]
        exact k _ (Evl.Ex.refl _)
      · have e : (!decide (V.int (n : Int) = V.int 0)) = true := by
          rw [decide_eq_false fun z => h0 (by injection z with z; omega)]
          rfl
        refine if_t e ⟨fun σ H' => H' = H1 ∧ σ = [some (.int (n : Int)), some (.int ((a % n : Nat) : Int))], fun σ H' ⟨h1, h2⟩ => ⟨a % n, Nat.mod_lt _ (by omega), h1, n, a % n, rfl, ?_, h2⟩, ?_⟩
        · rw [Nat.gcd_comm, ← Nat.gcd_rec, Nat.gcd_comm, hg]
        · refine ⟨_, rfl, _, rfl, .inl ⟨_, rfl, _, rfl, .inl ⟨_, rfl, _, _, rfl, rfl, by omega, _, _, rfl, rfl, ?_⟩⟩⟩
          show [some (V.int (n : Int)), some (V.int ((a : Int) % (n : Int)))] = _
          rfl
theorem ok__ratio {f : Addr} {fd : FuncData} (F : Fun K "_law_wl_ratio" "_law_wl_ratio" s__law_wl_ratio f fd) (cD : Cal P w K mg base 1 "_law_wl_divisor" p__law_wl_divisor spGcd) : FnOk P w K mg base CX0 2 f fd p__law_wl_ratio spRt := by
  refine F.ok sc__law_wl_ratio (fun vs H Q E h => ?_) (fun cdv A outer s H vs Q E hr h => ?_)
  · obtain ⟨x, y, rfl, _⟩ := h
    rfl
  · obtain ⟨x, y, rfl, y0, yb, k⟩ := h
    have nd := sc__law_wl_ratio.nd
    have two : 2 ≤ sizeLine := by show 2 ≤ sizeLine; decide
    refine ⟨_, pss_cons (ps_set (i := 2) nd rfl (Or.inl rfl) (pe_c cD hr (pa_cons (pv 0) (pa_cons (pv 1) pa_nil))))
      (pss_cons (ps_if (pt_cmpR op_lt (pv 1) pe_int (nomark _)) (pss_one (ps_set (i := 2) nd rfl (Or.inl rfl) (pe_op op_sub pe_int (pv 2)))) pss_nil)
      (pss_one (ps_ret (pe_tup (pa_cons (pe_op op_fdivW (pv 0) (pv 2)) (pa_cons (pe_op op_fdivW (pv 1) (pv 2)) pa_nil)))))), ?_⟩
    have g0 : 0 < Int.gcd x y := Int.gcd_pos_of_ne_zero_right _ (by omega)
    have gb : ((Int.gcd x y : Nat) : Int).natAbs < 2 ^ 9000 := by
      rw [Int.natAbs_natCast]
      have h1 : Int.gcd x y ∣ y.natAbs := Nat.gcd_dvd_right _ _
      exact Nat.lt_of_le_of_lt (Nat.le_of_dvd (by omega) h1) yb
    have wd : CDivW x ((Int.gcd x y : Nat) : Int) := wide_div (b := 9000) (by omega) gb (by decide) (by decide)
    have wd2 : CDivW y ((Int.gcd x y : Nat) : Int) := wide_div (b := 9000) (by omega) gb (by decide) (by decide)
    refine ⟨_, rfl, _, rfl, x, y, rfl, fun H1 e1 => ?_⟩
    refine ⟨_, rfl, _, _, rfl, rfl, _, rfl, if_f (decide_eq_false (by omega)) ?_⟩
    refine ⟨_, rfl, _, rfl, _, _, rfl, rfl, wd, _, rfl, _, rfl, _, _, rfl, rfl, wd2, two, fun t ht => ?_⟩
    exact k t _ (Evl.fresh_back e1 ht) (e1.trans (Evl.Ex.new ht)) upd_same
theorem ok__plus {f : Addr} {fd : FuncData} (F : Fun K "_law_wl_plus" "_law_wl_plus" s__law_wl_plus f fd) (cR : Cal P w K mg base 2 "_law_wl_ratio" p__law_wl_ratio spRt) : FnOk P w K mg base CX0 3 f fd p__law_wl_plus (spFp fun p q x y => fr (p * y + x * q) (q * y)) := by
  refine F.ok sc__law_wl_plus (fun vs H Q E h => ?_) (fun cdv A outer s H vs Q E hr h => ?_)
  · obtain ⟨a, b, p, q, x, y, rfl, _⟩ := h
    rfl
  · obtain ⟨a, b, p, q, x, y, rfl, ha, hb, q0, y0, bp, bq, bx, by_, k⟩ := h
    have hqy : 0 < q * y := Int.mul_pos q0 y0
    have bqy : Bn 9000 (q * y) := (bq.mul by_).le (by decide)
    refine ⟨_, pss_one (ps_ret (pe_c cR hr (pa_cons (pe_op op_add (pe_op op_mulW (pe_ix ix_tup (pv 0) pe_int (fun _ _ => rfl)) (pe_ix ix_tup (pv 1) pe_int (fun _ _ => rfl))) (pe_op op_mulW (pe_ix ix_tup (pv 1) pe_int (fun _ _ => rfl)) (pe_ix ix_tup (pv 0) pe_int (fun _ _ => rfl)))) (pa_cons (pe_op op_mulW (pe_ix ix_tup (pv 0) pe_int (fun _ _ => rfl)) (pe_ix ix_tup (pv 1) pe_int (fun _ _ => rfl))) pa_nil)))), ?_⟩
    exact ⟨_, rfl, a, _, _, _, rfl, rfl, SqT.of ha, rfl, _, rfl, b, _, _, _, rfl, rfl, SqT.of hb, rfl, p, y, rfl, rfl, wide_mul (a := 4400) (b := 4400) bp by_ (by decide) (by decide) (by decide), _, rfl, b, _, _, _, rfl, rfl, SqT.of hb, rfl, _, rfl, a, _, _, _, rfl, rfl, SqT.of ha, rfl, x, q, rfl, rfl, wide_mul (a := 4400) (b := 4400) bx bq (by decide) (by decide) (by decide), _, _, rfl, rfl, _, rfl, a, _, _, _, rfl, rfl, SqT.of ha, rfl, _, rfl, b, _, _, _, rfl, rfl, SqT.of hb, rfl, q, y, rfl, rfl, wide_mul (a := 4400) (b := 4400) bq by_ (by decide) (by decide) (by decide), _, _, rfl, hqy, bqy, k⟩
theorem ok__times {f : Addr} {fd : FuncData} (F : Fun K "_law_wl_times" "_law_wl_times" s__law_wl_times f fd) (cR : Cal P w K mg base 2 "_law_wl_ratio" p__law_wl_ratio spRt) : FnOk P w K mg base CX0 3 f fd p__law_wl_times (spFp fun p q x y => fr (p * x) (q * y)) := by
  refine F.ok sc__law_wl_times (fun vs H Q E h => ?_) (fun cdv A outer s H vs Q E hr h => ?_)
  · obtain ⟨a, b, p, q, x, y, rfl, _⟩ := h
    rfl
  · obtain ⟨a, b, p, q, x, y, rfl, ha, hb, q0, y0, bp, bq, bx, by_, k⟩ := h
    have hqy : 0 < q * y := Int.mul_pos q0 y0
    have bqy : Bn 9000 (q * y) := (bq.mul by_).le (by decide)
    refine ⟨_, pss_one (ps_ret (pe_c cR hr (pa_cons (pe_op op_mulW (pe_ix ix_tup (pv 0) pe_int (fun _ _ => rfl)) (pe_ix ix_tup (pv 1) pe_int (fun _ _ => rfl))) (pa_cons (pe_op op_mulW (pe_ix ix_tup (pv 0) pe_int (fun _ _ => rfl)) (pe_ix ix_tup (pv 1) pe_int (fun _ _ => rfl))) pa_nil)))), ?_⟩
    exact ⟨_, rfl, a, _, _, _, rfl, rfl, SqT.of ha, rfl, _, rfl, b, _, _, _, rfl, rfl, SqT.of hb, rfl, p, x, rfl, rfl, wide_mul (a := 4400) (b := 4400) bp bx (by decide) (by decide) (by decide), _, rfl, a, _, _, _, rfl, rfl, SqT.of ha, rfl, _, rfl, b, _, _, _, rfl, rfl, SqT.of hb, rfl, q, y, rfl, rfl, wide_mul (a := 4400) (b := 4400) bq by_ (by decide) (by decide) (by decide), _, _, rfl, hqy, bqy, k⟩
theorem ok__less {f : Addr} {fd : FuncData} (F : Fun K "_law_wl_less" "_law_wl_less" s__law_wl_less f fd) : FnOk P w K mg base CX0 1 f fd p__law_wl_less spFl := by
  refine F.ok sc__law_wl_less (fun vs H Q E h => ?_) (fun cdv A outer s H vs Q E hr h => ?_)
  · obtain ⟨a, b, p, q, x, y, rfl, _⟩ := h
    rfl
  · obtain ⟨a, b, p, q, x, y, rfl, ha, hb, bp, bq, bx, by_, k⟩ := h
    refine ⟨_, pss_one (ps_ret (pe_cmpR op_lt (pe_op op_mulW (pe_ix ix_tup (pv 0) pe_int (fun _ _ => rfl)) (pe_ix ix_tup (pv 1) pe_int (fun _ _ => rfl))) (pe_op op_mulW (pe_ix ix_tup (pv 1) pe_int (fun _ _ => rfl)) (pe_ix ix_tup (pv 0) pe_int (fun _ _ => rfl))) (nomark _))), ?_⟩
    exact ⟨_, rfl, a, _, _, _, rfl, rfl, SqT.of ha, rfl, _, rfl, b, _, _, _, rfl, rfl, SqT.of hb, rfl, p, y, rfl, rfl, wide_mul (a := 4400) (b := 4400) bp by_ (by decide) (by decide) (by decide), _, rfl, b, _, _, _, rfl, rfl, SqT.of hb, rfl, _, rfl, a, _, _, _, rfl, rfl, SqT.of ha, rfl, x, q, rfl, rfl, wide_mul (a := 4400) (b := 4400) bx bq (by decide) (by decide) (by decide), _, _, rfl, rfl, k _ (Evl.Ex.refl _)⟩
end
end V2


namespace V2
open PySem L2
open PySem.Spec PyProof.Rows
/-! ## what the law draws -/
/-- a fraction from 0 to 1 whose numbers are at most m -/
def spPt : Sp := fun vs H Q _ => ∃ (s : Addr) (m : Int) (n : Nat), vs = [.ref s, .int m] ∧ 0 < m ∧ m ≤ 1000 ∧ Sk H s n ∧ n ≤ 90000 ∧ ∀ (t : Addr) (p q : Int) (H' : Hp), But s H H' → Sk H' s (n + 2) → H t = none → H' t = some (.tup [.int p, .int q]) → Pt p q → Q (.ref t) H'
def spTwo2 : Sp := fun vs H Q _ => ∃ (s : Addr) (m : Int) (n : Nat), vs = [.ref s, .int m] ∧ 0 < m ∧ m ≤ 20 ∧ Sk H s n ∧ n ≤ 90000 ∧ ∀ (t : Addr) (x y : Int) (H' : Hp), But s H H' → Sk H' s (n + 2) → H t = none → H' t = some (.tup [.int x, .int y]) → 0 ≤ x → x < m → 0 ≤ y → y < m → (2 ≤ m → x ≠ y) → Q (.ref t) H'
theorem fr_part {a d : Int} (hd : 0 < d) (h0 : 0 ≤ a) (h1 : a ≤ d) (hb : d ≤ 1001) : Pt (fr a d).1 (fr a d).2 := by
  have hp := fr_pos (u := a) hd
  have hm := fr_mul (u := a) hd
  have g0 : 0 < ((Int.gcd a d : Nat) : Int) := by
    have : 0 < Int.gcd a d := Int.gcd_pos_of_ne_zero_right _ (by omega)
    omega
  have n50 : (2 : Nat) ^ 50 = 1125899906842624 := by decide
  have a1 := fr_abs1 (a := a) hd
  have a2 := fr_abs2 (a := a) hd
  refine ⟨?_, ?_, hp, fr_cop hd, by rw [n50]; omega, by rw [n50]; omega⟩
  · refine Int.not_lt.mp fun z => ?_
    have := Int.mul_neg_of_neg_of_pos z g0
    omega
  · refine Int.not_lt.mp fun z => ?_
    have := Int.mul_lt_mul_of_pos_right z g0
    omega
section
variable {base : Heap} {mg : Str → Option Value} {K : PySem.W.Frag} {w : World} {P : Program}
theorem ok__part {f : Addr} {fd : FuncData} (F : Fun K "_law_wl_part" "_law_wl_part" s__law_wl_part f fd) (cC : Cal P w K mg base 1 "_law_coin" p__law_coin spCoin) (cR : Cal P w K mg base 2 "_law_wl_ratio" p__law_wl_ratio spRt) : FnOk P w K mg base CX0 3 f fd p__law_wl_part spPt := by
  refine F.ok sc__law_wl_part (fun vs H Q E h => ?_) (fun cdv A outer s H vs Q E hr h => ?_)
  · obtain ⟨s, m, n, rfl, _⟩ := h
    rfl
  · obtain ⟨sk, m, n, rfl, m0, m1, hS, hn, k⟩ := h
    have nd := sc__law_wl_part.nd
    have r1 : Room 1 _ := hr.mono (by decide)
    refine ⟨_, pss_cons (ps_set (i := 2) nd rfl (Or.inl rfl) (pe_op op_add pe_int (pe_c cC r1 (pa_cons (pv 0) (pa_cons (pv 1) pa_nil)))))
      (pss_one (ps_ret (pe_c cR hr (pa_cons (pe_c cC r1 (pa_cons (pv 0) (pa_cons (pe_op op_add (pv 2) pe_int) pa_nil))) (pa_cons (pv 2) pa_nil))))), ?_⟩
    have n200 : (2 : Nat) ^ 200 = 1606938044258990275541962092341162602522202993782792835301376 := by decide
    refine ⟨_, rfl, _, rfl, sk, m, n, rfl, hS, by omega, m0, by rw [n200]; omega, fun r H1 r0 r1' b1 s1 z1 => ⟨_, _, rfl, rfl, ?_⟩⟩
    refine ⟨_, rfl, _, rfl, _, _, rfl, rfl, sk, 1 + r + 1, n + 1, rfl, s1, by omega, by omega, by rw [n200]; omega, fun x H2 x0 x1 b2 s2 z2 => ⟨_, rfl, x, 1 + r, rfl, by omega, ?_, fun t H3 ht e3 h3 => ?_⟩⟩
    · exact Nat.lt_of_le_of_lt (show (1 + r).natAbs ≤ 1000 by omega) (Nat.lt_of_lt_of_le (show 1000 < 2 ^ 10 by decide) (Nat.pow_le_pow_right (by decide) (by decide)))
    · have tn : H t = none := by
        cases e : H t with
        | none => rfl
        | some o =>
          have h1 := b1 t o (sk_ne s2 ht) e
          have h2 := b2 t o (sk_ne s2 ht) h1
          rw [ht] at h2
          cases h2
      exact k t _ _ H3 ((b1.trans b2).trans (But.of_ex e3)) (s2.ex e3) tn h3 (fr_part (by omega) x0 (by omega) (by omega))
end
end V2


namespace V2
open PySem L2
open PySem.Spec PyProof.Rows
theorem n200e : (2 : Nat) ^ 200 = 1606938044258990275541962092341162602522202993782792835301376 := by decide
section
variable {base : Heap} {mg : Str → Option Value} {K : PySem.W.Frag} {w : World} {P : Program}
theorem ok__two {f : Addr} {fd : FuncData} (F : Fun K "_law_wl_two" "_law_wl_two" s__law_wl_two f fd) (T : T0 mg) (cC : Cal P w K mg base 1 "_law_coin" p__law_coin spCoin) : FnOk P w K mg base CX0 2 f fd p__law_wl_two spTwo2 := by
  refine F.ok sc__law_wl_two (fun vs H Q E h => ?_) (fun cdv A outer s H vs Q E hr h => ?_)
  · obtain ⟨s, m, n, rfl, _⟩ := h
    rfl
  · obtain ⟨sk, m, n, rfl, m0, m1, hS, hn, k⟩ := h
    have nd := sc__law_wl_two.nd
    have two : 2 ≤ sizeLine := by show 2 ≤ sizeLine; decide
    refine ⟨_, pss_cons (ps_set (i := 2) nd rfl (Or.inl rfl) (pe_c cC hr (pa_cons (pv 0) (pa_cons (pv 1) pa_nil))))
      (pss_one (ps_ret (pe_tup (pa_cons (pv 2) (pa_cons (pe_op op_mod (pe_callTy call_int1 (by rfl) T.int (by decide +kernel) (pa_cons (pe_op op_add (pe_op op_add (pv 2) pe_int) (pe_c cC hr (pa_cons (pv 0) (pa_cons (pe_callB (call_max2 rfl) (by rfl) T.max (by decide +kernel) (pa_cons pe_int (pa_cons (pe_op op_sub (pv 1) pe_int) pa_nil))) pa_nil)))) pa_nil)) (pv 1)) pa_nil))))), ?_⟩
    have n200 := n200e
    refine ⟨_, rfl, _, rfl, sk, m, n, rfl, hS, by omega, m0, by rw [n200]; omega, fun x H1 x0 x1 b1 s1 z1 => ?_⟩
    refine ⟨_, rfl, _, rfl, _, _, rfl, rfl, _, rfl, _, rfl, _, _, rfl, rfl, _, _, rfl, ?_⟩
    have hmx : (if m - 1 > 1 then m - 1 else 1 : Int) = max 1 (m - 1) := by
      rw [Int.max_def]
      split <;> split <;> omega
    refine ⟨sk, (if m - 1 > 1 then m - 1 else 1), n + 1, rfl, s1, by omega, by split <;> omega, by rw [n200]; split <;> omega, fun c H2 c0 c1 b2 s2 z2 => ⟨_, _, rfl, rfl, .inl ⟨_, rfl, _, rfl, _, _, rfl, rfl, m0, two, fun t ht => ?_⟩⟩⟩
    have tn : H t = none := by
      cases e : H t with
      | none => rfl
      | some o =>
        have h1 := b1 t o (sk_ne s2 ht) e
        have h2 := b2 t o (sk_ne s2 ht) h1
        rw [ht] at h2
        cases h2
    refine k t x ((x + 1 + c) % m) _ ((b1.trans b2).trans (But.of_ex (Evl.Ex.new ht))) (s2.ex (Evl.Ex.new ht)) tn upd_same x0 x1 (Int.emod_nonneg _ (by omega)) (Int.emod_lt_of_pos _ m0) fun h2 => ?_
    have hc : c ≤ m - 2 ∨ m = 2 := by
      split at c1 <;> omega
    intro z
    by_cases hh : x + 1 + c < m
    · rw [Int.emod_eq_of_lt (by omega) hh] at z
      omega
    · have e : (x + 1 + c) % m = x + 1 + c - m := by
        rw [← Int.sub_emod_right, Int.emod_eq_of_lt (by omega) (by split at c1 <;> omega)]
      rw [e] at z
      split at c1 <;> omega
end
end V2


namespace V2
open PySem L2
open PySem.Spec PyProof.Rows
/-- all but the object at p -/
def wo (p : Addr) (H : Hp) : Hp := fun b => if b = p then none else H b
theorem wo_ex {p : Addr} {H : Hp} : Evl.Ex (wo p H) H := fun b o h => by
  unfold wo at h
  split at h
  · cases h
  · exact h
theorem wo_at {p b : Addr} {H : Hp} {o : HO} (n : b ≠ p) (h : H b = some o) : wo p H b = some o := by
  unfold wo
  rw [if_neg n]
  exact h
theorem wo_ne {p b : Addr} {H : Hp} {o : HO} (h : wo p H b = some o) : b ≠ p := fun z => by
  unfold wo at h
  rw [if_pos z] at h
  cases h
theorem But.wo {p : Addr} {H H' : Hp} (h : But p H H') : Evl.Ex (wo p H) (V2.wo p H') := fun b o z => wo_at (wo_ne z) (h b o (wo_ne z) (wo_ex _ _ z))
theorem but_none {p q : Addr} {H H' : Hp} {n : Nat} (b : But p H H') (s : Sk H' p n) (h : H' q = none) : H q = none := by
  cases e : H q with
  | none => rfl
  | some o =>
    have h1 := b q o (sk_ne s h) e
    rw [h] at h1
    cases h1
theorem Sk.upd {H : Hp} {p l : Addr} {n : Nat} {o : HO} (s : Sk H p n) (h : l ≠ p) : Sk (L2.upd H l o) p n := by
  obtain ⟨a, b, c, h1, h2⟩ := s
  exact ⟨a, b, c, by rw [upd_ne h.symm]; exact h1, h2⟩
theorem ne_of_none' {H : Hp} {c l : Addr} {o : HO} (h : H c = some o) (hl : H l = none) : c ≠ l := fun z => by
  rw [z, hl] at h
  cases h
/-- many tanks, whose numbers are at most most -/
def spVats : Sp := fun vs H Q _ => ∃ (s : Addr) (m o : Int) (n : Nat), vs = [.ref s, .int m, .int o] ∧ 0 < m ∧ m ≤ 20 ∧ 0 < o ∧ o ≤ 1000 ∧ Sk H s n ∧ n ≤ 90000 ∧
  ∀ (l : Addr) (ts : List Tk) (H' : Hp), But s H H' → Sk H' s (n + 1 + 3 * m.toNat) → H l = none → TksAt (wo s H') l ts → okT ts → (ts.length : Int) = m → (∀ t ∈ ts, (∀ z, t.1 = some z → z ≤ 1000) ∧ t.2 ≤ 1000) → Q (.ref l) H'
theorem tks_more {p : Addr} {H : Hp} {l t : Addr} {ts : List Tk} {x : Tk} (h : TksAt (wo p H) l ts) (tp : t ≠ p) (ht : H t = some (.tup [wV x.1, .int x.2])) : ∃ acc, H l = some (.lst acc) ∧ acc.length = ts.length ∧ TksAt (wo p (upd H l (.lst (acc ++ [.ref t])))) l (ts ++ [x]) := by
  obtain ⟨as, h1, h2, h3⟩ := h
  have lp := wo_ne h1
  refine ⟨_, wo_ex _ _ h1, by rw [List.length_map]; exact h2, as ++ [t], ?_, by rw [List.length_append, List.length_append, h2]; rfl, fun i a y ha hy => ?_⟩
  · rw [List.map_append]
    exact wo_at lp upd_same
  · have ne : ∀ {a : Addr} {xs : List V}, wo p H a = some (.tup xs) → a ≠ l := fun h z => by
      rw [z, h1] at h
      cases h
    rcases get_app ha with ⟨h4, h5⟩ | ⟨h4, rfl⟩
    · rcases get_app hy with ⟨h6, _⟩ | ⟨h6, _⟩
      · have z := h3 i a y h4 h6
        exact wo_at (wo_ne z) (Eq.trans (upd_ne (ne z)) (wo_ex _ _ z))
      · omega
    · rcases get_app hy with ⟨h6, h7⟩ | ⟨_, rfl⟩
      · omega
      · exact wo_at tp (Eq.trans (upd_ne (ne (wo_at tp ht))) ht)
theorem cnt_more {ts : List Tk} {x : Tk} {rk : Int} {i : Nat} (h : ts.countP (fun t => t.1.isNone) = if rk < (i : Int) then 1 else 0) (hx : x.1 = none ↔ rk = (i : Int)) : (ts ++ [x]).countP (fun t => t.1.isNone) = if rk < ((i + 1 : Nat) : Int) then 1 else 0 := by
  rw [List.countP_append, h]
  obtain ⟨w, a⟩ := x
  cases w with
  | none =>
    have e := hx.mp rfl
    rw [if_neg (by omega), if_pos (by omega)]
    rfl
  | some z =>
    have e : rk ≠ (i : Int) := fun q => by cases hx.mpr q
    by_cases c : rk < (i : Int)
    · rw [if_pos c, if_pos (by omega)]
      rfl
    · rw [if_neg c, if_neg (by omega)]
      rfl
section
variable {base : Heap} {mg : Str → Option Value} {K : PySem.W.Frag} {w : World} {P : Program}
theorem ok__vats {f : Addr} {fd : FuncData} (F : Fun K "_law_wl_vats" "_law_wl_vats" s__law_wl_vats f fd) (mR : mg "range" = none) (cC : Cal P w K mg base 1 "_law_coin" p__law_coin spCoin) : FnOk P w K mg base CX0 2 f fd p__law_wl_vats spVats := by
  refine F.ok sc__law_wl_vats (fun vs H Q E h => ?_) (fun cdv A outer s H vs Q E hr h => ?_)
  · obtain ⟨s, m, o, n, rfl, _⟩ := h
    rfl
  · obtain ⟨sk, m, o, n, rfl, m0, m1, o0, o1, hS, hn, k⟩ := h
    have nd := sc__law_wl_vats.nd
    have two : 2 ≤ sizeLine := by show 2 ≤ sizeLine; decide
    have n200 := n200e
    refine ⟨_, pss_cons (ps_par (i := 3) (j := 4) rfl nd rfl rfl (by decide) rfl rfl (pa_cons (pe_c cC hr (pa_cons (pv 0) (pa_cons (pv 1) pa_nil))) (pa_cons (pe_lst pa_nil) pa_nil)) (by rfl))
      (pss_cons (ps_for PassesOwn.never rfl (pi_range1 (by rfl) mR (pa_cons (pv 1) pa_nil)) (pg_name (i := 5) nd rfl (Or.inl rfl))
        (pss_cons (ps_set (i := 6) nd rfl (Or.inl rfl) (pe_c cC hr (pa_cons (pv 0) (pa_cons (pe_op op_add (pv 2) pe_int) pa_nil))))
        (pss_cons (ps_set (i := 6) nd rfl (Or.inl rfl) (pe_ifExp (pt_cmpR op_eq (pe_c cC hr (pa_cons (pv 0) (pa_cons pe_int pa_nil))) pe_int (nomark _)) pe_int (pv 6)))
        (pss_cons (ps_set (i := 7) nd rfl (Or.inl rfl) (pe_op op_add pe_int (pe_c cC hr (pa_cons (pv 0) (pa_cons (pv 2) pa_nil)))))
        (pss_one (ps_expr (pe_bm PySem.F.plainAttrs_list PySem.F.slot_list_append PySem.F.type_list_append mt_append (pv 4) (pa_cons (pe_tup (pa_cons (pe_ifExp (pt_cmpR op_eq (pv 5) (pv 3) (nomark _)) pe_non (pv 7)) (pa_cons (pv 6) pa_nil))) pa_nil))))))))
      (pss_one (ps_ret (pv 4)))), ?_⟩
    refine ⟨_, rfl, _, rfl, sk, m, n, rfl, hS, by omega, m0, by rw [n200]; omega, fun rk H1 rk0 rk1 b1 s1 z1 => ⟨Nat.zero_le _, fun l hl => ⟨_, _, rfl, ?_⟩⟩⟩
    have lsk : l ≠ sk := sk_ne s1 hl
    have lH : H l = none := but_none b1 s1 hl
    have e1 := Evl.Ex.new (o := .lst []) hl
    refine ⟨_, rfl, m, rfl, by omega, by omega, for_range (n := m.toNat) (fun i σ H' => ∃ (ts : List Tk) (v5 v6 v7 : Option V), σ = [some (.ref sk), some (.int m), some (.int o), some (.int rk), some (.ref l), v5, v6, v7] ∧ But sk H H' ∧ Sk H' sk (n + 1 + 3 * i) ∧ TksAt (wo sk H') l ts ∧ ts.length = i ∧ (∀ t ∈ ts, ((∀ z, t.1 = some z → 1 ≤ z) ∧ 0 ≤ t.2) ∧ (∀ z, t.1 = some z → z ≤ 1000) ∧ t.2 ≤ 1000) ∧ ts.countP (fun t => t.1.isNone) = if rk < (i : Int) then 1 else 0)
      ⟨[], none, none, none, rfl, b1.trans (But.of_ex e1), s1.ex e1, ⟨[], wo_at lsk upd_same, rfl, fun i a t h => (by cases h)⟩, rfl, (fun t h => by cases h), by rw [if_neg (by omega)]; rfl⟩ ?_ ?_⟩
    · rintro i σ H2 hi ⟨ts, v5, v6, v7, rfl, b2, s2, hT, hl2, hb, hc⟩
      rw [Int.zero_add]
      have hi20 : i < 20 := by omega
      have fin : ∀ (H5 : Hp) (x : Tk) (t : Addr), But sk H2 H5 → Sk H5 sk (n + 1 + 3 * (i + 1)) → H5 t = none → ((∀ z, x.1 = some z → 1 ≤ z) ∧ 0 ≤ x.2) ∧ (∀ z, x.1 = some z → z ≤ 1000) ∧ x.2 ≤ 1000 → (x.1 = none ↔ rk = (i : Int)) →
          ∃ acc, upd H5 t (.tup [wV x.1, .int x.2]) l = some (.lst acc) ∧ acc.length < sizeLine ∧ ∃ (ts : List Tk), But sk H (upd (upd H5 t (.tup [wV x.1, .int x.2])) l (.lst (acc ++ [.ref t]))) ∧ Sk (upd (upd H5 t (.tup [wV x.1, .int x.2])) l (.lst (acc ++ [.ref t]))) sk (n + 1 + 3 * (i + 1)) ∧ TksAt (wo sk (upd (upd H5 t (.tup [wV x.1, .int x.2])) l (.lst (acc ++ [.ref t])))) l ts ∧ ts.length = i + 1 ∧ (∀ t ∈ ts, ((∀ z, t.1 = some z → 1 ≤ z) ∧ 0 ≤ t.2) ∧ (∀ z, t.1 = some z → z ≤ 1000) ∧ t.2 ≤ 1000) ∧ ts.countP (fun t => t.1.isNone) = if rk < ((i + 1 : Nat) : Int) then 1 else 0 := by
        intro H5 x t b5 s5 ht hx hn
        have ex := Evl.Ex.new (o := .tup [wV x.1, .int x.2]) ht
        have b26 := b5.trans (But.of_ex (p := sk) ex)
        have s6 := s5.ex ex
        have h6 : upd H5 t (.tup [wV x.1, .int x.2]) t = some (.tup [wV x.1, .int x.2]) := upd_same
        generalize upd H5 t (.tup [wV x.1, .int x.2]) = H6 at ex b26 s6 h6
        obtain ⟨acc, q1, q2, q3⟩ := tks_more (x := x) (hT.ex b26.wo) (sk_ne s5 ht) h6
        refine ⟨acc, q1, ?_, ts ++ [x], ?_, ?_, q3, by rw [List.length_append, hl2]; rfl, ?_, cnt_more hc hn⟩
        · rw [q2, hl2]
          exact Nat.lt_of_lt_of_le hi20 (by decide)
        · exact fun c o nc e => Eq.trans (upd_ne (ne_of_none' e lH)) ((b2.trans b26) c o nc e)
        · exact s6.upd lsk
        · intro t' ht'
          rcases List.mem_append.mp ht' with h | h
          · exact hb _ h
          · rw [List.mem_singleton.mp h]
            exact hx
      refine ⟨_, rfl, _, rfl, _, _, rfl, rfl, sk, o + 1, _, rfl, s2, by omega, by omega, by rw [n200]; omega, fun a H3 a0 a1 b3 s3 z3 => ?_⟩
      refine ⟨_, rfl, sk, 5, _, rfl, s3, by omega, by decide, by decide, fun y H4 y0 y1 b4 s4 z4 => ⟨rfl, _, rfl, ?_⟩⟩
      by_cases hy : y = 0
      · refine if_t (by rw [hy]; rfl) ?_
        refine ⟨_, rfl, _, rfl, sk, o, _, rfl, s4, by omega, by omega, by rw [n200]; omega, fun z H5 z0 z1 b5 s5 z5 => ⟨_, _, rfl, rfl, ?_⟩⟩
        have b25 := (b3.trans b4).trans b5
        have hT5 := hT.ex b25.wo
        refine ⟨_, rfl, .inl ⟨rfl, _, SqL.of (wo_ex _ _ hT5.choose_spec.1)⟩, ?_⟩
        refine ⟨_, rfl, _, rfl, rfl, _, rfl, ?_⟩
        by_cases hr : rk = (i : Int)
        · refine if_t (decide_eq_true (by rw [hr])) ⟨_, rfl, two, fun t ht => ?_⟩
          obtain ⟨acc, q1, q2, ts', q3, q4⟩ := fin H5 (none, 0) t b25 (by rw [show n + 1 + 3 * (i + 1) = n + 1 + 3 * i + 1 + 1 + 1 by omega]; exact s5) ht ⟨⟨fun z h => (by cases h), Int.le_refl _⟩, fun z h => (by cases h), by decide⟩ ⟨fun _ => hr, fun _ => rfl⟩
          exact ⟨l, acc, _, rfl, rfl, q1, q2, ts', _, _, _, rfl, q3, q4⟩
        · refine if_f (decide_eq_false fun q => hr (by injection q with q; exact q.symm)) ⟨_, rfl, _, rfl, two, fun t ht => ?_⟩
          obtain ⟨acc, q1, q2, ts', q3, q4⟩ := fin H5 (some (1 + z), 0) t b25 (by rw [show n + 1 + 3 * (i + 1) = n + 1 + 3 * i + 1 + 1 + 1 by omega]; exact s5) ht ⟨⟨fun z' h => (by cases h; omega), Int.le_refl _⟩, fun z' h => (by cases h; omega), (show (0 : Int) ≤ 1000 by decide)⟩ ⟨fun h => (by cases h), fun h => absurd h hr⟩
          exact ⟨l, acc, _, rfl, rfl, q1, q2, ts', _, _, _, rfl, q3, q4⟩
      · refine if_f (decide_eq_false fun q => hy (by injection q)) ⟨_, rfl, ?_⟩
        refine ⟨_, rfl, _, rfl, sk, o, _, rfl, s4, by omega, by omega, by rw [n200]; omega, fun z H5 z0 z1 b5 s5 z5 => ⟨_, _, rfl, rfl, ?_⟩⟩
        have b25 := (b3.trans b4).trans b5
        have hT5 := hT.ex b25.wo
        refine ⟨_, rfl, .inl ⟨rfl, _, SqL.of (wo_ex _ _ hT5.choose_spec.1)⟩, ?_⟩
        refine ⟨_, rfl, _, rfl, rfl, _, rfl, ?_⟩
        by_cases hr : rk = (i : Int)
        · refine if_t (decide_eq_true (by rw [hr])) ⟨_, rfl, two, fun t ht => ?_⟩
          obtain ⟨acc, q1, q2, ts', q3, q4⟩ := fin H5 (none, a) t b25 (by rw [show n + 1 + 3 * (i + 1) = n + 1 + 3 * i + 1 + 1 + 1 by omega]; exact s5) ht ⟨⟨fun z h => (by cases h), a0⟩, fun z h => (by cases h), by omega⟩ ⟨fun _ => hr, fun _ => rfl⟩
          exact ⟨l, acc, _, rfl, rfl, q1, q2, ts', _, _, _, rfl, q3, q4⟩
        · refine if_f (decide_eq_false fun q => hr (by injection q with q; exact q.symm)) ⟨_, rfl, _, rfl, two, fun t ht => ?_⟩
          obtain ⟨acc, q1, q2, ts', q3, q4⟩ := fin H5 (some (1 + z), a) t b25 (by rw [show n + 1 + 3 * (i + 1) = n + 1 + 3 * i + 1 + 1 + 1 by omega]; exact s5) ht ⟨⟨fun z' h => (by cases h; omega), a0⟩, fun z' h => (by cases h; omega), by omega⟩ ⟨fun h => (by cases h), fun h => absurd h hr⟩
          exact ⟨l, acc, _, rfl, rfl, q1, q2, ts', _, _, _, rfl, q3, q4⟩
    · rintro σ H2 ⟨ts, v5, v6, v7, rfl, b2, s2, hT, hl2, hb, hc⟩
      refine ⟨_, rfl, k l ts H2 b2 s2 lH hT ⟨by omega, fun t ht => (hb t ht).1, ?_⟩ (by omega) fun t ht => (hb t ht).2⟩
      rw [hc, if_pos (by omega)]
end
end V2


namespace V2
open PySem L2
open PySem.Spec PyProof.Rows
theorem inV2 (i x y : Int) : inV (.int i) [.int x, .int y] = true ↔ x = i ∨ y = i := by
  simp [inV, eqV]
/-- numbers below i that are drawn: f and s are among them -/
structure AscI (f s : Int) (ks : List Int) (i : Nat) : Prop where
  asc : ∀ (j : Nat) (x y : Int), ks[j]? = some x → ks[j + 1]? = some y → x < y
  bd : ∀ x ∈ ks, 0 ≤ x ∧ x < (i : Int)
  hf : 0 ≤ f → f < (i : Int) → f ∈ ks
  hs : 0 ≤ s → s < (i : Int) → s ∈ ks
  len : ks.length ≤ i
theorem AscI.start (f s : Int) : AscI f s [] 0 := ⟨fun _ _ _ h => (by cases h), fun _ h => (by cases h), fun h h' => by omega, fun h h' => by omega, Nat.le_refl _⟩
theorem AscI.more {f s : Int} {ks : List Int} {i : Nat} (h : AscI f s ks i) : AscI f s (ks ++ [(i : Int)]) (i + 1) := by
  refine ⟨fun j x y hx hy => ?_, fun x hx => ?_, fun h0 h1 => ?_, fun h0 h1 => ?_, by rw [List.length_append]; exact Nat.succ_le_succ h.len⟩
  · rcases get_app hy with ⟨h1, h2⟩ | ⟨h1, rfl⟩
    · rcases get_app hx with ⟨h3, _⟩ | ⟨h3, _⟩
      · exact h.asc j x y h3 h1
      · omega
    · rcases get_app hx with ⟨h3, _⟩ | ⟨h3, _⟩
      · exact (h.bd x (List.mem_of_getElem? h3)).2
      · omega
  · rcases List.mem_append.mp hx with h1 | h1
    · have := h.bd x h1
      omega
    · have := List.mem_singleton.mp h1
      omega
  · by_cases c : f < (i : Int)
    · exact List.mem_append_left _ (h.hf h0 c)
    · exact List.mem_append_right _ (List.mem_singleton.mpr (by omega))
  · by_cases c : s < (i : Int)
    · exact List.mem_append_left _ (h.hs h0 c)
    · exact List.mem_append_right _ (List.mem_singleton.mpr (by omega))
theorem AscI.skip {f s : Int} {ks : List Int} {i : Nat} (h : AscI f s ks i) (n : ¬ (f = (i : Int) ∨ s = (i : Int))) : AscI f s ks (i + 1) := by
  have n1 : f ≠ (i : Int) := fun z => n (.inl z)
  have n2 : s ≠ (i : Int) := fun z => n (.inr z)
  exact ⟨h.asc, fun x hx => (by have := h.bd x hx; omega), fun h0 h1 => h.hf h0 (by omega), fun h0 h1 => h.hs h0 (by omega), by have := h.len; omega⟩
theorem mem2_len {ks : List Int} {f s : Int} (hf : f ∈ ks) (hs : s ∈ ks) (n : f ≠ s) : 2 ≤ ks.length := by
  match ks, hf, hs with
  | [], hf, _ => cases hf
  | [x], hf, hs =>
    rw [List.mem_singleton] at hf hs
    exact absurd (hf.trans hs.symm) n
  | x :: y :: r, _, _ => simp
/-- a drawn step of a kind -/
def spDeed : Sp := fun vs H Q _ => ∃ (s : Addr) (m o : Int) (x : Str) (n : Nat), vs = [.ref s, .int m, .int o, .str x] ∧ 0 < m ∧ m ≤ 20 ∧ 0 < o ∧ o ≤ 1000 ∧ (x = "pour" ∨ x = "scoop" ∨ x = "unless" ∨ x = "move" ∨ x = "open") ∧ Sk H s n ∧ n ≤ 80000 ∧
  ∀ (t : Addr) (d : Deed) (H' : Hp), But s H H' → Sk H' s (n + 22) → DAt (Nw H H') t d → okD m d → (∀ k a, d = .po k a → a ≤ 1000) → Q (.ref t) H'
section
variable {base : Heap} {mg : Str → Option Value} {K : PySem.W.Frag} {w : World} {P : Program}
theorem ok__deed {f : Addr} {fd : FuncData} (F : Fun K "_law_wl_deed" "_law_wl_deed" s__law_wl_deed f fd) (mR : mg "range" = none) (cC : Cal P w K mg base 1 "_law_coin" p__law_coin spCoin) (cP : Cal P w K mg base 3 "_law_wl_part" p__law_wl_part spPt) (cT : Cal P w K mg base 2 "_law_wl_two" p__law_wl_two spTwo2) : FnOk P w K mg base CX0 4 f fd p__law_wl_deed spDeed := by
  refine F.ok sc__law_wl_deed (fun vs H Q E h => ?_) (fun cdv A outer s H vs Q E hr h => ?_)
  · obtain ⟨s, m, o, x, n, rfl, _⟩ := h
    rfl
  · obtain ⟨sk, m, o, x, n, rfl, m0, m1, o0, o1, hx, hS, hn, k⟩ := h
    have nd := sc__law_wl_deed.nd
    have r1 : Room 1 _ := hr.mono (by decide)
    have r2 : Room 2 _ := hr.mono (by decide)
    have two : 2 ≤ sizeLine := by show 2 ≤ sizeLine; decide
    have three : 3 ≤ sizeLine := by show 3 ≤ sizeLine; decide
    have four : 4 ≤ sizeLine := by show 4 ≤ sizeLine; decide
    have n200 := n200e
    refine ⟨_, pss_cons (ps_if (PW.pt (pw_or (pt_cmpR op_eq (pv 3) pe_str (nomark _)) (pw_or1 (PW.pt (pw_and (pt_cmpR op_lt (pv 1) pe_int (nomark _)) (pw_and1 (pt_cmpR op_ne (pv 3) pe_str (nomark _)))))))) (pss_one (ps_ret (pe_tup (pa_cons pe_str (pa_cons (pe_c cC r1 (pa_cons (pv 0) (pa_cons (pv 1) pa_nil))) (pa_cons (pe_c cC r1 (pa_cons (pv 0) (pa_cons (pe_op op_add (pv 2) pe_int) pa_nil))) pa_nil)))))) pss_nil)
      (pss_cons (ps_if (pt_cmpR op_eq (pv 3) pe_str (nomark _)) (pss_one (ps_ret (pe_tup (pa_cons pe_str (pa_cons (pe_c cC r1 (pa_cons (pv 0) (pa_cons (pv 1) pa_nil))) (pa_cons (pe_c cP hr (pa_cons (pv 0) (pa_cons (pe_ifExp (pt_cmpR op_gt (pv 2) pe_int (nomark _)) (pv 2) pe_int) pa_nil))) pa_nil)))))) pss_nil)
      (pss_cons (ps_asg (pe_c cT r2 (pa_cons (pv 0) (pa_cons (pv 1) pa_nil))) (pg_tup rfl (pgs_cons (pg_name (i := 4) nd rfl (Or.inr rfl)) (pgs_cons (pg_name (i := 5) nd rfl (Or.inr rfl)) pgs_nil))))
      (pss_cons (ps_if (pt_cmpR op_eq (pv 3) pe_str (nomark _)) (pss_one (ps_ret (pe_tup (pa_cons pe_str (pa_cons (pv 4) (pa_cons (pv 5) pa_nil)))))) pss_nil)
      (pss_cons (ps_if (pt_cmpR op_eq (pv 3) pe_str (nomark _)) (pss_one (ps_ret (pe_tup (pa_cons pe_str (pa_cons (pv 4) (pa_cons (pv 5) (pa_cons (pe_c cP hr (pa_cons (pv 0) (pa_cons (pe_ifExp (pt_cmpR op_gt (pv 2) pe_int (nomark _)) (pv 2) pe_int) pa_nil))) pa_nil))))))) pss_nil)
      (pss_cons (ps_setLc (i := 6) (own := [("k", 7)]) (g := (gName 7)) (tt := (tOr (tTest (tOp (rIn K false) (tVar 7) (tTup (tCons (tVar 4) (tCons (tVar 5) tNil))))) (tTest (tOp rEq (tCall spCoin [] E0 (tCons (tVar 0) (tCons (tC (.int 3)) tNil))) (tC (.int 0)))))) (te := (tVar 7)) rfl nd rfl rfl (sw_true rfl rfl rfl (by decide +kernel)) (pi_range1 (by rfl) mR (pa_cons (pv 1) pa_nil)) (blkOk_by (N := n__law_wl_deed) (sc := defScope s__law_wl_deed) (by decide +kernel)) (fun _ _ _ _ _ => (pg_name (i := 7) nd rfl (Or.inl rfl))) (fun _ _ _ _ _ => pts_one (PW.pt (pw_or (pt_cmpR op_in_seq (pv 7) (pe_tup (pa_cons (pv 4) (pa_cons (pv 5) pa_nil))) (by rfl)) (pw_or1 (pt_cmpR op_eq (pe_c cC r1 (pa_cons (pv 0) (pa_cons pe_int pa_nil))) pe_int (nomark _)))))) (fun _ _ _ _ _ => (pv 7)))
      (pss_one (ps_ret (pe_tup (pa_cons pe_str (pa_cons (pv 6) pa_nil)))))))))), ?_⟩
    rcases hx with rfl | rfl | rfl | rfl | rfl
    · refine ⟨_, rfl, rfl, _, rfl, if_t (by decide) (if_t rfl ?_)⟩
      · skip
        refine ⟨_, rfl, _, rfl, sk, m, n, rfl, hS, by omega, m0, by rw [n200]; omega, fun k1 H1 k0 k1' b1 s1 z1 => ?_⟩
        refine ⟨_, rfl, _, rfl, _, _, rfl, rfl, sk, o + 1, n + 1, rfl, s1, by omega, by omega, by rw [n200]; omega, fun a H2 a0 a1 b2 s2 z2 => ⟨three, fun t ht => ?_⟩⟩
        exact k t (.po k1 a) _ ((b1.trans b2).trans (But.of_ex (Evl.Ex.new ht))) ((s2.ex (Evl.Ex.new ht)).le (by omega)) (nw_at (but_none (b1.trans b2) s2 ht) upd_same) ⟨⟨k0, k1'⟩, a0⟩ (fun _ _ e => by cases e; omega)
    · refine ⟨_, rfl, rfl, _, rfl, if_f (by decide) ⟨_, rfl, _, _, rfl, rfl, _, rfl, ?_⟩⟩
      by_cases hm : m < 2
      · refine if_t (decide_eq_true hm) ⟨_, rfl, rfl, _, rfl, if_f (by decide) ?_⟩
        refine ⟨_, rfl, rfl, _, rfl, if_t (by decide) ?_⟩
        refine ⟨_, rfl, _, rfl, sk, m, n, rfl, hS, by omega, m0, by rw [n200]; omega, fun k1 H1 k0 k1' b1 s1 z1 => ?_⟩
        refine ⟨_, rfl, _, rfl, _, _, rfl, rfl, _, rfl, ?_⟩
        by_cases h12 : 12 < o
        · refine if_t (decide_eq_true h12) ⟨_, rfl, sk, o, n + 1, rfl, o0, o1, s1, by omega, fun g p q H2 b2 s2 hg hgt hP => ⟨three, fun t ht => ?_⟩⟩
          exact k t (.sc k1 p q) _ ((b1.trans b2).trans (But.of_ex (Evl.Ex.new ht))) ((s2.ex (Evl.Ex.new ht)).le (by omega)) ⟨g, nw_at (but_none (b1.trans b2) s2 ht) upd_same, nw_at (but_none b1 s1 hg) (Eq.trans (upd_ne (ne_of_none hgt ht)) hgt)⟩ ⟨⟨k0, k1'⟩, hP⟩ (fun _ _ e => by cases e)
        · refine if_f (decide_eq_false h12) ⟨sk, 6, n + 1, rfl, by decide, by decide, s1, by omega, fun g p q H2 b2 s2 hg hgt hP => ⟨three, fun t ht => ?_⟩⟩
          exact k t (.sc k1 p q) _ ((b1.trans b2).trans (But.of_ex (Evl.Ex.new ht))) ((s2.ex (Evl.Ex.new ht)).le (by omega)) ⟨g, nw_at (but_none (b1.trans b2) s2 ht) upd_same, nw_at (but_none b1 s1 hg) (Eq.trans (upd_ne (ne_of_none hgt ht)) hgt)⟩ ⟨⟨k0, k1'⟩, hP⟩ (fun _ _ e => by cases e)
      · refine if_f (decide_eq_false hm) (if_f rfl ?_)
        refine ⟨_, rfl, rfl, _, rfl, if_t (by decide) ?_⟩
        refine ⟨_, rfl, _, rfl, sk, m, n, rfl, hS, by omega, m0, by rw [n200]; omega, fun k1 H1 k0 k1' b1 s1 z1 => ?_⟩
        refine ⟨_, rfl, _, rfl, _, _, rfl, rfl, _, rfl, ?_⟩
        by_cases h12 : 12 < o
        · refine if_t (decide_eq_true h12) ⟨_, rfl, sk, o, n + 1, rfl, o0, o1, s1, by omega, fun g p q H2 b2 s2 hg hgt hP => ⟨three, fun t ht => ?_⟩⟩
          exact k t (.sc k1 p q) _ ((b1.trans b2).trans (But.of_ex (Evl.Ex.new ht))) ((s2.ex (Evl.Ex.new ht)).le (by omega)) ⟨g, nw_at (but_none (b1.trans b2) s2 ht) upd_same, nw_at (but_none b1 s1 hg) (Eq.trans (upd_ne (ne_of_none hgt ht)) hgt)⟩ ⟨⟨k0, k1'⟩, hP⟩ (fun _ _ e => by cases e)
        · refine if_f (decide_eq_false h12) ⟨sk, 6, n + 1, rfl, by decide, by decide, s1, by omega, fun g p q H2 b2 s2 hg hgt hP => ⟨three, fun t ht => ?_⟩⟩
          exact k t (.sc k1 p q) _ ((b1.trans b2).trans (But.of_ex (Evl.Ex.new ht))) ((s2.ex (Evl.Ex.new ht)).le (by omega)) ⟨g, nw_at (but_none (b1.trans b2) s2 ht) upd_same, nw_at (but_none b1 s1 hg) (Eq.trans (upd_ne (ne_of_none hgt ht)) hgt)⟩ ⟨⟨k0, k1'⟩, hP⟩ (fun _ _ e => by cases e)
    · refine ⟨_, rfl, rfl, _, rfl, if_f (by decide) ⟨_, rfl, _, _, rfl, rfl, _, rfl, ?_⟩⟩
      by_cases hm : m < 2
      · refine if_t (decide_eq_true hm) ⟨_, rfl, rfl, _, rfl, if_t (by decide) ?_⟩
        refine ⟨_, rfl, _, rfl, sk, m, n, rfl, hS, by omega, m0, by rw [n200]; omega, fun k1 H1 k0 k1' b1 s1 z1 => ?_⟩
        refine ⟨_, rfl, _, rfl, _, _, rfl, rfl, sk, o + 1, n + 1, rfl, s1, by omega, by omega, by rw [n200]; omega, fun a H2 a0 a1 b2 s2 z2 => ⟨three, fun t ht => ?_⟩⟩
        exact k t (.po k1 a) _ ((b1.trans b2).trans (But.of_ex (Evl.Ex.new ht))) ((s2.ex (Evl.Ex.new ht)).le (by omega)) (nw_at (but_none (b1.trans b2) s2 ht) upd_same) ⟨⟨k0, k1'⟩, a0⟩ (fun _ _ e => by cases e; omega)
      · refine if_f (decide_eq_false hm) (if_f rfl ?_)
        refine ⟨_, rfl, rfl, _, rfl, if_f (by decide) ?_⟩
        refine ⟨_, rfl, _, rfl, sk, m, n, rfl, m0, m1, hS, by omega, fun t1 x y H1 b1 s1 ht1 h1 x0 x1 y0 y1 xyn => ⟨t1, _, rfl, SqT.of h1, rfl, _, _, rfl, _, _, rfl, rfl, ?_⟩⟩
        have xy := xyn (by omega)
        refine ⟨_, rfl, rfl, _, rfl, if_t (by decide) ?_⟩
        refine ⟨_, rfl, _, rfl, three, fun t ht => ?_⟩
        exact k t (.un x y) _ (b1.trans (But.of_ex (Evl.Ex.new ht))) ((s1.ex (Evl.Ex.new ht)).le (by omega)) (nw_at (but_none b1 s1 ht) upd_same) ⟨⟨x0, x1⟩, ⟨y0, y1⟩, xy⟩ (fun _ _ e => by cases e)
    · refine ⟨_, rfl, rfl, _, rfl, if_f (by decide) ⟨_, rfl, _, _, rfl, rfl, _, rfl, ?_⟩⟩
      by_cases hm : m < 2
      · refine if_t (decide_eq_true hm) ⟨_, rfl, rfl, _, rfl, if_t (by decide) ?_⟩
        refine ⟨_, rfl, _, rfl, sk, m, n, rfl, hS, by omega, m0, by rw [n200]; omega, fun k1 H1 k0 k1' b1 s1 z1 => ?_⟩
        refine ⟨_, rfl, _, rfl, _, _, rfl, rfl, sk, o + 1, n + 1, rfl, s1, by omega, by omega, by rw [n200]; omega, fun a H2 a0 a1 b2 s2 z2 => ⟨three, fun t ht => ?_⟩⟩
        exact k t (.po k1 a) _ ((b1.trans b2).trans (But.of_ex (Evl.Ex.new ht))) ((s2.ex (Evl.Ex.new ht)).le (by omega)) (nw_at (but_none (b1.trans b2) s2 ht) upd_same) ⟨⟨k0, k1'⟩, a0⟩ (fun _ _ e => by cases e; omega)
      · refine if_f (decide_eq_false hm) (if_f rfl ?_)
        refine ⟨_, rfl, rfl, _, rfl, if_f (by decide) ?_⟩
        refine ⟨_, rfl, _, rfl, sk, m, n, rfl, m0, m1, hS, by omega, fun t1 x y H1 b1 s1 ht1 h1 x0 x1 y0 y1 xyn => ⟨t1, _, rfl, SqT.of h1, rfl, _, _, rfl, _, _, rfl, rfl, ?_⟩⟩
        have xy := xyn (by omega)
        refine ⟨_, rfl, rfl, _, rfl, if_f (by decide) ?_⟩
        refine ⟨_, rfl, rfl, _, rfl, if_t (by decide) ?_⟩
        refine ⟨_, rfl, _, rfl, _, rfl, _, rfl, _, _, rfl, rfl, _, rfl, ?_⟩
        by_cases h12 : 12 < o
        · refine if_t (decide_eq_true h12) ⟨_, rfl, sk, o, n + 2, rfl, o0, o1, s1, by omega, fun g p q H2 b2 s2 hg hgt hP => ⟨four, fun t ht => ?_⟩⟩
          exact k t (.mv x y p q) _ ((b1.trans b2).trans (But.of_ex (Evl.Ex.new ht))) ((s2.ex (Evl.Ex.new ht)).le (by omega)) ⟨g, nw_at (but_none (b1.trans b2) s2 ht) upd_same, nw_at (but_none b1 s1 hg) (Eq.trans (upd_ne (ne_of_none hgt ht)) hgt)⟩ ⟨⟨x0, x1⟩, ⟨y0, y1⟩, xy, hP⟩ (fun _ _ e => by cases e)
        · refine if_f (decide_eq_false h12) ⟨sk, 6, n + 2, rfl, by decide, by decide, s1, by omega, fun g p q H2 b2 s2 hg hgt hP => ⟨four, fun t ht => ?_⟩⟩
          exact k t (.mv x y p q) _ ((b1.trans b2).trans (But.of_ex (Evl.Ex.new ht))) ((s2.ex (Evl.Ex.new ht)).le (by omega)) ⟨g, nw_at (but_none (b1.trans b2) s2 ht) upd_same, nw_at (but_none b1 s1 hg) (Eq.trans (upd_ne (ne_of_none hgt ht)) hgt)⟩ ⟨⟨x0, x1⟩, ⟨y0, y1⟩, xy, hP⟩ (fun _ _ e => by cases e)
    · refine ⟨_, rfl, rfl, _, rfl, if_f (by decide) ⟨_, rfl, _, _, rfl, rfl, _, rfl, ?_⟩⟩
      by_cases hm : m < 2
      · refine if_t (decide_eq_true hm) ⟨_, rfl, rfl, _, rfl, if_t (by decide) ?_⟩
        refine ⟨_, rfl, _, rfl, sk, m, n, rfl, hS, by omega, m0, by rw [n200]; omega, fun k1 H1 k0 k1' b1 s1 z1 => ?_⟩
        refine ⟨_, rfl, _, rfl, _, _, rfl, rfl, sk, o + 1, n + 1, rfl, s1, by omega, by omega, by rw [n200]; omega, fun a H2 a0 a1 b2 s2 z2 => ⟨three, fun t ht => ?_⟩⟩
        exact k t (.po k1 a) _ ((b1.trans b2).trans (But.of_ex (Evl.Ex.new ht))) ((s2.ex (Evl.Ex.new ht)).le (by omega)) (nw_at (but_none (b1.trans b2) s2 ht) upd_same) ⟨⟨k0, k1'⟩, a0⟩ (fun _ _ e => by cases e; omega)
      · refine if_f (decide_eq_false hm) (if_f rfl ?_)
        refine ⟨_, rfl, rfl, _, rfl, if_f (by decide) ?_⟩
        refine ⟨_, rfl, _, rfl, sk, m, n, rfl, m0, m1, hS, by omega, fun t1 x y H1 b1 s1 ht1 h1 x0 x1 y0 y1 xyn => ⟨t1, _, rfl, SqT.of h1, rfl, _, _, rfl, _, _, rfl, rfl, ?_⟩⟩
        have xy := xyn (by omega)
        refine ⟨_, rfl, rfl, _, rfl, if_f (by decide) ?_⟩
        refine ⟨_, rfl, rfl, _, rfl, if_f (by decide) ?_⟩
        refine ⟨_, rfl, m, rfl, by omega, by omega, fun D hD => lc_range (n := m.toNat) (fun i H' => ∃ ks : List Int, But sk H1 H' ∧ Sk H' sk (n + 2 + i) ∧ Li H' D ks ∧ AscI x y ks i) ⟨[], But.of_ex (Evl.Ex.new hD), s1.ex (Evl.Ex.new hD), upd_same, AscI.start x y⟩ ?_ ?_⟩
        · rintro i H2 hi ⟨ks, b2, s2, hL, hA⟩
          rw [Int.zero_add]
          have hi20 : i < 20 := by omega
          have D1 := sk_ne s1 hD
          have app : ∀ H3, But sk H2 H3 → Sk H3 sk (n + 2 + (i + 1)) → ∃ acc, H3 D = some (.lst acc) ∧ acc.length < sizeLine ∧ ∃ ks : List Int, But sk H1 (upd H3 D (.lst (acc ++ [.int (i : Int)]))) ∧ Sk (upd H3 D (.lst (acc ++ [.int (i : Int)]))) sk (n + 2 + (i + 1)) ∧ Li (upd H3 D (.lst (acc ++ [.int (i : Int)]))) D ks ∧ AscI x y ks (i + 1) := by
            intro H3 b3 s3
            refine ⟨_, b3 _ _ D1 hL, ?_, ks ++ [(i : Int)], ?_, s3.upd D1, ?_, hA.more⟩
            · rw [iV_len]
              exact Nat.lt_of_le_of_lt hA.len (Nat.lt_of_lt_of_le hi20 (by decide))
            · exact fun c o nc e => Eq.trans (upd_ne (ne_of_none' e hD)) ((b2.trans b3) c o nc e)
            · exact Eq.trans upd_same (by unfold iV; rw [List.map_append]; rfl)
          refine ⟨rfl, _, rfl, _, rfl, _, rfl, two, fun t2 ht2 => ⟨t2, _, rfl, .inr (SqT.of upd_same), rfl, rfl, _, rfl, ?_⟩⟩
          have e2 := Evl.Ex.new (o := .tup [.int x, .int y]) ht2
          by_cases hin : inV (.int (i : Int)) [.int x, .int y] = true
          · refine if_t hin (if_t rfl ⟨_, rfl, app _ (But.of_ex e2) ((s2.ex e2).le (by omega))⟩)
          · have nin : ¬ (x = (i : Int) ∨ y = (i : Int)) := fun z => hin ((inV2 _ _ _).mpr z)
            refine if_f (by simpa using hin) ⟨_, rfl, sk, 3, n + 2 + i, rfl, s2.ex e2, by omega, by decide, by decide, fun c H3 c0 c1 b3 s3 z3 => ⟨rfl, _, rfl, ?_⟩⟩
            have b23 := (But.of_ex (p := sk) e2).trans b3
            by_cases hc : c = 0
            · refine if_t (by rw [hc]; rfl) ⟨_, rfl, app _ b23 s3⟩
            · refine if_f (decide_eq_false fun q => hc (by injection q)) ⟨ks, b2.trans b23, s3, b23 _ _ D1 hL, hA.skip nin⟩
        · rintro H2 ⟨ks, b2, s2, hL, hA⟩
          have lm := hA.len
          have em : ((m.toNat : Nat) : Int) = m := by omega
          refine ⟨_, rfl, two, fun t ht => ?_⟩
          refine k t (.op ks) _ ((b1.trans b2).trans (But.of_ex (Evl.Ex.new ht))) ((s2.ex (Evl.Ex.new ht)).le (by omega)) ⟨D, nw_at (but_none (b1.trans b2) s2 ht) upd_same, nw_at (but_none b1 s1 hD) (Eq.trans (upd_ne (ne_of_none hL ht)) hL)⟩ ⟨mem2_len (hA.hf x0 (by omega)) (hA.hs y0 (by omega)) xy, by omega, hA.asc, fun z hz => by have := hA.bd z hz; omega⟩ (fun _ _ e => by cases e)
end
end V2


namespace V2
open PySem L2
open PySem.Spec PyProof.Rows
theorem atI_mem {xs : List V} {r : Int} (h0 : 0 ≤ r) (h1 : r < xs.length) : ∃ v, v ∈ xs ∧ atI xs r = some v := by
  obtain ⟨j, rfl⟩ : ∃ j : Nat, r = (j : Int) := ⟨r.toNat, by omega⟩
  have hj : j < xs.length := by omega
  exact ⟨xs[j], List.getElem_mem hj, atI_nat (List.getElem?_eq_getElem hj)⟩
/-- [a, b, ..][coin(sack, many)] -/
theorem pick_read {K : PySem.W.Frag} {σ : L2.St} {H : Hp} {Q : VK} {t : TA} {xs : List V} {s : Addr} {n : Nat} {m : Int} (hm : m = (xs.length : Int)) (h0 : 0 < xs.length) (hl : xs.length ≤ 100) (i0 : σ[0]? = some (some (.ref s))) (hS : Sk H s n) (hn : n ≤ 99990)
    (ht : ∀ (H' : Hp) (Q' : List V → Hp → Prop), Q' xs H' → t σ H' Q') (k : ∀ (v : V) (H' : Hp), v ∈ xs → But s H H' → Sk H' s (n + 1) → Q v H') :
    tOp (rIxL K) (tLst t) (tCall spCoin [] E0 (tCons (tVar 0) (tCons (tC (.int m)) tNil))) σ H Q := by
  refine ht _ _ ⟨Nat.le_trans hl (by decide), fun p hp => ⟨_, i0, s, m, n, rfl, hS.ex (Evl.Ex.new hp), by omega, by omega, ?_, fun r H' r0 r1 b s' z => ?_⟩⟩
  · rw [n200e]
    omega
  · obtain ⟨v, hv, e⟩ := atI_mem (xs := xs) r0 (by omega)
    exact ⟨p, xs, r, v, rfl, rfl, SqL.of (b _ _ (sk_ne hS hp) upd_same), e, k v H' hv ((But.of_ex (Evl.Ex.new hp)).trans b) s'⟩
theorem dat_keep {H H' : Hp} {a l : Addr} {d : Deed} {n : Int} {as : List Addr} (h : DAt H a d) (hd : okD n d) (hl : H l = some (.lst (as.map V.ref))) (e : ∀ b o, b ≠ l → H b = some o → H' b = some o) : DAt H' a d := by
  have ne : ∀ {a : Addr} {xs : List V}, H a = some (.tup xs) → a ≠ l := fun h z => by
    rw [z, hl] at h
    cases h
  cases d with
  | op ks =>
    obtain ⟨q, h1, h2⟩ := h
    refine ⟨q, e _ _ (ne h1) h1, e _ _ (fun z => ?_) h2⟩
    have h2 : H q = some (.lst (iV ks)) := h2
    rw [z, hl] at h2
    have h3 : as.map V.ref = iV ks := by
      injection h2 with h2
      injection h2
    have h4 : 2 ≤ ks.length := hd.1
    match ks, as, h3, h4 with
    | k :: ks, a :: as, h3, _ =>
      unfold iV at h3
      rw [List.map_cons, List.map_cons] at h3
      injection h3 with h3 _
      cases h3
    | k :: ks, [], h3, _ => cases h3
    | [], _, _, h4 => exact absurd h4 (by decide)
  | po k x => exact e _ _ (ne h) h
  | sc k p q =>
    obtain ⟨f, h1, h2⟩ := h
    exact ⟨f, e _ _ (ne h1) h1, e _ _ (ne h2) h2⟩
  | mv k m p q =>
    obtain ⟨f, h1, h2⟩ := h
    exact ⟨f, e _ _ (ne h1) h1, e _ _ (ne h2) h2⟩
  | un k m => exact e _ _ (ne h) h
theorem ds_more {G G' : Hp} {l t : Addr} {ds : List Deed} {d : Deed} {n : Int} (h : DsAt G l ds) (hds : ∀ d ∈ ds, okD n d) (ht : DAt G t d) (hd : okD n d) (e : ∀ b o, b ≠ l → G b = some o → G' b = some o) (e' : ∀ acc, G l = some (.lst acc) → G' l = some (.lst (acc ++ [.ref t]))) : DsAt G' l (ds ++ [d]) := by
  obtain ⟨as, h1, h2, h3⟩ := h
  refine ⟨as ++ [t], ?_, by rw [List.length_append, List.length_append, h2]; rfl, fun i a y ha hy => ?_⟩
  · rw [List.map_append]
    exact e' _ h1
  · rcases get_app ha with ⟨h4, h5⟩ | ⟨h4, rfl⟩
    · rcases get_app hy with ⟨h6, _⟩ | ⟨h6, _⟩
      · exact dat_keep (h3 i a y h4 h6) (hds y (List.mem_of_getElem? h6)) h1 e
      · omega
    · rcases get_app hy with ⟨h6, h7⟩ | ⟨_, rfl⟩
      · omega
      · exact dat_keep ht hd h1 e
theorem ds_list {G : Hp} {l : Addr} {ds : List Deed} (h : DsAt G l ds) : ∃ acc, G l = some (.lst acc) ∧ acc.length = ds.length := by
  obtain ⟨as, h1, h2, h3⟩ := h
  exact ⟨_, h1, by rw [List.length_map]; exact h2⟩
theorem tks_list {G : Hp} {l : Addr} {ts : List Tk} (h : TksAt G l ts) : ∃ acc, G l = some (.lst acc) ∧ acc.length = ts.length := by
  obtain ⟨as, h1, h2, h3⟩ := h
  exact ⟨_, h1, by rw [List.length_map]; exact h2⟩
theorem wo_upd {p l : Addr} {H : Hp} {x : HO} : ∀ b o, b ≠ l → wo p H b = some o → wo p (upd H l x) b = some o := fun b o nb h => wo_at (wo_ne h) (Eq.trans (upd_ne nb) (wo_ex _ _ h))
theorem wo_app {p l t : Addr} {H : Hp} {acc0 : List V} (h : H l = some (.lst acc0)) : ∀ acc, wo p H l = some (.lst acc) → wo p (upd H l (.lst (acc0 ++ [.ref t]))) l = some (.lst (acc ++ [.ref t])) := fun acc h' => by
  have e := wo_ex _ _ h'
  rw [h] at e
  injection e with e
  injection e with e
  rw [← e]
  exact wo_at (wo_ne h') upd_same
theorem nw_wo {p : Addr} {H H' : Hp} {n : Nat} (s : Sk H p n) : Evl.Ex (Nw H H') (wo p H') := fun b o h => wo_at (fun z => by
  rw [z] at h
  obtain ⟨o', h'⟩ := sk_some s
  rw [nw_none h] at h'
  cases h') (Nw.ex _ _ h)
theorem tks_keep {H H' : Hp} {l v : Addr} {ts : List Tk} {xs : List V} (h : TksAt H v ts) (hl : H l = some (.lst xs)) (n : v ≠ l) (e : ∀ b o, b ≠ l → H b = some o → H' b = some o) : TksAt H' v ts := by
  obtain ⟨as, h1, h2, h3⟩ := h
  exact ⟨as, e _ _ n h1, h2, fun i a t x y => e _ _ (fun z => by rw [← z, h3 i a t x y] at hl; cases hl) (h3 i a t x y)⟩
theorem dat_un {H : Hp} {a : Addr} {d : Deed} (h : DAt H a d) : (∃ k m, d = .un k m) ∨ ∃ (x : Str) (r : List V), H a = some (.tup (.str x :: r)) ∧ decide (V.str x = V.str "unless") = false := by
  cases d with
  | op ks =>
    obtain ⟨l, h1, _⟩ := h
    exact .inr ⟨_, _, h1, by decide⟩
  | po k x => exact .inr ⟨_, _, h, by decide⟩
  | sc k p q =>
    obtain ⟨l, h1, _⟩ := h
    exact .inr ⟨_, _, h1, by decide⟩
  | mv k m p q =>
    obtain ⟨l, h1, _⟩ := h
    exact .inr ⟨_, _, h1, by decide⟩
  | un k m => exact .inl ⟨k, m, rfl⟩
theorem ex_wo {p : Addr} {G G' : Hp} (e : Evl.Ex G G') : Evl.Ex (wo p G) (wo p G') := fun b o h => wo_at (wo_ne h) (e _ _ (wo_ex _ _ h))
theorem wo_upd2 {q p l : Addr} {H : Hp} {x : HO} : ∀ b o, b ≠ l → wo q (wo p H) b = some o → wo q (wo p (upd H l x)) b = some o := fun b o nb h => wo_at (wo_ne h) (wo_upd b o nb (wo_ex _ _ h))
theorem wo_app2 {q p l t : Addr} {H : Hp} {acc0 : List V} (h : H l = some (.lst acc0)) : ∀ acc, wo q (wo p H) l = some (.lst acc) → wo q (wo p (upd H l (.lst (acc0 ++ [.ref t])))) l = some (.lst (acc ++ [.ref t])) := fun acc h' => wo_at (wo_ne h') (wo_app h acc (wo_ex _ _ h'))
theorem dat_ne {G : Hp} {t l : Addr} {d : Deed} {xs : List V} (h : DAt G t d) (hl : G l = some (.lst xs)) : t ≠ l := fun z => by
  have h2 : ∃ ys, G t = some (.tup ys) := by
    cases d with
    | op ks => exact ⟨_, h.choose_spec.1⟩
    | po k x => exact ⟨_, h⟩
    | sc k p q => exact ⟨_, h.choose_spec.1⟩
    | mv k m p q => exact ⟨_, h.choose_spec.1⟩
    | un k m => exact ⟨_, h⟩
  obtain ⟨ys, h2⟩ := h2
  rw [z, hl] at h2
  cases h2
theorem dat_keep' {G G' : Hp} {t l : Addr} {d : Deed} {ds : List Deed} {n : Int} (h : DAt G t d) (hd : okD n d) (hl : DsAt G l ds) (e : ∀ b o, b ≠ l → G b = some o → G' b = some o) : DAt G' t d := by
  obtain ⟨as, h1, _⟩ := hl
  exact dat_keep h hd h1 e
/-- a drawn shape: tanks and steps, none of whose numbers is great -/
structure ShW (ts : List Tk) (ds : List Deed) : Prop where
  ok : okS ts ds
  w1000 : ∀ t ∈ ts, (∀ z, t.1 = some z → z ≤ 1000) ∧ t.2 ≤ 1000
  p1000 : ∀ k a, Deed.po k a ∈ ds → a ≤ 1000
def ShAt (H : Hp) (t : Addr) (ts : List Tk) (ds : List Deed) : Prop := ∃ lv ld, H t = some (.tup [.ref lv, .ref ld]) ∧ TksAt H lv ts ∧ DsAt H ld ds
def spGreat : Sp := fun vs H Q _ => ∃ (s : Addr) (n : Nat), vs = [.ref s] ∧ Sk H s n ∧ n ≤ 70000 ∧
  ∀ (t : Addr) (ts : List Tk) (ds : List Deed) (H' : Hp), But s H H' → Sk H' s (n + 3000) → ShAt (wo s H') t ts ds → ShW ts ds → Q (.ref t) H'
def spPlan : Sp := fun vs H Q _ => ∃ (s : Addr) (a b : Int) (n : Nat), vs = [.ref s, .int a, .int b] ∧ Sk H s n ∧ n ≤ 70000 ∧
  ∀ (t : Addr) (ts : List Tk) (ds : List Deed) (H' : Hp), But s H H' → Sk H' s (n + 3000) → ShAt (wo s H') t ts ds → ShW ts ds → ds.length ≤ 6 → Q (.ref t) H'
/-- a told width -/
def spWid : Sp := fun vs H Q _ => ∃ (s : Addr) (n : Nat), vs = [.ref s] ∧ Sk H s n ∧ n ≤ 90000 ∧
  ∀ (t : Addr) (u b : Int) (H' : Hp), But s H H' → Sk H' s (n + 4) → H t = none → Fr (wo s H') t u b → Qn u b → 0 < u → Q (.ref t) H'
def W5 (x : Str) : Prop := x = "pour" ∨ x = "scoop" ∨ x = "unless" ∨ x = "move" ∨ x = "open"
section
variable {base : Heap} {mg : Str → Option Value} {K : PySem.W.Frag} {w : World} {P : Program}
theorem ok__great {f : Addr} {fd : FuncData} (F : Fun K "_law_wl_great" "_law_wl_great" s__law_wl_great f fd) (mR : mg "range" = none) (cC : Cal P w K mg base 1 "_law_coin" p__law_coin spCoin) (cV : Cal P w K mg base 2 "_law_wl_vats" p__law_wl_vats spVats) (cD : Cal P w K mg base 4 "_law_wl_deed" p__law_wl_deed spDeed) : FnOk P w K mg base CX0 5 f fd p__law_wl_great spGreat := by
  refine F.ok sc__law_wl_great (fun vs H Q E h => ?_) (fun cdv A outer s H vs Q E hr h => ?_)
  · obtain ⟨s, n, rfl, _⟩ := h
    rfl
  · obtain ⟨sk, n, rfl, hS, hn, k⟩ := h
    have nd := sc__law_wl_great.nd
    have r1 : Room 1 _ := hr.mono (by decide)
    have r2 : Room 2 _ := hr.mono (by decide)
    have two : 2 ≤ sizeLine := by show 2 ≤ sizeLine; decide
    have n200 := n200e
    refine ⟨_, pss_cons (ps_par (i := 1) (j := 2) rfl nd rfl rfl (by decide) rfl rfl (pa_cons (pe_op op_add pe_int (pe_c cC r1 (pa_cons (pv 0) (pa_cons pe_int pa_nil)))) (pa_cons (pe_lst pa_nil) pa_nil)) (by rfl))
      (pss_cons (ps_for PassesOwn.never rfl (pi_range1 (by rfl) mR (pa_cons (pe_c cC r1 (pa_cons (pv 0) (pa_cons (pe_ix ix_list (pe_lst (pa_cons pe_int (pa_cons pe_int pa_nil))) (pe_c cC r1 (pa_cons (pv 0) (pa_cons pe_int pa_nil))) (fun _ _ => rfl)) pa_nil))) pa_nil)) (pg_name (i := 3) nd rfl (Or.inl rfl)) (pss_cons (ps_set (i := 4) nd rfl (Or.inl rfl) (pe_ix ix_list (pe_lst (pa_cons pe_str (pa_cons pe_str (pa_cons pe_str (pa_cons pe_str (pa_cons pe_str pa_nil)))))) (pe_c cC r1 (pa_cons (pv 0) (pa_cons pe_int pa_nil))) (fun _ _ => rfl)))
      (pss_one (ps_expr (pe_bm PySem.F.plainAttrs_list PySem.F.slot_list_append PySem.F.type_list_append mt_append (pv 2) (pa_cons (pe_c cD hr (pa_cons (pv 0) (pa_cons (pv 1) (pa_cons pe_int (pa_cons (pv 4) pa_nil))))) pa_nil))))))
      (pss_one (ps_ret (pe_tup (pa_cons (pe_c cV r2 (pa_cons (pv 0) (pa_cons (pv 1) (pa_cons pe_int pa_nil)))) (pa_cons (pv 2) pa_nil)))))), ?_⟩
    refine ⟨_, rfl, sk, 20, n, rfl, hS, by omega, by decide, by decide, fun c H1 c0 c1 b1 s1 z1 => ⟨_, _, rfl, rfl, Nat.zero_le _, fun ld hld => ⟨_, _, rfl, ?_⟩⟩⟩
    have e1 := Evl.Ex.new (o := .lst []) hld
    have lH : H ld = none := but_none b1 s1 hld
    have lsk := sk_ne s1 hld
    have b2 := b1.trans (But.of_ex (p := sk) e1)
    have s2 := s1.ex e1
    have hd2 : DsAt (wo sk (upd H1 ld (.lst []))) ld [] := ⟨[], wo_at lsk upd_same, rfl, fun i a t h => (by cases h)⟩
    generalize upd H1 ld (.lst []) = H2 at b2 s2 hd2
    refine ⟨_, rfl, ?_⟩
    show tOp (rIxL _) (tLst _) (tCall spCoin [] E0 _) _ _ _
    refine pick_read (xs := [.int 9, .int 61]) rfl (by decide) (by decide) rfl s2 (by omega) (fun _ _ q => q) fun v H3 hv b3 s3 => ?_
    obtain ⟨x, rfl, x0, x1⟩ : ∃ x, v = .int x ∧ 0 < x ∧ x ≤ 61 := by
      simp only [List.mem_cons, List.not_mem_nil, or_false] at hv
      rcases hv with rfl | rfl
      · exact ⟨_, rfl, by decide, by decide⟩
      · exact ⟨_, rfl, by decide, by decide⟩
    refine ⟨sk, x, n + 2, rfl, s3, by omega, x0, by rw [n200]; omega, fun y H4 y0 y1 b4 s4 z4 => ⟨y, rfl, by omega, by omega, ?_⟩⟩
    have b24 := b3.trans b4
    refine for_range (n := y.toNat) (fun i σ H' => ∃ (ds : List Deed) (v3 v4 : Option V), σ = [some (.ref sk), some (.int (1 + c)), some (.ref ld), v3, v4] ∧ But sk H H' ∧ Sk H' sk (n + 3 + 24 * i) ∧ DsAt (wo sk H') ld ds ∧ ds.length = i ∧ (∀ d ∈ ds, okD (1 + c) d) ∧ ∀ k a, Deed.po k a ∈ ds → a ≤ 1000)
      ⟨[], none, none, rfl, b2.trans b24, s4, hd2.ex b24.wo, rfl, (fun d h => by cases h), fun k a h => by cases h⟩ ?_ ?_
    · rintro i σ H5 hi ⟨ds, v3, v4, rfl, b5, s5, hD, hl, hok, hp⟩
      rw [Int.zero_add]
      show tOp (rIxL _) (tLst _) (tCall spCoin [] E0 _) _ _ _
      refine pick_read (xs := [.str "open", .str "pour", .str "scoop", .str "move", .str "unless"]) rfl (by decide) (by decide) rfl s5 (by omega) (fun _ _ q => q) fun v H6 hv b6 s6 => ?_
      obtain ⟨x, rfl, hx⟩ : ∃ x, v = .str x ∧ W5 x := by
        simp only [List.mem_cons, List.not_mem_nil, or_false] at hv
        rcases hv with rfl | rfl | rfl | rfl | rfl
        · exact ⟨_, rfl, .inr (.inr (.inr (.inr rfl)))⟩
        · exact ⟨_, rfl, .inl rfl⟩
        · exact ⟨_, rfl, .inr (.inl rfl)⟩
        · exact ⟨_, rfl, .inr (.inr (.inr (.inl rfl)))⟩
        · exact ⟨_, rfl, .inr (.inr (.inl rfl))⟩
      have hD6 := hD.ex b6.wo
      refine ⟨_, rfl, .inl ⟨rfl, _, SqL.of (wo_ex _ _ hD6.choose_spec.1)⟩, ?_⟩
      refine ⟨_, rfl, _, rfl, _, rfl, sk, 1 + c, 1000, x, n + 3 + 24 * i + 1, rfl, by omega, by omega, by decide, by decide, hx, s6, by omega, fun t d H7 b7 s7 hd hdo hdp => ?_⟩
      have hD7 := hD6.ex b7.wo
      obtain ⟨acc, q1, q2⟩ := ds_list hD7
      have q1 := wo_ex _ _ q1
      have q3 := ds_more hD7 hok (hd.ex (nw_wo s6)) hdo (wo_upd (x := .lst (acc ++ [.ref t]))) (wo_app q1)
      refine ⟨ld, acc, _, rfl, rfl, q1, ?_, ds ++ [d], _, _, rfl, ?_, (s7.upd lsk).le (by omega), q3, by rw [List.length_append, hl]; rfl, ?_, ?_⟩
      · rw [q2, hl]
        exact Nat.lt_of_lt_of_le (show i < 100 by omega) (by decide)
      · exact fun c o nc e => Eq.trans (upd_ne (ne_of_none' e lH)) (((b5.trans b6).trans b7) c o nc e)
      · intro d' h'
        rcases List.mem_append.mp h' with h | h
        · exact hok _ h
        · rw [List.mem_singleton.mp h]
          exact hdo
      · intro k' a' h'
        rcases List.mem_append.mp h' with h | h
        · exact hp _ _ h
        · exact hdp k' a' (List.mem_singleton.mp h).symm
    · rintro σ H5 ⟨ds, v3, v4, rfl, b5, s5, hD, hl, hok, hp⟩
      refine ⟨_, rfl, _, rfl, sk, 1 + c, 1000, n + 3 + 24 * y.toNat, rfl, by omega, by omega, by decide, by decide, s5, by omega, fun lv ts H6 b6 s6 lvn hT hok2 hlen hsz => ?_⟩
      refine ⟨_, rfl, two, fun t ht => ?_⟩
      have e7 := Evl.Ex.new (o := .tup [.ref lv, .ref ld]) ht
      have b7 := But.of_ex (p := sk) e7
      refine k t ts ds _ ((b5.trans b6).trans b7) ((s6.ex e7).le (by omega)) ⟨lv, ld, wo_at (sk_ne s6 ht) upd_same, hT.ex b7.wo, (hD.ex b6.wo).ex b7.wo⟩ ⟨⟨hok2, by omega, ?_⟩, hsz, hp⟩
      rw [hlen]
      exact hok
theorem ok__width {f : Addr} {fd : FuncData} (F : Fun K "_law_wl_width" "_law_wl_width" s__law_wl_width f fd) (cC : Cal P w K mg base 1 "_law_coin" p__law_coin spCoin) (cR : Cal P w K mg base 2 "_law_wl_ratio" p__law_wl_ratio spRt) : FnOk P w K mg base CX0 3 f fd p__law_wl_width spWid := by
  refine F.ok sc__law_wl_width (fun vs H Q E h => ?_) (fun cdv A outer s H vs Q E hr h => ?_)
  · obtain ⟨s, n, rfl, _⟩ := h
    rfl
  · obtain ⟨sk, n, rfl, hS, hn, k⟩ := h
    have nd := sc__law_wl_width.nd
    have r1 : Room 1 _ := hr.mono (by decide)
    have n200 := n200e
    have e15 : (10 : Int) ^ (15 : Int).toNat = 1000000000000000 := by decide
    have w15 : CPowX 10 15 := pow_ok (k := 4) (n := 15) (by decide) (by decide)
    refine ⟨_, pss_cons (ps_set (i := 1) nd rfl (Or.inl rfl) (pe_op op_add pe_int (pe_c cC r1 (pa_cons (pv 0) (pa_cons (pe_ix ix_list (pe_lst (pa_cons pe_int (pa_cons pe_int (pa_cons pe_int (pa_cons (pe_op op_powX pe_int pe_int) pa_nil))))) (pe_c cC r1 (pa_cons (pv 0) (pa_cons pe_int pa_nil))) (fun _ _ => rfl)) pa_nil)))))
      (pss_one (ps_ret (pe_c cR hr (pa_cons (pe_op op_add pe_int (pe_c cC r1 (pa_cons (pv 0) (pa_cons (pe_ix ix_list (pe_lst (pa_cons pe_int (pa_cons pe_int (pa_cons pe_int (pa_cons (pe_op op_powX pe_int pe_int) pa_nil))))) (pe_c cC r1 (pa_cons (pv 0) (pa_cons pe_int pa_nil))) (fun _ _ => rfl)) pa_nil)))) (pa_cons (pv 1) pa_nil))))), ?_⟩
    have big : ∀ {x : Int}, x = 1 ∨ x = 6 ∨ x = 40 ∨ x = 10 ^ (15 : Int).toNat ∨ x = 4 ∨ x = 30 ∨ x = 1000 → 0 < x ∧ x ≤ 1000000000000000 := by
      intro x h
      rw [e15] at h
      omega
    refine ⟨_, rfl, ?_⟩
    show tOp (rIxL _) (tLst _) (tCall spCoin [] E0 _) _ _ _
    refine pick_read (xs := [.int 1, .int 6, .int 40, .int (10 ^ (15 : Int).toNat)]) rfl (by decide) (by decide) rfl hS (by omega) (fun _ _ q => ⟨10, 15, rfl, rfl, w15, q⟩) fun v H1 hv b1 s1 => ?_
    obtain ⟨x, rfl, hx⟩ : ∃ x, v = .int x ∧ (0 < x ∧ x ≤ 1000000000000000) := by
      simp only [List.mem_cons, List.not_mem_nil, or_false] at hv
      rcases hv with rfl | rfl | rfl | rfl
      · exact ⟨_, rfl, big (.inl rfl)⟩
      · exact ⟨_, rfl, big (.inr (.inl rfl))⟩
      · exact ⟨_, rfl, big (.inr (.inr (.inl rfl)))⟩
      · exact ⟨_, rfl, big (.inr (.inr (.inr (.inl rfl))))⟩
    refine ⟨sk, x, n + 1, rfl, s1, by omega, hx.1, by rw [n200]; omega, fun y H2 y0 y1 b2 s2 z2 => ⟨_, _, rfl, rfl, ?_⟩⟩
    refine ⟨_, rfl, ?_⟩
    show tOp (rIxL _) (tLst _) (tCall spCoin [] E0 _) _ _ _
    refine pick_read (xs := [.int 4, .int 30, .int 1000, .int (10 ^ (15 : Int).toNat)]) rfl (by decide) (by decide) rfl s2 (by omega) (fun _ _ q => ⟨10, 15, rfl, rfl, w15, q⟩) fun v H3 hv b3 s3 => ?_
    obtain ⟨u, rfl, hu⟩ : ∃ x, v = .int x ∧ (0 < x ∧ x ≤ 1000000000000000) := by
      simp only [List.mem_cons, List.not_mem_nil, or_false] at hv
      rcases hv with rfl | rfl | rfl | rfl
      · exact ⟨_, rfl, big (.inr (.inr (.inr (.inr (.inl rfl)))))⟩
      · exact ⟨_, rfl, big (.inr (.inr (.inr (.inr (.inr (.inl rfl))))))⟩
      · exact ⟨_, rfl, big (.inr (.inr (.inr (.inr (.inr (.inr rfl))))))⟩
      · exact ⟨_, rfl, big (.inr (.inr (.inr (.inl rfl))))⟩
    refine ⟨sk, u, n + 3, rfl, s3, by omega, hu.1, by rw [n200]; omega, fun z H4 z0 z1 b4 s4 z4 => ⟨_, _, rfl, rfl, _, rfl, 1 + z, 1 + y, rfl, by omega, ?_, fun t H5 ht e5 h5 => ?_⟩⟩
    · exact Nat.lt_of_le_of_lt (show (1 + y).natAbs ≤ 1000000000000000 by omega) (Nat.lt_of_lt_of_le (show 1000000000000000 < 2 ^ 50 by decide) (Nat.pow_le_pow_right (by decide) (by decide)))
    · have b14 := ((b1.trans b2).trans b3).trans b4
      have p1 := fr_abs1 (a := 1 + z) (show 0 < 1 + y by omega)
      have p2 := fr_abs2 (a := 1 + z) (show 0 < 1 + y by omega)
      have p3 := fr_pos (u := 1 + z) (show 0 < 1 + y by omega)
      have p4 := fr_cop (u := 1 + z) (show 0 < 1 + y by omega)
      have p5 := fr_mul (u := 1 + z) (show 0 < 1 + y by omega)
      have n50 : (2 : Nat) ^ 50 = 1125899906842624 := by decide
      refine k t _ _ H5 (b14.trans (But.of_ex e5)) (s4.ex e5) (but_none b14 s4 ht) (wo_at (sk_ne s4 ht) h5) ⟨p3, p4, by rw [n50]; omega, by rw [n50]; omega⟩ ?_
      have g := gcd_pos (u := 1 + z) (show 0 < 1 + y by omega)
      refine Int.not_le.mp fun q => ?_
      have q2 := Int.mul_le_mul_of_nonneg_right q (Int.le_of_lt g)
      rw [← p5.1] at q2
      omega
theorem ok__plan {f : Addr} {fd : FuncData} (F : Fun K "_law_wl_plan" "_law_wl_plan" s__law_wl_plan f fd) (T : T0 mg) (cC : Cal P w K mg base 1 "_law_coin" p__law_coin spCoin) (cV : Cal P w K mg base 2 "_law_wl_vats" p__law_wl_vats spVats) (cD : Cal P w K mg base 4 "_law_wl_deed" p__law_wl_deed spDeed) : FnOk P w K mg base CX0 5 f fd p__law_wl_plan spPlan := by
  refine F.ok sc__law_wl_plan (fun vs H Q E h => ?_) (fun cdv A outer s H vs Q E hr h => ?_)
  · obtain ⟨s, a, b, n, rfl, _⟩ := h
    rfl
  · obtain ⟨sk, oa, ob, n, rfl, hS, hn, k⟩ := h
    have nd := sc__law_wl_plan.nd
    have r1 : Room 1 _ := hr.mono (by decide)
    have r2 : Room 2 _ := hr.mono (by decide)
    have two : 2 ≤ sizeLine := by show 2 ≤ sizeLine; decide
    have three : 3 ≤ sizeLine := by show 3 ≤ sizeLine; decide
    have n200 := n200e
    refine ⟨_, pss_cons (ps_par (i := 3) (j := 4) rfl nd rfl rfl (by decide) rfl rfl (pa_cons (pe_ix ix_list (pe_lst (pa_cons pe_int (pa_cons pe_int pa_nil))) (pe_c cC r1 (pa_cons (pv 0) (pa_cons pe_int pa_nil))) (fun _ _ => rfl)) (pa_cons (pe_lst (pa_cons (pv 1) (pa_cons (pv 2) pa_nil))) pa_nil)) (by rfl))
      (pss_cons (ps_par (i := 5) (j := 6) rfl nd rfl rfl (by decide) rfl rfl (pa_cons (pe_c cV r2 (pa_cons (pv 0) (pa_cons (pe_op op_add pe_int (pe_c cC r1 (pa_cons (pv 0) (pa_cons pe_int pa_nil)))) (pa_cons (pv 3) pa_nil)))) (pa_cons (pe_lst pa_nil) pa_nil)) (by rfl))
      (pss_cons (ps_set (i := 7) nd rfl (Or.inl rfl) (pe_c cC r1 (pa_cons (pv 0) (pa_cons pe_int pa_nil))))
      (pss_cons (ps_while PassesOwn.never (pt_cmpR op_lt (pe_callB call_len_seq (by rfl) T.len PySem.boot_len (pa_cons (pv 6) pa_nil)) (pv 7) (nomark _)) (pss_cons (ps_set (i := 8) nd rfl (Or.inl rfl) (pe_ix ix_list (pe_lst (pa_cons pe_str (pa_cons pe_str (pa_cons pe_str (pa_cons pe_str (pa_cons pe_str (pa_cons pe_str (pa_cons pe_str pa_nil)))))))) (pe_c cC r1 (pa_cons (pv 0) (pa_cons pe_int pa_nil))) (fun _ _ => rfl)))
      (Evl.pss_cut (ps_if (PW.pt (pw_or (PW.pt (pw_and (pt_cmpR op_eq (pv 8) pe_str (nomark _)) (pw_and1 (pt_cmpR op_lt (pe_ix ix_list (pv 4) pe_int (fun _ _ => rfl)) pe_int (nomark _))))) (pw_or1 (PW.pt (pw_and (pt_cmpR op_eq (pv 8) pe_str (nomark _)) (pw_and1 (pt_cmpR op_lt (pe_ix ix_list (pv 4) pe_int (fun _ _ => rfl)) pe_int (nomark _)))))))) (pss_one (ps_set (i := 8) nd rfl (Or.inl rfl) (pe_ix ix_list (pe_lst (pa_cons pe_str (pa_cons pe_str (pa_cons pe_str pa_nil)))) (pe_c cC r1 (pa_cons (pv 0) (pa_cons pe_int pa_nil))) (fun _ _ => rfl)))) pss_nil)
      (pss_cons (ps_expr (pe_bm PySem.F.plainAttrs_list PySem.F.slot_list_append PySem.F.type_list_append mt_append (pv 6) (pa_cons (pe_c cD hr (pa_cons (pv 0) (pa_cons (pe_callB call_len_seq (by rfl) T.len PySem.boot_len (pa_cons (pv 5) pa_nil)) (pa_cons (pv 3) (pa_cons (pv 8) pa_nil))))) pa_nil)))
      (Evl.pss_cut (ps_if (PW.pt (pw_and (pt_cmpR op_eq (pe_ix ix_tup (pe_ix ix_list (pv 6) (pe_un un_neg pe_int) (fun _ _ => rfl)) pe_int (fun _ _ => rfl)) pe_str (nomark _)) (pw_and (pt_cmpR op_gt (pe_ix ix_list (pv 4) pe_int (fun _ _ => rfl)) pe_int (nomark _)) (pw_and (pt_cmpR op_lt (pe_callB call_len_seq (by rfl) T.len PySem.boot_len (pa_cons (pv 6) pa_nil)) (pv 7) (nomark _)) (pw_and1 (pt_cmpR op_gt (pe_c cC r1 (pa_cons (pv 0) (pa_cons pe_int pa_nil))) pe_int (nomark _))))))) (pss_cons (ps_expr (pe_bm PySem.F.plainAttrs_list PySem.F.slot_list_append PySem.F.type_list_append mt_append (pv 6) (pa_cons (pe_tup (pa_cons pe_str (pa_cons (pe_ix ix_tup (pe_ix ix_list (pv 6) (pe_un un_neg pe_int) (fun _ _ => rfl)) pe_int (fun _ _ => rfl)) (pa_cons (pe_ix ix_tup (pe_ix ix_list (pv 6) (pe_un un_neg pe_int) (fun _ _ => rfl)) pe_int (fun _ _ => rfl)) pa_nil)))) pa_nil)))
      (pss_one (ps_asg (pe_op op_sub (pe_ix ix_list (pv 4) pe_int (fun _ _ => rfl)) pe_int) (pg_sub (pv 4) pe_int set_list)))) pss_nil)
      (pss_one (ps_set (i := 4) nd rfl (Or.inl rfl) (pe_lst (pa_cons (pe_op op_sub (pe_ix ix_list (pv 4) pe_int (fun _ _ => rfl)) (pe_callTy call_int1 (by rfl) T.int (by decide +kernel) (pa_cons (pe_cmpR op_eq (pv 8) pe_str (nomark _)) pa_nil))) (pa_cons (pe_op op_sub (pe_ix ix_list (pv 4) pe_int (fun _ _ => rfl)) (pe_callTy call_int1 (by rfl) T.int (by decide +kernel) (pa_cons (pe_cmpR op_eq (pv 8) pe_str (nomark _)) pa_nil))) pa_nil))))))))))
      (pss_one (ps_ret (pe_tup (pa_cons (pv 5) (pa_cons (pv 6) pa_nil)))))))), ?_⟩
    show tOp (rIxL _) (tLst _) (tCall spCoin [] E0 _) _ _ _
    refine pick_read (xs := [.int 3, .int 12]) rfl (by decide) (by decide) rfl hS (by omega) (fun _ _ q => q) fun v H1 hv b1 s1 => ?_
    obtain ⟨o, rfl, o0, o1⟩ : ∃ x, v = .int x ∧ 0 < x ∧ x ≤ 12 := by
      simp only [List.mem_cons, List.not_mem_nil, or_false] at hv
      rcases hv with rfl | rfl
      · exact ⟨_, rfl, by decide, by decide⟩
      · exact ⟨_, rfl, by decide, by decide⟩
    refine ⟨_, rfl, _, rfl, two, fun le hle => ⟨_, _, rfl, ?_⟩⟩
    have e2 := Evl.Ex.new (o := .lst [.int oa, .int ob]) hle
    have leH := but_none b1 s1 hle
    have lesk := sk_ne s1 hle
    have le2 : wo sk (upd H1 le (.lst [.int oa, .int ob])) le = some (.lst [.int oa, .int ob]) := wo_at lesk upd_same
    have b2 := b1.trans (But.of_ex (p := sk) e2)
    have s2 := s1.ex e2
    generalize upd H1 le (.lst [.int oa, .int ob]) = H2 at b2 s2 le2
    refine ⟨_, rfl, _, rfl, sk, 4, n + 1, rfl, s2, by omega, by decide, by decide, fun c H3 c0 c1 b3 s3 z3 => ⟨_, _, rfl, rfl, _, rfl, sk, 1 + c, o, n + 2, rfl, by omega, by omega, o0, by omega, s3, by omega, fun lv ts H4 b4 s4 lvn hT hokT hlen hsz => ⟨Nat.zero_le _, fun ld hld => ⟨_, _, rfl, ?_⟩⟩⟩⟩
    have e5 := Evl.Ex.new (o := .lst []) hld
    have b45 := (b3.trans b4).trans (But.of_ex (p := sk) e5)
    have ldH : H ld = none := but_none ((b2.trans b3).trans b4) s4 hld
    have ldsk := sk_ne s4 hld
    have hT5 := hT.ex (But.of_ex (p := sk) e5).wo
    have hD5 : DsAt (wo sk (upd H4 ld (.lst []))) ld [] := ⟨[], wo_at ldsk upd_same, rfl, fun i a t h => (by cases h)⟩
    have b5 := b2.trans b45
    have s5 := s4.ex e5
    have le5 := b45.wo _ _ le2
    have lvle : lv ≠ le := fun z => by
      obtain ⟨o', h'⟩ : ∃ o', H3 le = some o' := ⟨_, b3 _ _ lesk (wo_ex _ _ le2)⟩
      rw [z, h'] at lvn
      cases lvn
    have lvld : lv ≠ ld := fun z => by
      obtain ⟨acc, h', _⟩ := tks_list hT
      have h2 := wo_ex _ _ h'
      rw [z, hld] at h2
      cases h2
    have ldle : ld ≠ le := fun z => by
      obtain ⟨o', h'⟩ : ∃ o', H4 le = some o' := ⟨_, (b3.trans b4) _ _ lesk (wo_ex _ _ le2)⟩
      rw [z, h'] at hld
      cases hld
    generalize upd H4 ld (.lst []) = H5 at b5 s5 hT5 hD5 le5
    refine ⟨_, rfl, sk, 7, _, rfl, s5, by omega, by decide, by decide, fun mn H6 m0 m1 b6 s6 z6 => ?_⟩
    have b06 := b5.trans b6
    have hT6 := hT5.ex b6.wo
    have hD6 := hD5.ex b6.wo
    have le6 := b6.wo _ _ le5
    refine ⟨fun m σ H' => ∃ (ds : List Deed) (le : Addr) (a b : Int) (v8 : Option V), m = 60 - ds.length ∧ σ = [some (.ref sk), some (.int oa), some (.int ob), some (.int o), some (.ref le), some (.ref lv), some (.ref ld), some (.int mn), v8] ∧ But sk H H' ∧ Sk H' sk (n + 100 + 30 * ds.length) ∧ TksAt (wo le (wo sk H')) lv ts ∧ DsAt (wo le (wo sk H')) ld ds ∧ wo sk H' le = some (.lst [.int a, .int b]) ∧ H le = none ∧ (ds.length : Int) ≤ mn ∧ (∀ d ∈ ds, okD ts.length d) ∧ ∀ k a, Deed.po k a ∈ ds → a ≤ 1000,
      ⟨60, [], le, oa, ob, none, rfl, rfl, b06, s6.le (by show n + 2 + 1 + 3 * (1 + c).toNat + 1 ≤ n + 100 + 30 * 0; omega), ?_, ?_, le6, leH, by omega, (fun d h => by cases h), fun k a h => by cases h⟩, ?_⟩
    · obtain ⟨as, h1, h2, h3⟩ := hT6
      exact ⟨as, wo_at lvle h1, h2, fun i a t x y => wo_at (fun z => by rw [← z, h3 i a t x y] at le6; cases le6) (h3 i a t x y)⟩
    · obtain ⟨as, h1, h2, h3⟩ := hD6
      exact ⟨as, wo_at ldle h1, h2, fun i a t x y => by cases y⟩
    rintro m σ H7 ⟨ds, le, a, b, v8, rfl, rfl, b7, s7, hT, hD, hle, leH, hlm, hok, hp⟩
    obtain ⟨acc0, ha0, hal⟩ := ds_list hD
    have ha0 := wo_ex _ _ (wo_ex _ _ ha0)
    refine ⟨_, rfl, ld, _, rfl, .inl (SqL.of ha0), _, rfl, _, _, rfl, rfl, _, rfl, ?_⟩
    rw [hal]
    by_cases hlt : (ds.length : Int) < mn
    · refine if_t (decide_eq_true hlt) ⟨fun σ H' => ∃ (ds' : List Deed) (le : Addr) (a b : Int) (v8 : Option V), ds.length < ds'.length ∧ ds'.length ≤ 10 ∧ σ = [some (.ref sk), some (.int oa), some (.int ob), some (.int o), some (.ref le), some (.ref lv), some (.ref ld), some (.int mn), v8] ∧ But sk H H' ∧ Sk H' sk (n + 100 + 30 * ds'.length) ∧ TksAt (wo le (wo sk H')) lv ts ∧ DsAt (wo le (wo sk H')) ld ds' ∧ wo sk H' le = some (.lst [.int a, .int b]) ∧ H le = none ∧ (ds'.length : Int) ≤ mn ∧ (∀ d ∈ ds', okD ts.length d) ∧ ∀ k a, Deed.po k a ∈ ds' → a ≤ 1000, fun σ H' ⟨ds', le, a, b, v8, h1, h2, h3⟩ => ⟨60 - ds'.length, by omega, ds', le, a, b, v8, rfl, h3⟩, ?_⟩
      show tOp (rIxL _) (tLst _) (tCall spCoin [] E0 _) _ _ _
      refine pick_read (xs := [.str "open", .str "unless", .str "open", .str "pour", .str "open", .str "scoop", .str "move"]) rfl (by decide) (by decide) rfl s7 (by omega) (fun _ _ q => q) fun v H8 hv b8 s8 => ?_
      obtain ⟨x, rfl, hx⟩ : ∃ x, v = .str x ∧ W5 x := by
        simp only [List.mem_cons, List.not_mem_nil, or_false] at hv
        rcases hv with rfl | rfl | rfl | rfl | rfl | rfl | rfl
        · exact ⟨_, rfl, .inr (.inr (.inr (.inr rfl)))⟩
        · exact ⟨_, rfl, .inr (.inr (.inl rfl))⟩
        · exact ⟨_, rfl, .inr (.inr (.inr (.inr rfl)))⟩
        · exact ⟨_, rfl, .inl rfl⟩
        · exact ⟨_, rfl, .inr (.inr (.inr (.inr rfl)))⟩
        · exact ⟨_, rfl, .inr (.inl rfl)⟩
        · exact ⟨_, rfl, .inr (.inr (.inr (.inl rfl)))⟩
      have b07 := b7
      have T7 := hT.ex (ex_wo b8.wo)
      have D7 := hD.ex (ex_wo b8.wo)
      have hle7' := b8.wo _ _ hle
      have hle7 := wo_ex _ _ hle7'
      have b7 := b7.trans b8
      have s7 := s8
      clear s8 hT hD hle
      refine ⟨fun σ H' => ∃ x, W5 x ∧ σ = [some (.ref sk), some (.int oa), some (.int ob), some (.int o), some (.ref le), some (.ref lv), some (.ref ld), some (.int mn), some (.str x)] ∧ But sk H8 H' ∧ Sk H' sk (n + 100 + 30 * ds.length + 2), ?_, ?_⟩
      · refine ⟨_, rfl, rfl, _, rfl, ite2 (fun _ => ?_) (fun _ => if_f rfl ?_)⟩
        · refine ⟨_, rfl, le, _, _, _, rfl, rfl, SqL.of hle7, at2_0, _, _, rfl, rfl, _, rfl, ite2 (fun _ => ?_) (fun _ => ?_)⟩
          · refine if_t rfl ?_
            show tOp (rIxL _) (tLst _) (tCall spCoin [] E0 _) _ _ _
            refine pick_read (xs := [.str "pour", .str "scoop", .str "move"]) rfl (by decide) (by decide) rfl s7 (by omega) (fun _ _ q => q) fun v H8 hv b8 s8 => ?_
            simp only [List.mem_cons, List.not_mem_nil, or_false] at hv
            rcases hv with rfl | rfl | rfl
            · exact ⟨_, .inl rfl, rfl, b8, s8⟩
            · exact ⟨_, .inr (.inl rfl), rfl, b8, s8⟩
            · exact ⟨_, .inr (.inr (.inr (.inl rfl))), rfl, b8, s8⟩
          · skip
            refine ⟨_, rfl, rfl, _, rfl, ite2 (fun _ => ?_) (fun _ => (if_f rfl ⟨_, hx, rfl, But.refl _ _, s7.le (by omega)⟩))⟩
            refine ⟨_, rfl, le, _, _, _, rfl, rfl, SqL.of hle7, at2_1, _, _, rfl, rfl, _, rfl, ite2 (fun _ => ?_) (fun _ => (⟨_, hx, rfl, But.refl _ _, s7.le (by omega)⟩))⟩
            · skip
              show tOp (rIxL _) (tLst _) (tCall spCoin [] E0 _) _ _ _
              refine pick_read (xs := [.str "pour", .str "scoop", .str "move"]) rfl (by decide) (by decide) rfl s7 (by omega) (fun _ _ q => q) fun v H8 hv b8 s8 => ?_
              simp only [List.mem_cons, List.not_mem_nil, or_false] at hv
              rcases hv with rfl | rfl | rfl
              · exact ⟨_, .inl rfl, rfl, b8, s8⟩
              · exact ⟨_, .inr (.inl rfl), rfl, b8, s8⟩
              · exact ⟨_, .inr (.inr (.inr (.inl rfl))), rfl, b8, s8⟩
        · skip
          refine ⟨_, rfl, rfl, _, rfl, ite2 (fun _ => ?_) (fun _ => (if_f rfl ⟨_, hx, rfl, But.refl _ _, s7.le (by omega)⟩))⟩
          refine ⟨_, rfl, le, _, _, _, rfl, rfl, SqL.of hle7, at2_1, _, _, rfl, rfl, _, rfl, ite2 (fun _ => ?_) (fun _ => (⟨_, hx, rfl, But.refl _ _, s7.le (by omega)⟩))⟩
          · skip
            show tOp (rIxL _) (tLst _) (tCall spCoin [] E0 _) _ _ _
            refine pick_read (xs := [.str "pour", .str "scoop", .str "move"]) rfl (by decide) (by decide) rfl s7 (by omega) (fun _ _ q => q) fun v H8 hv b8 s8 => ?_
            simp only [List.mem_cons, List.not_mem_nil, or_false] at hv
            rcases hv with rfl | rfl | rfl
            · exact ⟨_, .inl rfl, rfl, b8, s8⟩
            · exact ⟨_, .inr (.inl rfl), rfl, b8, s8⟩
            · exact ⟨_, .inr (.inr (.inr (.inl rfl))), rfl, b8, s8⟩
      · rintro σ H9 ⟨x, hx, rfl, b9, s9⟩
        have T9 := T7.ex (ex_wo b9.wo)
        have D9 := D7.ex (ex_wo b9.wo)
        have hle9 := b9.wo _ _ hle7'
        obtain ⟨acc1, ha1, hal1⟩ := ds_list D9
        obtain ⟨acct, hat, halt⟩ := tks_list T9
        refine ⟨_, rfl, .inl ⟨rfl, _, SqL.of (wo_ex _ _ (wo_ex _ _ ha1))⟩, ?_⟩
        refine ⟨_, rfl, _, rfl, lv, _, rfl, .inl (SqL.of (wo_ex _ _ (wo_ex _ _ hat))), _, rfl, _, rfl, sk, (acct.length : Int), o, x, n + 100 + 30 * ds.length + 2, rfl, by omega, by omega, o0, by omega, hx, s9, by omega, fun t d H10 b10 s10 hd hdo hdp => ?_⟩
        rw [halt] at hdo
        have T10 := T9.ex (ex_wo b10.wo)
        have D10 := D9.ex (ex_wo b10.wo)
        have hle10 := b10.wo _ _ hle9
        obtain ⟨acc2, ha2, hal2⟩ := ds_list D10
        have ha2' := wo_ex _ _ (wo_ex _ _ ha2)
        have dtw : DAt (wo le (wo sk H10)) t d := hd.ex fun b o h => by
          have h1 := nw_wo s9 _ _ h
          exact wo_at (fun z => by rw [z] at h; have h3 := nw_none h; rw [wo_ex _ _ hle9] at h3; cases h3) h1
        refine ⟨ld, acc2, _, rfl, rfl, ha2', by rw [hal2]; exact Nat.lt_of_lt_of_le (show ds.length < 100 by omega) (by decide), ?_⟩
        have D11 := ds_more D10 hok dtw hdo (wo_upd2 (x := .lst (acc2 ++ [.ref t]))) (wo_app2 ha2')
        have tne : t ≠ ld := dat_ne dtw ha2
        have T11 : TksAt (wo le (wo sk (upd H10 ld (.lst (acc2 ++ [.ref t]))))) lv ts := tks_keep T10 ha2 lvld wo_upd2
        have dt11 : DAt (wo le (wo sk (upd H10 ld (.lst (acc2 ++ [.ref t]))))) t d := dat_keep' dtw hdo D10 wo_upd2
        have hle11 : wo sk (upd H10 ld (.lst (acc2 ++ [.ref t]))) le = some (.lst [.int a, .int b]) := wo_upd _ _ (wo_ne ha2).symm hle10
        have hl11 : upd H10 ld (.lst (acc2 ++ [.ref t])) ld = some (.lst (acc2 ++ [.ref t])) := upd_same
        have b11 : But sk H (upd H10 ld (.lst (acc2 ++ [.ref t]))) := fun c o nc e => Eq.trans (upd_ne (ne_of_none' e ldH)) (((b7.trans b9).trans b10) c o nc e)
        have s11 := s10.upd (o := .lst (acc2 ++ [.ref t])) ldsk
        have hok11 : ∀ d' ∈ ds ++ [d], okD ts.length d' := fun d' h' => by
          rcases List.mem_append.mp h' with h | h
          · exact hok _ h
          · rw [List.mem_singleton.mp h]
            exact hdo
        have hp11 : ∀ k a, Deed.po k a ∈ ds ++ [d] → a ≤ 1000 := fun k' a' h' => by
          rcases List.mem_append.mp h' with h | h
          · exact hp _ _ h
          · exact hdp k' a' (List.mem_singleton.mp h).symm
        have hal3 : (acc2 ++ [V.ref t]).length = ds.length + 1 := by rw [List.length_append, hal2]; rfl
        generalize upd H10 ld (.lst (acc2 ++ [.ref t])) = H11 at D11 T11 dt11 hle11 hl11 b11 s11
        refine ⟨fun σ H' => ∃ (ds' : List Deed) (a b : Int), ds.length < ds'.length ∧ ds'.length ≤ 10 ∧ σ = [some (.ref sk), some (.int oa), some (.int ob), some (.int o), some (.ref le), some (.ref lv), some (.ref ld), some (.int mn), some (.str x)] ∧ But sk H H' ∧ Sk H' sk (n + 100 + 30 * ds'.length) ∧ TksAt (wo le (wo sk H')) lv ts ∧ DsAt (wo le (wo sk H')) ld ds' ∧ wo sk H' le = some (.lst [.int a, .int b]) ∧ (ds'.length : Int) ≤ mn ∧ (∀ d ∈ ds', okD ts.length d) ∧ ∀ k a, Deed.po k a ∈ ds' → a ≤ 1000, ?_, ?_⟩
        · have mid : ∀ H', Evl.Ex (wo sk H11) (wo sk H') → But sk H H' → Sk H' sk (n + 100 + 30 * ds.length + 30) → _ := fun H' e' b' s' => (⟨ds ++ [d], a, b, by rw [List.length_append]; exact Nat.lt_succ_self _, by rw [List.length_append]; show ds.length + 1 ≤ 10; omega, rfl, b', s'.le (by rw [List.length_append]; show _ ≤ n + 100 + 30 * (ds.length + 1); omega), T11.ex (ex_wo e'), D11.ex (ex_wo e'), e' _ _ hle11, by rw [List.length_append]; show ((ds.length + 1 : Nat) : Int) ≤ mn; omega, hok11, hp11⟩ : ∃ (ds' : List Deed) (a b : Int), ds.length < ds'.length ∧ ds'.length ≤ 10 ∧ [some (V.ref sk), some (.int oa), some (.int ob), some (.int o), some (.ref le), some (.ref lv), some (.ref ld), some (.int mn), some (.str x)] = [some (.ref sk), some (.int oa), some (.int ob), some (.int o), some (.ref le), some (.ref lv), some (.ref ld), some (.int mn), some (.str x)] ∧ But sk H H' ∧ Sk H' sk (n + 100 + 30 * ds'.length) ∧ TksAt (wo le (wo sk H')) lv ts ∧ DsAt (wo le (wo sk H')) ld ds' ∧ wo sk H' le = some (.lst [.int a, .int b]) ∧ (ds'.length : Int) ≤ mn ∧ (∀ d ∈ ds', okD ts.length d) ∧ ∀ k a, Deed.po k a ∈ ds' → a ≤ 1000)
          have mid0 := mid H11 (Evl.Ex.refl _) b11 (s11.le (by omega))
          have dt12 := dt11.ex (wo_ex.trans wo_ex)
          rcases dat_un dt12 with ⟨y, z, rfl⟩ | ⟨wd, rs, hwd, hne⟩
          · have hun : H11 t = some (.tup [.str "unless", .int y, .int z]) := dt12
            refine ⟨_, rfl, _, rfl, ld, _, _, _, rfl, rfl, SqL.of hl11, atI_last _ _, t, _, _, _, rfl, rfl, SqT.of hun, rfl, rfl, _, rfl, if_t (by decide) ?_⟩
            refine ⟨_, rfl, le, _, _, _, rfl, rfl, SqL.of (wo_ex _ _ hle11), at2_1, _, _, rfl, rfl, _, rfl, ite2 (fun _ => ?_) (fun _ => if_f rfl mid0)⟩
            refine ⟨_, rfl, ld, _, rfl, .inl (SqL.of hl11), _, rfl, _, _, rfl, rfl, _, rfl, ite2 (fun hlt2 => ?_) (fun _ => if_f rfl mid0)⟩
            have hlt2 := of_decide_eq_true hlt2
            rw [hal3] at hlt2
            refine ⟨_, rfl, sk, 3, _, rfl, s11, by omega, by decide, by decide, fun c3 H12 c30 c31 b12 s12 z12 => ⟨_, _, rfl, rfl, _, rfl, ite2 (fun _ => ?_) (fun _ => mid H12 b12.wo (b11.trans b12) (s12.le (by omega)))⟩⟩
            have T12 := T11.ex (ex_wo b12.wo)
            have D12 := D11.ex (ex_wo b12.wo)
            have hle12 := b12.wo _ _ hle11
            have hl12 := b12 _ _ ldsk hl11
            have tsk : t ≠ sk := fun zz => by
              obtain ⟨_, _, _, h9, _⟩ := s11
              rw [← zz, hun] at h9
              cases h9
            have hun12 := b12 _ _ tsk hun
            refine ⟨_, rfl, .inl ⟨rfl, _, SqL.of hl12⟩, ?_⟩
            refine ⟨_, rfl, _, rfl, ld, _, _, _, rfl, rfl, SqL.of hl12, atI_last _ _, t, _, _, _, rfl, rfl, SqT.of hun12, rfl, _, rfl, _, rfl, ld, _, _, _, rfl, rfl, SqL.of hl12, atI_last _ _, t, _, _, _, rfl, rfl, SqT.of hun12, rfl, three, fun t2 ht2 => ?_⟩
            have e13 := Evl.Ex.new (o := .tup [.str "unless", .int z, .int y]) ht2
            have b13 := But.of_ex (p := sk) e13
            have T13 := T12.ex (ex_wo b13.wo)
            have D13 := D12.ex (ex_wo b13.wo)
            have hle13 := b13.wo _ _ hle12
            have hl13 := e13 _ _ hl12
            have s13 := s12.ex e13
            have un13 : DAt (wo le (wo sk (upd H12 t2 (.tup [.str "unless", .int z, .int y])))) t2 (.un z y) := wo_at (ne_of_none (wo_ex _ _ hle12) ht2).symm (wo_at (sk_ne s12 ht2) upd_same)
            have b013 := (b11.trans b12).trans b13
            generalize upd H12 t2 (.tup [.str "unless", .int z, .int y]) = H13 at T13 D13 hle13 hl13 s13 un13 b013
            have hdo2 : okD ts.length (.un z y) := ⟨hdo.2.1, hdo.1, fun q => hdo.2.2 q.symm⟩
            refine ⟨ld, _, _, rfl, rfl, hl13, by rw [hal3]; exact Nat.lt_of_lt_of_le (show ds.length + 1 < 100 by omega) (by decide), ?_⟩
            have D14 := ds_more D13 hok11 un13 hdo2 (wo_upd2 (x := .lst (acc2 ++ [.ref t] ++ [.ref t2]))) (wo_app2 hl13)
            have T14 : TksAt (wo le (wo sk (upd H13 ld (.lst (acc2 ++ [.ref t] ++ [.ref t2]))))) lv ts := tks_keep T13 (ds_list D13).choose_spec.1 lvld wo_upd2
            have hle14 : wo sk (upd H13 ld (.lst (acc2 ++ [.ref t] ++ [.ref t2]))) le = some (.lst [.int a, .int b]) := wo_upd _ _ (wo_ne ha2).symm hle13
            have b14 : But sk H (upd H13 ld (.lst (acc2 ++ [.ref t] ++ [.ref t2]))) := fun c o nc e => Eq.trans (upd_ne (ne_of_none' e ldH)) (b013 c o nc e)
            have s14 := s13.upd (o := .lst (acc2 ++ [.ref t] ++ [.ref t2])) ldsk
            generalize upd H13 ld (.lst (acc2 ++ [.ref t] ++ [.ref t2])) = H14 at D14 T14 hle14 b14 s14
            have hle14' := wo_ex _ _ hle14
            refine ⟨_, rfl, le, _, _, _, rfl, rfl, SqL.of hle14', at2_1, _, _, rfl, rfl, _, rfl, le, _, 1, 1, rfl, rfl, hle14', Evl.ixN_nat (by show 1 < 2; decide), ?_⟩
            refine ⟨ds ++ [.un y z] ++ [.un z y], a, b - 1, ?_, ?_, rfl, ?_, ?_, ?_, ?_, ?_, ?_, ?_, ?_⟩
            · rw [List.length_append, List.length_append]; show ds.length < ds.length + 1 + 1; omega
            · rw [List.length_append, List.length_append]; show ds.length + 1 + 1 ≤ 10; omega
            · exact fun c o nc e => Eq.trans (upd_ne (ne_of_none' e leH)) (b14 c o nc e)
            · exact (s14.upd (wo_ne hle14)).le (by rw [List.length_append, List.length_append]; show _ ≤ n + 100 + 30 * (ds.length + 1 + 1); omega)
            · exact T14.ex fun b o h => wo_at (wo_ne h) (wo_upd _ _ (wo_ne h) (wo_ex _ _ h))
            · exact D14.ex fun b o h => wo_at (wo_ne h) (wo_upd _ _ (wo_ne h) (wo_ex _ _ h))
            · exact wo_at (wo_ne hle14) upd_same
            · rw [List.length_append, List.length_append]; show ((ds.length + 1 + 1 : Nat) : Int) ≤ mn; omega
            · intro d' h'
              rcases List.mem_append.mp h' with h | h
              · exact hok11 _ h
              · rw [List.mem_singleton.mp h]
                exact hdo2
            · intro k' a' h'
              rcases List.mem_append.mp h' with h | h
              · exact hp11 _ _ h
              · cases List.mem_singleton.mp h
          · refine ⟨_, rfl, _, rfl, ld, _, _, _, rfl, rfl, SqL.of hl11, atI_last _ _, t, _, _, _, rfl, rfl, SqT.of hwd, (by exact atI_nat (j := 0) rfl), rfl, _, rfl, if_f hne (if_f rfl mid0)⟩
        · rintro σ H12 ⟨ds', a', b', h1, h2, rfl, b12, s12, T12, D12, hle12, hlm12, hok12, hp12⟩
          have hle12' := wo_ex _ _ hle12
          refine ⟨_, rfl, le, _, _, _, rfl, rfl, SqL.of hle12', at2_0, _, rfl, rfl, .inr ⟨_, rfl, _, _, rfl, rfl, _, rfl, le, _, _, _, rfl, rfl, SqL.of hle12', at2_1, _, rfl, rfl, .inr ⟨_, rfl, _, _, rfl, rfl, two, fun le' hle' => ?_⟩⟩⟩
          have e13 := Evl.Ex.new (o := .lst [.int (a' - if decide (V.str x = V.str "open") = true then 1 else 0), .int (b' - if decide (V.str x = V.str "unless") = true then 1 else 0)]) hle'
          have ex : Evl.Ex (wo le (wo sk H12)) (wo le' (wo sk (upd H12 le' (.lst [.int (a' - if decide (V.str x = V.str "open") = true then 1 else 0), .int (b' - if decide (V.str x = V.str "unless") = true then 1 else 0)])))) := fun b o h => wo_at (fun z => by
            have h1 := wo_ex _ _ (wo_ex _ _ h)
            rw [z, hle'] at h1
            cases h1) ((But.of_ex (p := sk) e13).wo _ _ (wo_ex _ _ h))
          exact ⟨ds', le', _, _, _, h1, h2, rfl, b12.trans (But.of_ex e13), s12.ex e13, T12.ex ex, D12.ex ex, wo_at (sk_ne s12 hle') upd_same, but_none b12 s12 hle', hlm12, hok12, hp12⟩
    · refine if_f (decide_eq_false hlt) ?_
      refine ⟨_, rfl, _, rfl, two, fun t ht => ?_⟩
      have e8 := Evl.Ex.new (o := .tup [.ref lv, .ref ld]) ht
      have b8 := But.of_ex (p := sk) e8
      exact k t ts ds _ (b7.trans b8) ((s7.ex e8).le (by omega)) ⟨lv, ld, wo_at (sk_ne s7 ht) upd_same, (hT.ex wo_ex).ex b8.wo, (hD.ex wo_ex).ex b8.wo⟩ ⟨⟨hokT, by omega, hok⟩, hsz, hp⟩ (by omega)

end
end V2


namespace V2
open PySem L2
open PySem.Spec PyProof.Rows
/-! ## lists of fractions, compared -/
def frD (f : Int × Int) : PyData := .tuple [.int f.1, .int f.2]
def prD (fs : List (Int × Int)) : PyData := .list (fs.map frD)
theorem DpAll.of_get {K : PySem.W.Frag} {H : Hp} : ∀ {vs : List V} {ds : List PyData}, vs.length = ds.length → (∀ (i : Nat) (v : V) (d : PyData), vs[i]? = some v → ds[i]? = some d → Dp K H v d) → DpAll K H vs ds
  | [], [], _, _ => .nil
  | v :: vs, d :: ds, hl, h => .cons (h 0 v d rfl rfl) (DpAll.of_get (by simpa using hl) fun i v d x y => h (i + 1) v d x y)
  | [], _ :: _, hl, _ => by cases hl
  | _ :: _, [], hl, _ => by cases hl
theorem DqAll.of_get {H : Hp} : ∀ {vs : List V} {ds : List PyData}, vs.length = ds.length → (∀ (i : Nat) (v : V) (d : PyData), vs[i]? = some v → ds[i]? = some d → Dq H v d) → DqAll H vs ds
  | [], [], _, _ => .nil
  | v :: vs, d :: ds, hl, h => .cons (h 0 v d rfl rfl) (DqAll.of_get (by simpa using hl) fun i v d x y => h (i + 1) v d x y)
  | [], _ :: _, hl, _ => by cases hl
  | _ :: _, [], hl, _ => by cases hl
theorem dp_fr {K : PySem.W.Frag} {H : Hp} {a : Addr} {f : Int × Int} (h : Fr H a f.1 f.2) : Dp K H (.ref a) (frD f) := .tup (SqT.of h) (.cons (.int _) (.cons (.int _) .nil))
theorem pr_get {as : List Addr} {fs : List (Int × Int)} {i : Nat} {v : V} {d : PyData} (hv : (as.map V.ref)[i]? = some v) (hd : (fs.map frD)[i]? = some d) : ∃ a f, as[i]? = some a ∧ fs[i]? = some f ∧ v = .ref a ∧ d = frD f := by
  rw [List.getElem?_map] at hv hd
  cases e1 : as[i]? with
  | none =>
    rw [e1] at hv
    cases hv
  | some a =>
    cases e2 : fs[i]? with
    | none =>
      rw [e2] at hd
      cases hd
    | some f =>
      rw [e1] at hv
      rw [e2] at hd
      exact ⟨a, f, rfl, rfl, (Option.some.inj hv).symm, (Option.some.inj hd).symm⟩
theorem dp_pr {K : PySem.W.Frag} {H : Hp} {l : Addr} {fs : List (Int × Int)} (h : PrAt H l fs) : Dp K H (.ref l) (prD fs) := by
  obtain ⟨as, h1, h2, h3⟩ := h
  refine .lst (SqL.of h1) (DpAll.of_get (by rw [List.length_map, List.length_map]; exact h2) fun i v d hv hd => ?_)
  obtain ⟨a, f, x, y, rfl, rfl⟩ := pr_get hv hd
  exact dp_fr (h3 i a f x y)
theorem lay_fr : ∀ fs : List (Int × Int), PyData.canLayAll0 (fs.map frD) = true
  | [] => by simp [PyData.canLayAll0]
  | f :: fs => by simp [PyData.canLayAll0, PyData.canLay0, frD, lay_fr fs]
theorem dep_fr : ∀ fs : List (Int × Int), PyData.depthAll (fs.map frD) ≤ 2
  | [] => by simp [PyData.depthAll]
  | f :: fs => by
    have := dep_fr fs
    simp [PyData.depthAll, frD, PyData.depth]
    omega
theorem shp_pr (fs : List (Int × Int)) : SeqAt.shaped (prD fs) = true := by
  have h1 := lay_fr fs
  have h2 := dep_fr fs
  have e : PyData.depth (.list (fs.map frD)) = PyData.depthAll (fs.map frD) + 1 := by simp [PyData.depth]
  have c : PyData.canLay0 (.list (fs.map frD)) = true := by simpa [PyData.canLay0] using h1
  unfold SeqAt.shaped prD
  rw [c, Bool.true_and]
  exact decide_eq_true (by rw [e]; omega)
theorem shp_fr (f : Int × Int) : SeqAt.shaped (frD f) = true := by simp [SeqAt.shaped, frD, PyData.canLay0, PyData.canLayAll0, PyData.depth, PyData.depthAll]
theorem eqv_fr (f g : Int × Int) : PyData.eqv (frD f) (frD g) = decide (f = g) := by
  obtain ⟨a, b⟩ := f
  obtain ⟨c, d⟩ := g
  simp [frD, PyData.eqv, PyData.eqvAll]
  by_cases h1 : a = c <;> by_cases h2 : b = d <;> simp [h1, h2]
theorem eqv_frs : ∀ fs gs : List (Int × Int), PyData.eqvAll (fs.map frD) (gs.map frD) = decide (fs = gs)
  | [], [] => by simp [PyData.eqvAll]
  | f :: fs, g :: gs => by
    have := eqv_frs fs gs
    simp only [List.map_cons, PyData.eqvAll, this, eqv_fr]
    by_cases h1 : f = g <;> by_cases h2 : fs = gs <;> simp [h1, h2]
  | [], _ :: _ => by simp [PyData.eqvAll]
  | _ :: _, [] => by simp [PyData.eqvAll]
theorem eqv_pr (fs gs : List (Int × Int)) : PyData.eqv (prD fs) (prD gs) = decide (fs = gs) := by
  unfold prD
  simp only [PyData.eqv]
  exact eqv_frs fs gs
theorem dp_nil {K : PySem.W.Frag} {H : Hp} {l : Addr} (h : H l = some (.lst [])) : Dp K H (.ref l) (.list []) := .lst (SqL.of h) .nil
theorem shp_nil : SeqAt.shaped (.list []) = true := by decide
/-! ## scripts made by the law -/
theorem tks_dq {H : Hp} {l : Addr} {ts : List Tk} (h : TksAt H l ts) : Dq H (.ref l) (.list (ts.map tkD)) := by
  obtain ⟨as, h1, h2, h3⟩ := h
  refine .lst h1 (DqAll.of_get (by rw [List.length_map, List.length_map]; exact h2) fun i v d hv hd => ?_)
  rw [List.getElem?_map] at hv hd
  cases e1 : as[i]? with
  | none =>
    rw [e1] at hv
    cases hv
  | some a =>
    cases e2 : ts[i]? with
    | none =>
      rw [e2] at hd
      cases hd
    | some t =>
      rw [e1] at hv
      rw [e2] at hd
      cases hv
      cases hd
      have z := h3 i a t e1 e2
      refine .tup z (.cons ?_ (.cons (.int _) .nil))
      cases t.1 with
      | none => exact .non
      | some w => exact .int _
theorem dqi {H : Hp} : ∀ ns : List Int, DqAll H (iV ns) (ns.map .int)
  | [] => .nil
  | n :: ns => .cons (.int _) (dqi ns)
theorem dat_dq {H : Hp} {a : Addr} {d : Deed} (h : DAt H a d) : Dq H (.ref a) (dD d) := by
  cases d with
  | op ks =>
    obtain ⟨l, h1, h2⟩ := h
    exact .tup h1 (.cons (.str _) (.cons (.lst h2 (dqi ks)) .nil))
  | po k x => exact .tup h (.cons (.str _) (.cons (.int _) (.cons (.int _) .nil)))
  | sc k p q =>
    obtain ⟨l, h1, h2⟩ := h
    exact .tup h1 (.cons (.str _) (.cons (.int _) (.cons (.tup h2 (.cons (.int _) (.cons (.int _) .nil))) .nil)))
  | mv k m p q =>
    obtain ⟨l, h1, h2⟩ := h
    exact .tup h1 (.cons (.str _) (.cons (.int _) (.cons (.int _) (.cons (.tup h2 (.cons (.int _) (.cons (.int _) .nil))) .nil))))
  | un k m => exact .tup h (.cons (.str _) (.cons (.int _) (.cons (.int _) .nil)))
theorem ds_dq {H : Hp} {l : Addr} {ds : List Deed} (h : DsAt H l ds) : Dq H (.ref l) (.list (ds.map dD)) := by
  obtain ⟨as, h1, h2, h3⟩ := h
  refine .lst h1 (DqAll.of_get (by rw [List.length_map, List.length_map]; exact h2) fun i v d hv hd => ?_)
  rw [List.getElem?_map] at hv hd
  cases e1 : as[i]? with
  | none =>
    rw [e1] at hv
    cases hv
  | some a =>
    cases e2 : ds[i]? with
    | none =>
      rw [e2] at hd
      cases hd
    | some t =>
      rw [e1] at hv
      rw [e2] at hd
      cases hv
      cases hd
      exact dat_dq (h3 i a t e1 e2)
theorem dat_open {H : Hp} {a : Addr} {d : Deed} (h : DAt H a d) : (∃ ks, d = .op ks) ∨ ∃ (x : Str) (r : List V), H a = some (.tup (.str x :: r)) ∧ decide (V.str x = V.str "open") = false := by
  cases d with
  | op ks => exact .inl ⟨ks, rfl⟩
  | po k x => exact .inr ⟨_, _, h, by decide⟩
  | sc k p q =>
    obtain ⟨l, h1, _⟩ := h
    exact .inr ⟨_, _, h1, by decide⟩
  | mv k m p q =>
    obtain ⟨l, h1, _⟩ := h
    exact .inr ⟨_, _, h1, by decide⟩
  | un k m => exact .inr ⟨_, _, h, by decide⟩
abbrev rLstOf (K : PySem.W.Frag) : List V → Hp → VK → Prop := fun xs H Q => ∃ p ys, xs = [.ref p] ∧ (SqL K H p ys ∨ SqT K H p ys) ∧ ∀ l, H l = none → Q (.ref l) (upd H l (.lst ys))
theorem ds_take1 {ds : List Deed} {i : Nat} {d : Deed} (h : ds[i]? = some d) : ds.take (i + 1) = ds.take i ++ [d] := by
  rw [List.take_add_one, h]
  rfl
def spFrac : Sp := fun vs H Q _ => ∃ (a : Addr) (p q : Int), vs = [.ref a] ∧ Fr H a p q ∧ 0 < q ∧ Int.gcd p q = 1 ∧ Evl.RetV (.bl true) H Q
def spNew (C : Addr) : Sp := fun vs H Q _ => ∃ (t : Addr) (ts : List Tk) (ds : List Deed), vs = [.ref t] ∧ ShAt H t ts ds ∧ okS ts ds ∧ ∀ (x : Addr) (H' : Hp), Evl.Ex H H' → ScAt H' C x ts ds → Q (.ref x) H'
def frM (f g : Int × Int) : Int × Int := fr (f.1 * g.1) (f.2 * g.2)
def frA (f g : Int × Int) : Int × Int := fr (f.1 * g.2 + g.1 * f.2) (f.2 * g.2)
/-- a fraction whose numbers are not great -/
def Fb (N : Nat) (f : Int × Int) : Prop := 0 < f.2 ∧ Bn N f.1 ∧ Bn N f.2
def spWaters : Sp := fun vs H Q _ => ∃ (l lw : Addr) (fs gs : List (Int × Int)), vs = [.ref l, .ref lw] ∧ PrAt H l fs ∧ PrAt H lw gs ∧ fs.length = gs.length ∧ gs.length ≤ 20 ∧ (∀ f ∈ fs, Fb 4400 f) ∧ (∀ g ∈ gs, Fb 4400 g) ∧
  ∀ (D : Addr) (H' : Hp), H D = none → Evl.Ex H H' → PrAt H' D ((List.range gs.length).map fun i => frM (fs.getD i (0, 1)) (gs.getD i (0, 1))) → Q (.ref D) H'
theorem pr_items {H : Hp} {l : Addr} {fs : List (Int × Int)} (h : PrAt H l fs) : ∃ xs, H l = some (.lst xs) ∧ xs.length = fs.length ∧ ∀ i, i < fs.length → ∃ a, xs[i]? = some (.ref a) ∧ Fr H a (fs.getD i (0, 1)).1 (fs.getD i (0, 1)).2 ∧ fs.getD i (0, 1) ∈ fs := by
  obtain ⟨as, h1, h2, h3⟩ := h
  refine ⟨_, h1, by rw [List.length_map]; exact h2, fun i hi => ?_⟩
  have e1 : as[i]? = some as[i] := List.getElem?_eq_getElem (by omega)
  have e2 : fs[i]? = some fs[i] := List.getElem?_eq_getElem hi
  have e3 : fs.getD i (0, 1) = fs[i] := by rw [List.getD_eq_getElem?_getD, e2]; rfl
  refine ⟨as[i], by rw [List.getElem?_map, e1]; rfl, ?_, ?_⟩
  · rw [e3]
    exact h3 i _ _ e1 e2
  · rw [e3]
    exact List.getElem_mem hi
/-- while a list of steps is being made at D -/
def DsN (H : Hp) (D : Addr) (ds : List Deed) : Prop := ∃ as : List Addr, H D = some (.lst (as.map V.ref)) ∧ as.length = ds.length ∧ ∀ (i : Nat) (a : Addr) (d : Deed), as[i]? = some a → ds[i]? = some d → DAt (wo D H) a d
theorem DsN.start {H : Hp} {D : Addr} (h : H D = some (.lst [])) : DsN H D [] := ⟨[], h, rfl, fun i a f h => by cases h⟩
theorem DsN.done {H : Hp} {D : Addr} {ds : List Deed} (h : DsN H D ds) : DsAt H D ds := by
  obtain ⟨as, h1, h2, h3⟩ := h
  exact ⟨as, h1, h2, fun i a f x y => (h3 i a f x y).ex wo_ex⟩
theorem DsN.more {H H' : Hp} {D t : Addr} {ds : List Deed} {d : Deed} {n : Int} (h : DsN H D ds) (e : Evl.Ex H H') (ht : DAt H' t d) (hd : okD n d) (hl : ds.length ≤ 1000) : ∃ acc, H' D = some (.lst acc) ∧ acc.length < sizeLine ∧ DsN (upd H' D (.lst (acc ++ [.ref t]))) D (ds ++ [d]) := by
  obtain ⟨as, h1, h2, h3⟩ := h
  have h1' := e _ _ h1
  have up : ∀ o, Evl.Ex (wo D H') (wo D (upd H' D o)) := fun o b u z => wo_at (wo_ne z) (Eq.trans (upd_ne (wo_ne z)) (wo_ex _ _ z))
  refine ⟨_, h1', ?_, as ++ [t], ?_, by rw [List.length_append, List.length_append, h2]; rfl, fun i a g ha hg => ?_⟩
  · rw [List.length_map, h2]
    exact Nat.lt_of_le_of_lt hl (by decide)
  · rw [upd_same, List.map_append]
    rfl
  · rcases get_app ha with ⟨h4, h5⟩ | ⟨h4, rfl⟩
    · rcases get_app hg with ⟨h6, _⟩ | ⟨h6, _⟩
      · exact ((h3 i a g h4 h6).ex (ex_wo e)).ex (up _)
      · omega
    · rcases get_app hg with ⟨h6, h7⟩ | ⟨_, rfl⟩
      · omega
      · exact (dat_keep ht hd h1' fun b o n z => wo_at n z).ex (up _)
/-- while a list of fractions is being made at D -/
def PrN (H : Hp) (D : Addr) (fs : List (Int × Int)) : Prop := ∃ as : List Addr, H D = some (.lst (as.map V.ref)) ∧ as.length = fs.length ∧ ∀ (i : Nat) (a : Addr) (f : Int × Int), as[i]? = some a → fs[i]? = some f → a ≠ D ∧ Fr H a f.1 f.2
theorem PrN.start {H : Hp} {D : Addr} (h : H D = some (.lst [])) : PrN H D [] := ⟨[], h, rfl, fun i a f h => by cases h⟩
theorem PrN.done {H : Hp} {D : Addr} {fs : List (Int × Int)} (h : PrN H D fs) : PrAt H D fs := by
  obtain ⟨as, h1, h2, h3⟩ := h
  exact ⟨as, h1, h2, fun i a f x y => (h3 i a f x y).2⟩
theorem PrN.more {H H' : Hp} {D t : Addr} {fs : List (Int × Int)} {f : Int × Int} (h : PrN H D fs) (e : Evl.Ex H H') (ht : Fr H' t f.1 f.2) (hl : fs.length ≤ 1000) : ∃ acc, H' D = some (.lst acc) ∧ acc.length < sizeLine ∧ acc.length = fs.length ∧ PrN (upd H' D (.lst (acc ++ [.ref t]))) D (fs ++ [f]) := by
  obtain ⟨as, h1, h2, h3⟩ := h
  have h1' := e _ _ h1
  have tD : t ≠ D := fun z => by
    have ht : H' t = some (.tup [.int f.1, .int f.2]) := ht
    rw [z, h1'] at ht
    cases ht
  refine ⟨_, h1', ?_, by rw [List.length_map]; exact h2, as ++ [t], ?_, by rw [List.length_append, List.length_append, h2]; rfl, fun i a g ha hg => ?_⟩
  · rw [List.length_map, h2]
    exact Nat.lt_of_le_of_lt hl (by decide)
  · rw [upd_same, List.map_append]
    rfl
  · rcases get_app ha with ⟨h4, h5⟩ | ⟨h4, rfl⟩
    · rcases get_app hg with ⟨h6, _⟩ | ⟨h6, _⟩
      · obtain ⟨n, z⟩ := h3 i a g h4 h6
        exact ⟨n, Eq.trans (upd_ne n) (e _ _ z)⟩
      · omega
    · rcases get_app hg with ⟨h6, h7⟩ | ⟨_, rfl⟩
      · omega
      · exact ⟨tD, Eq.trans (upd_ne tD) ht⟩
theorem range_more {α : Type} (g : Nat → α) (i : Nat) : (List.range (i + 1)).map g = (List.range i).map g ++ [g i] := by
  rw [List.range_succ, List.map_append]
  rfl
section
variable {base : Heap} {mg : Str → Option Value} {K : PySem.W.Frag} {w : World} {P : Program} {C fI fT fS pT pS : Addr}
theorem ok__fraction {f : Addr} {fd : FuncData} (F : Fun K "_law_wl_fraction" "_law_wl_fraction" s__law_wl_fraction f fd) (T : T3 mg) (cD : Cal P w K mg base 1 "_law_wl_divisor" p__law_wl_divisor spGcd) : FnOk P w K mg base CX0 2 f fd p__law_wl_fraction spFrac := by
  refine F.ok sc__law_wl_fraction (fun vs H Q E h => ?_) (fun cdv A outer s H vs Q E hr h => ?_)
  · obtain ⟨a, p, q, rfl, _⟩ := h
    rfl
  · obtain ⟨a, p, q, rfl, ha, q0, qc, k⟩ := h
    have nd := sc__law_wl_fraction.nd
    refine ⟨_, pss_cons (ps_if (PW.pt (pw_or (pt_not (pt_val (pe_callB call_isi (by rfl) T.isi (by decide +kernel) (pa_cons (pv 0) (pa_cons (pe_bltn (v := .ty "tuple") (by rfl) T.tup (by decide +kernel) rfl) pa_nil))))) (pw_or1 (pt_cmpR op_ne (pe_callB call_len_seq (by rfl) T.len PySem.boot_len (pa_cons (pv 0) pa_nil)) pe_int (nomark _))))) (pss_one (ps_ret pe_bl)) pss_nil)
      (pss_cons (ps_if (pt_cmpR (op_neD hr.units) (pe_lc (own := [("piece", 1)]) (g := (gName 1)) (tt := (tOr (tNot (tB (tCB (rIsi K) (tCons (tVar 1) (tCons (tC (.ty "int")) tNil))))) (tB (tCB (rIsi K) (tCons (tVar 1) (tCons (tC (.ty "bool")) tNil)))))) (te := (tVar 1)) rfl nd (pi_tup (pv 0)) (blkOk_by (N := n__law_wl_fraction) (sc := defScope s__law_wl_fraction) (by decide +kernel)) (fun _ _ _ _ _ => (pg_name (i := 1) nd rfl (Or.inl rfl))) (fun _ _ _ _ _ => pts_one (PW.pt (pw_or (pt_not (pt_val (pe_callB call_isi (by rfl) T.isi (by decide +kernel) (pa_cons (pv 1) (pa_cons (pe_bltn (v := .ty "int") (by rfl) T.int (by decide +kernel) rfl) pa_nil))))) (pw_or1 (pt_val (pe_callB call_isi (by rfl) T.isi (by decide +kernel) (pa_cons (pv 1) (pa_cons (pe_bltn (v := .ty "bool") (by rfl) T.bool (by decide +kernel) rfl) pa_nil)))))))) (fun _ _ _ _ _ => (pv 1))) (pe_lst pa_nil) (nomark _)) (pss_one (ps_ret pe_bl)) pss_nil)
      (pss_one (ps_ret (pe_and (pe_cmpR op_ge (pe_ix ix_tup (pv 0) pe_int (fun _ _ => rfl)) pe_int (nomark _)) (pe_one (pe_cmpR op_eq (pe_c cD hr (pa_cons (pe_ix ix_tup (pv 0) pe_int (fun _ _ => rfl)) (pa_cons (pe_ix ix_tup (pv 0) pe_int (fun _ _ => rfl)) pa_nil))) pe_int (nomark _))))))), ?_⟩
    refine ⟨_, rfl, _, _, _, _, true, rfl, .ty "tuple", .base (.tup ha), kit_ty (by decide +kernel), true, rfl, if_f rfl ?_⟩
    refine ⟨_, rfl, a, _, rfl, .inr (SqT.of ha), rfl, false, rfl, if_f rfl ?_⟩
    refine ⟨_, rfl, a, rfl, ⟨_, SqT.of ha⟩, fun D hD => ?_⟩
    refine lc_it walk_tup (fun i H' => Evl.Ex H H' ∧ H' D = some (.lst [])) ⟨Evl.Ex.new hD, upd_same⟩ (fun i H' _ q => SqT.of (q.1 _ _ ha)) ?_ ?_
    · rintro i v H1 H2 hi ⟨e1, hD1⟩ ⟨rfl, hv⟩
      have hv : [V.int p, V.int q][i]? = some v := hv
      obtain ⟨z, rfl⟩ : ∃ z, v = .int z := by
        match i, hv with
        | 0, hv => cases hv; exact ⟨_, rfl⟩
        | 1, hv => cases hv; exact ⟨_, rfl⟩
      refine ⟨rfl, ?_⟩
      exact ⟨_, rfl, _, _, _, _, true, rfl, .ty "int", .base (.int z), kit_ty (by decide +kernel), true, rfl, if_f rfl ⟨_, rfl, _, _, _, _, false, rfl, .ty "bool", .base (.int z), kit_ty (by decide +kernel), false, rfl, if_f rfl ⟨e1, hD1⟩⟩⟩
    · rintro H1 ⟨e1, hD1⟩
      refine ⟨Nat.zero_le _, fun l2 hl2 => ?_⟩
      have e2 := Evl.Ex.new (o := .lst []) hl2
      have ha2 := (e1.trans e2) _ _ ha
      refine ⟨.list [], .list [], dp_nil (e2 _ _ hD1), dp_nil upd_same, shp_nil, shp_nil, _, rfl, if_f (by simp [PyData.eqv, PyData.eqvAll]) ?_⟩
      refine ⟨_, rfl, a, _, _, _, rfl, rfl, SqT.of ha2, rfl, _, _, rfl, rfl, _, rfl, if_t (decide_eq_true (by omega)) ?_⟩
      refine ⟨_, rfl, a, _, _, _, rfl, rfl, SqT.of ha2, rfl, _, rfl, a, _, _, _, rfl, rfl, SqT.of ha2, rfl, p, q, rfl, fun H3 e3 => ⟨rfl, ?_⟩⟩
      rw [qc]
      exact k _ ((e1.trans e2).trans e3)
theorem ok__new {f : Addr} {fd fdI : FuncData} (F : Fun K "_law_wl_new" "_law_wl_new" s__law_wl_new f fd) (mL : mg "list" = none) (mC : mg "Script" = some (.ref C)) (c : ScC K C fI fT fS pT pS) (FI : FnOk P w K mg base CX0 5 fI fdI p_Sc_init (spScI C)) (bI : Binds K fdI p_Sc_init []) : FnOk P w K mg base CX0 7 f fd p__law_wl_new (spNew C) := by
  refine F.ok sc__law_wl_new (fun vs H Q E h => ?_) (fun cdv A outer s H vs Q E hr h => ?_)
  · obtain ⟨t, ts, ds, rfl, _⟩ := h
    rfl
  · obtain ⟨t, ts, ds, rfl, ⟨lv, ld, ht, hT, hD⟩, hok, k⟩ := h
    have nd := sc__law_wl_new.nd
    have two : 2 ≤ sizeLine := by show 2 ≤ sizeLine; decide
    refine ⟨_, pss_one (ps_ret (pe_make c.mkI FI hr (by rfl) mC bI .nil pass0 (pa_cons (pe_callTy call_list_of (by rfl) mL (by decide +kernel) (pa_cons (pe_ix ix_tup (pv 0) pe_int (fun _ _ => rfl)) pa_nil)) (pa_cons (pe_lc (own := [("deed", 1)]) (g := (gName 1)) (tt := tYes) (te := (tIf (tTest (tOp rEq (tOp (rIxT K) (tVar 1) (tC (.int 0))) (tC (.str "open")))) (tTup (tCons (tOp (rIxT K) (tVar 1) (tC (.int 0))) (tCons (tCB (rLstOf K) (tCons (tOp (rIxT K) (tVar 1) (tC (.int 1))) tNil)) tNil))) (tVar 1))) rfl nd (pi_list (pe_ix ix_tup (pv 0) pe_int (fun _ _ => rfl))) (blkOk_by (N := n__law_wl_new) (sc := defScope s__law_wl_new) (by decide +kernel)) (fun _ _ _ _ _ => (pg_name (i := 1) nd rfl (Or.inl rfl))) (fun _ _ _ _ _ => pts_nil) (fun _ _ _ _ _ => (pe_ifExp (pt_cmpR op_eq (pe_ix ix_tup (pv 1) pe_int (fun _ _ => rfl)) pe_str (nomark _)) (pe_tup (pa_cons (pe_ix ix_tup (pv 1) pe_int (fun _ _ => rfl)) (pa_cons (pe_callTy call_list_of (by rfl) mL (by decide +kernel) (pa_cons (pe_ix ix_tup (pv 1) pe_int (fun _ _ => rfl)) pa_nil)) pa_nil))) (pv 1)))) pa_nil)))), ?_⟩
    obtain ⟨acc, ha, hal⟩ := tks_list hT
    refine ⟨_, rfl, t, _, _, _, rfl, rfl, SqT.of ht, rfl, lv, _, rfl, .inl (SqL.of ha), fun l1 hl1 => ?_⟩
    have e1 := Evl.Ex.new (o := .lst acc) hl1
    have hT1 : TksAt (upd H l1 (.lst acc)) l1 ts := by
      obtain ⟨as, h1, h2, h3⟩ := hT
      rw [ha] at h1
      injection h1 with h1
      injection h1 with h1
      exact ⟨as, by rw [upd_same, h1], h2, fun i a t x y => e1 _ _ (h3 i a t x y)⟩
    have hD1 := hD.ex e1
    have ht1 := e1 _ _ ht
    generalize upd H l1 (.lst acc) = H1 at e1 hT1 hD1 ht1
    obtain ⟨as, h1, h2, h3⟩ := id hD1
    refine ⟨_, rfl, t, _, _, _, rfl, rfl, SqT.of ht1, rfl, ld, rfl, ⟨_, SqL.of h1⟩, fun D hD => lc_list (xs := as.map V.ref) (fun i H' => Evl.Ex H1 H' ∧ DsN H' D (ds.take i)) ⟨Evl.Ex.new hD, DsN.start upd_same⟩ (fun i H' _ q => SqL.of (q.1 _ _ h1)) ?_ ?_⟩
    · rintro i v H2 hi ⟨e2, hDs⟩
      rw [List.getElem?_map] at hi
      obtain ⟨a, ha, rfl⟩ : ∃ a, as[i]? = some a ∧ v = .ref a := by
        cases e : as[i]? with
        | none =>
          rw [e] at hi
          cases hi
        | some a =>
          rw [e] at hi
          exact ⟨a, rfl, (Option.some.inj hi).symm⟩
      have hi2 : i < ds.length := by
        have := (List.getElem?_eq_some_iff.mp ha).1
        omega
      have hd : ds[i]? = some ds[i] := List.getElem?_eq_getElem hi2
      have hda := (h3 i a _ ha hd).ex e2
      have hok1 := hok.2.2 ds[i] (List.getElem_mem hi2)
      rw [ds_take1 hd]
      generalize ds[i] = d at hda hok1
      refine ⟨rfl, ?_⟩
      unfold tYes
      refine if_t rfl ?_
      rcases dat_open hda with ⟨ks, rfl⟩ | ⟨x, r, hx, hne⟩
      · obtain ⟨l, h4, h5⟩ := id hda
        refine ⟨_, rfl, a, _, _, _, rfl, rfl, SqT.of h4, rfl, rfl, _, rfl, if_t (by decide) ?_⟩
        refine ⟨_, rfl, a, _, _, _, rfl, rfl, SqT.of h4, rfl, _, rfl, a, _, _, _, rfl, rfl, SqT.of h4, rfl, l, _, rfl, .inl (SqL.of h5), fun l2 hl2 => ⟨two, fun t2 ht2 => ?_⟩⟩
        have e3 := Evl.Ex.new (o := .lst (iV ks)) hl2
        have e4 := Evl.Ex.new (o := .tup [.str "open", .ref l2]) ht2
        have hn : DAt (upd (upd H2 l2 (.lst (iV ks))) t2 (.tup [.str "open", .ref l2])) t2 (.op ks) := ⟨l2, upd_same, e4 _ _ upd_same⟩
        obtain ⟨acc, q1, q2, q3⟩ := hDs.more (e3.trans e4) hn hok1 (by rw [List.length_take]; have := hok.2.1; omega)
        exact ⟨acc, q1, q2, Evl.Ex.mut ((e2.trans e3).trans e4) hD, q3⟩
      · refine ⟨_, rfl, a, _, _, _, rfl, rfl, SqT.of hx, (by exact atI_nat (j := 0) rfl), rfl, _, rfl, if_f hne ⟨_, rfl, ?_⟩⟩
        obtain ⟨acc, q1, q2, q3⟩ := hDs.more (Evl.Ex.refl _) hda hok1 (by rw [List.length_take]; have := hok.2.1; omega)
        exact ⟨acc, q1, q2, Evl.Ex.mut e2 hD, q3⟩
    · rintro H2 ⟨e2, hDs⟩
      have hl : (as.map V.ref).length = ds.length := by rw [List.length_map]; exact h2
      rw [hl, List.take_length] at hDs
      intro x dx hx hdx hne
      have e3 : Evl.Ex H2 (upd (upd H2 dx (.own x)) x (.ins C dx [])) := fun b o h => Eq.trans (upd_ne (ne_of_none' h hx)) (Eq.trans (upd_ne (ne_of_none' h hdx)) h)
      refine ⟨x, dx, .ref l1, .ref D, ts, ds, rfl, upd_same, (tks_dq (hT1.ex e2)).go e3, (ds_dq hDs.done).go e3, hok, fun v' u' fs H' b hx' g1 g2 d1 d2 => ⟨rfl, ?_⟩⟩
      refine k x H' (fun c o h => ?_) ⟨dx, fs, v', u', hx', g1, g2, d1, d2⟩
      have h5 := (e1.trans e2) _ _ h
      exact b _ _ (ne_of_none' h5 hx) (e3 _ _ h5)
theorem ok__waters {f : Addr} {fd : FuncData} (F : Fun K "_law_waters" "_law_waters" s__law_waters f fd) (mR : mg "range" = none) (mL : mg "len" = none) (cM : Cal P w K mg base 3 "_law_wl_times" p__law_wl_times (spFp fun p q x y => fr (p * x) (q * y))) : FnOk P w K mg base CX0 4 f fd p__law_waters spWaters := by
  refine F.ok sc__law_waters (fun vs H Q E h => ?_) (fun cdv A outer s H vs Q E hr h => ?_)
  · obtain ⟨l, lw, fs, gs, rfl, _⟩ := h
    rfl
  · obtain ⟨l, lw, fs, gs, rfl, hf, hg, hl, h20, bf, bg, k⟩ := h
    have nd := sc__law_waters.nd
    refine ⟨_, pss_one (ps_ret (pe_lc (own := [("k", 2)]) (g := (gName 2)) (tt := tYes) (te := (tCall (spFp fun p q x y => fr (p * x) (q * y)) [] E0 (tCons (tOp (rIxL K) (tVar 0) (tVar 2)) (tCons (tOp (rIxL K) (tVar 1) (tVar 2)) tNil)))) rfl nd (pi_range1 (by rfl) mR (pa_cons (pe_callB call_len_seq (by rfl) mL PySem.boot_len (pa_cons (pv 1) pa_nil)) pa_nil)) (blkOk_by (N := n__law_waters) (sc := defScope s__law_waters) (by decide +kernel)) (fun _ _ _ _ _ => (pg_name (i := 2) nd rfl (Or.inl rfl))) (fun _ _ _ _ _ => pts_nil) (fun _ _ _ _ _ => (pe_c cM hr (pa_cons (pe_ix ix_list (pv 0) (pv 2) (fun _ _ => rfl)) (pa_cons (pe_ix ix_list (pv 1) (pv 2) (fun _ _ => rfl)) pa_nil)))))), ?_⟩
    obtain ⟨xs, hxs, hxl, hxi⟩ := pr_items hf
    obtain ⟨ys, hys, hyl, hyi⟩ := pr_items hg
    refine ⟨_, rfl, lw, _, rfl, .inl (SqL.of hys), _, rfl, by omega, by omega, fun D hD => ?_⟩
    rw [hyl, Int.toNat_natCast]
    refine lc_range (n := gs.length) (fun i H' => Evl.Ex H H' ∧ PrN H' D ((List.range i).map fun i => frM (fs.getD i (0, 1)) (gs.getD i (0, 1)))) ⟨Evl.Ex.new hD, PrN.start upd_same⟩ ?_ ?_
    · rintro i H1 hi ⟨e1, hN⟩
      rw [Int.zero_add]
      obtain ⟨a, ha, hFa, ma⟩ := hxi i (by omega)
      obtain ⟨b, hb, hFb, mb⟩ := hyi i hi
      obtain ⟨q0, bp, bq⟩ := bf _ ma
      obtain ⟨y0, bx, by_⟩ := bg _ mb
      refine ⟨rfl, ?_⟩
      unfold tYes
      refine if_t rfl ?_
      show tCall (spFp fun p q x y => fr (p * x) (q * y)) [] E0 _ _ _ _
      refine ⟨_, rfl, _, rfl, l, _, _, _, rfl, rfl, SqL.of (e1 _ _ hxs), atI_nat ha, _, rfl, _, rfl, lw, _, _, _, rfl, rfl, SqL.of (e1 _ _ hys), atI_nat hb, a, b, _, _, _, _, rfl, e1 _ _ hFa, e1 _ _ hFb, q0, y0, bp, bq, bx, by_, fun t H2 ht e2 h2 => ?_⟩
      obtain ⟨acc, q1, q2, _, q3⟩ := hN.more (f := frM (fs.getD i (0, 1)) (gs.getD i (0, 1))) e2 h2 (by rw [List.length_map, List.length_range]; omega)
      refine ⟨acc, q1, q2, Evl.Ex.mut (e1.trans e2) hD, ?_⟩
      rw [range_more]
      exact q3
    · rintro H1 ⟨e1, hN⟩
      exact k D H1 hD e1 hN.done
end
end V2


namespace V2
open PySem L2
/-! ## fractions and sums -/
theorem fr_vl {a b : Int} (hb : 0 < b) : (fr a b).1 * b = a * (fr a b).2 := by
  obtain ⟨h1, h2⟩ := fr_mul (u := a) hb
  generalize hp : (fr a b).1 = p at *
  generalize hq : (fr a b).2 = q at *
  generalize ((Int.gcd a b : Nat) : Int) = g at *
  rw [h2]
  conv => rhs; rw [h1]
  grind
theorem frM_fr {a b c d : Int} (hb : 0 < b) (hd : 0 < d) : frM (fr a b) (fr c d) = fr (a * c) (b * d) := by
  have h1 := fr_vl (a := a) hb
  have h2 := fr_vl (a := c) hd
  unfold frM
  refine fr_eq (Int.mul_pos (fr_pos hb) (fr_pos hd)) (Int.mul_pos hb hd) ?_
  grind
theorem frA_fr {a b c d : Int} (hb : 0 < b) (hd : 0 < d) : frA (fr a b) (fr c d) = fr (a * d + c * b) (b * d) := by
  have h1 := fr_vl (a := a) hb
  have h2 := fr_vl (a := c) hd
  unfold frA
  refine fr_eq (Int.mul_pos (fr_pos hb) (fr_pos hd)) (Int.mul_pos hb hd) ?_
  grind
theorem fr_sc {a b k : Int} (hb : 0 < b) (hk : 0 < k) : fr (a * k) (b * k) = fr a b := fr_eq (Int.mul_pos hb hk) hb (by grind)
theorem fr_self {p q : Int} (h : 0 < q) (hc : Int.gcd p q = 1) : fr p q = (p, q) := by
  unfold fr
  rw [hc]
  simp
theorem fr_1 (n : Int) : fr n 1 = (n, 1) := fr_self (by decide) (by simp)
theorem fr_0 {b : Int} (h : 0 < b) : fr 0 b = (0, 1) := by
  rw [← fr_1 0]
  exact fr_eq h (by decide) (by omega)
theorem fr_neg {a b : Int} (hb : 0 < b) : (0 - (fr a b).1, (fr a b).2) = fr (-a) b := by
  have h1 := fr_vl (a := a) hb
  have h3 : fr (0 - (fr a b).1) (fr a b).2 = fr (-a) b := fr_eq (fr_pos hb) hb (by grind)
  rw [← h3]
  refine (fr_self (fr_pos hb) ?_).symm
  rw [Int.zero_sub, Int.neg_gcd]
  exact fr_cop hb
theorem fr_lt {a b c d : Int} (hb : 0 < b) (hd : 0 < d) : (fr a b).1 * (fr c d).2 < (fr c d).1 * (fr a b).2 ↔ a * d < c * b := by
  obtain ⟨h1, h2⟩ := fr_mul (u := a) hb
  obtain ⟨h3, h4⟩ := fr_mul (u := c) hd
  have g1 := gcd_pos (u := a) hb
  have g2 := gcd_pos (u := c) hd
  generalize (fr a b).1 = p at *
  generalize (fr a b).2 = q at *
  generalize (fr c d).1 = x at *
  generalize (fr c d).2 = y at *
  generalize ((Int.gcd a b : Nat) : Int) = g at *
  generalize ((Int.gcd c d : Nat) : Int) = h at *
  have g0 : 0 < g * h := Int.mul_pos g1 g2
  have e1 : a * d = (p * y) * (g * h) := by rw [h1, h4]; grind
  have e2 : c * b = (x * q) * (g * h) := by rw [h2, h3]; grind
  rw [e1, e2]
  constructor
  · intro z
    exact Int.mul_lt_mul_of_pos_right z g0
  · intro z
    exact Int.lt_of_mul_lt_mul_right z (Int.le_of_lt g0)
def sr (g : Nat → Int) : Nat → Int
  | 0 => 0
  | n + 1 => sr g n + g n
theorem sr_congr {f g : Nat → Int} : ∀ {n : Nat}, (∀ i, i < n → f i = g i) → sr f n = sr g n
  | 0, _ => rfl
  | n + 1, h => by
    unfold sr
    rw [sr_congr (n := n) fun i hi => h i (by omega), h n (by omega)]
theorem sr_add (f g : Nat → Int) : ∀ n : Nat, sr (fun i => f i + g i) n = sr f n + sr g n
  | 0 => rfl
  | n + 1 => by
    unfold sr
    rw [sr_add f g n]
    omega
theorem sr_mul (f : Nat → Int) (c : Int) : ∀ n : Nat, sr (fun i => f i * c) n = sr f n * c
  | 0 => by simp [sr]
  | n + 1 => by
    unfold sr
    rw [sr_mul f c n, Int.add_mul]
theorem sr_0 : ∀ n : Nat, sr (fun _ => 0) n = 0
  | 0 => rfl
  | n + 1 => by
    unfold sr
    rw [sr_0 n]
    rfl
theorem sr_one (h : Nat → Int) (j : Nat) : ∀ n : Nat, sr (fun i => if i = j then h i else 0) n = if j < n then h j else 0
  | 0 => by simp [sr]
  | n + 1 => by
    unfold sr
    rw [sr_one h j n]
    by_cases c : n = j
    · subst c
      rw [if_pos rfl, if_neg (by omega), if_pos (by omega)]
      omega
    · rw [if_neg c]
      by_cases c2 : j < n
      · rw [if_pos c2, if_pos (by omega)]
        omega
      · rw [if_neg c2, if_neg (by omega)]
        rfl
theorem sr_nn {g : Nat → Int} : ∀ {n : Nat}, (∀ i, i < n → 0 ≤ g i) → 0 ≤ sr g n ∧ (sr g n = 0 → ∀ i, i < n → g i = 0)
  | 0, _ => ⟨Int.le_refl _, fun _ i hi => by omega⟩
  | n + 1, h => by
    obtain ⟨h1, h2⟩ := sr_nn (n := n) fun i hi => h i (by omega)
    have h3 := h n (by omega)
    unfold sr
    refine ⟨by omega, fun e i hi => ?_⟩
    by_cases c : i = n
    · subst c
      omega
    · exact h2 (by omega) i (by omega)
theorem sr_list : ∀ (l : List Int) (n : Nat), l.length = n → sr (fun i => l.getD i 0) n = l.sum := by
  intro l
  have key : ∀ n, n ≤ l.length → sr (fun i => l.getD i 0) n = (l.take n).sum := by
    intro n
    induction n with
    | zero => intro _; rfl
    | succ n ih =>
      intro h
      unfold sr
      rw [ih (by omega), List.take_add_one, List.getElem?_eq_getElem (show n < l.length by omega), List.sum_append, List.getD_eq_getElem?_getD, List.getElem?_eq_getElem (show n < l.length by omega)]
      simp
  intro n h
  rw [key n (by omega), ← h, List.take_length]
theorem sr_range (f : Nat → Int) (n : Nat) : ((List.range n).map f).sum = sr f n := by
  rw [← sr_list _ n (by rw [List.length_map, List.length_range])]
  refine sr_congr fun i hi => ?_
  rw [List.getD_eq_getElem?_getD, map_range_get hi]
  rfl
theorem asc_lt : ∀ {ks : List Int}, (∀ (i : Nat) (x y : Int), ks[i]? = some x → ks[i + 1]? = some y → x < y) → ks.Nodup ∧ ∀ k r, ks = k :: r → ∀ x ∈ r, k < x
  | [], _ => ⟨List.nodup_nil, fun k r h => by cases h⟩
  | [k], _ => ⟨by simp, fun k r h x hx => by cases h; cases hx⟩
  | k :: l :: r, h => by
    obtain ⟨h1, h2⟩ := asc_lt (ks := l :: r) fun i x y hx hy => h (i + 1) x y hx hy
    have h3 := h 0 k l rfl rfl
    have h4 : ∀ x ∈ l :: r, k < x := fun x hx => by
      rcases List.mem_cons.mp hx with rfl | hx
      · exact h3
      · exact Int.lt_trans h3 (h2 l r rfl x hx)
    refine ⟨List.nodup_cons.mpr ⟨fun hk => absurd (h4 k hk) (Int.lt_irrefl k), h1⟩, fun k' r' e x hx => ?_⟩
    cases e
    exact h4 x hx
theorem pick_sr {h : Nat → Int} {n : Nat} : ∀ {ks : List Int}, ks.Nodup → (∀ k ∈ ks, 0 ≤ k ∧ k < (n : Int)) → (ks.map fun k => h k.toNat).sum = sr (fun i => if (i : Int) ∈ ks then h i else 0) n
  | [], _, _ => by
    rw [sr_congr (g := fun _ => 0) fun i _ => by simp, sr_0]
    rfl
  | k :: ks, nd, hb => by
    obtain ⟨h1, h2⟩ := List.nodup_cons.mp nd
    have ih := pick_sr (h := h) (n := n) h2 fun x hx => hb x (List.mem_cons_of_mem _ hx)
    obtain ⟨k0, k1⟩ := hb k List.mem_cons_self
    have e : sr (fun i => if (i : Int) ∈ k :: ks then h i else 0) n = sr (fun i => (if i = k.toNat then h i else 0) + (if (i : Int) ∈ ks then h i else 0)) n := sr_congr ?_
    · rw [List.map_cons, List.sum_cons, ih, e, sr_add, sr_one, if_pos (by omega)]
    intro i hi
    by_cases c : i = k.toNat
    · have e : (i : Int) = k := by omega
      rw [if_pos c, if_pos (by rw [e]; exact List.mem_cons_self), if_neg (by rw [e]; exact h1)]
      omega
    · have e : (i : Int) ≠ k := by omega
      rw [if_neg c]
      by_cases m : (i : Int) ∈ ks
      · rw [if_pos m, if_pos (List.mem_cons_of_mem _ m)]
        omega
      · rw [if_neg m, if_neg (by simp [e, m])]
        rfl
theorem pick_sum {A ks : List Int} {n : Nat} (nd : ks.Nodup) (hb : ∀ k ∈ ks, 0 ≤ k ∧ k < (n : Int)) : (pick A ks).sum = sr (fun i => if (i : Int) ∈ ks then A.getD i 0 else 0) n := pick_sr (h := fun i => A.getD i 0) nd hb
theorem sum_set : ∀ {l : List Int} {i : Nat} {x : Int}, i < l.length → (l.set i x).sum = l.sum + x - l.getD i 0
  | a :: l, 0, x, _ => by
    simp
    omega
  | a :: l, i + 1, x, h => by
    have := sum_set (l := l) (i := i) (x := x) (by simpa using h)
    simp at *
    omega
theorem sum_mul (q : Int) : ∀ l : List Int, (l.map (· * q)).sum = l.sum * q
  | [] => by simp
  | a :: l => by simp [sum_mul q l, Int.add_mul]
theorem sum_mem : ∀ {l : List Int}, (∀ x ∈ l, 0 ≤ x) → ∀ x ∈ l, x ≤ l.sum
  | a :: l, h, x, hx => by
    have h1 := sum_nn (xs := l) fun z hz => h z (List.mem_cons_of_mem _ hz)
    have h2 := h a List.mem_cons_self
    rw [List.sum_cons]
    rcases List.mem_cons.mp hx with rfl | hx
    · omega
    · have := sum_mem (fun z hz => h z (List.mem_cons_of_mem _ hz)) x hx
      omega
theorem map_getD_mul {A : List Int} {i : Nat} {q : Int} (h : i < A.length) : (A.map (· * q)).getD i 0 = A.getD i 0 * q := by
  rw [List.getD_eq_getElem?_getD, List.getD_eq_getElem?_getD, List.getElem?_map, List.getElem?_eq_getElem h]
  rfl
/-- no step puts in more than it pours -/
def pourD : Deed → Int
  | .po _ a => a
  | _ => 0
theorem step_sum {n : Nat} {A ws : List Int} {W : Int} {d : Deed} (hA : A.length = n) (hw : ws.length = n) (nn : ∀ x ∈ A, 0 ≤ x) (hW : 0 < W) (hok : okD n d) {P : Int} (hP : A.sum ≤ P * W) (hws : ∀ x ∈ ws, 0 < x) : (stepA ws (A, W) d).1.sum ≤ (P + pourD d) * (stepA ws (A, W) d).2 := by
  subst hA
  cases d with
  | op ks =>
    obtain ⟨h2, h20, hasc, hb⟩ := hok
    have nd := (asc_lt hasc).1
    show (openA A ws ks).sum ≤ (P + 0) * (W * (pick ws ks).sum)
    have hS : 0 ≤ (pick ws ks).sum := sum_nn fun x hx => by
      have ok2 : okK ws.length ks := by rw [hw]; exact ⟨h20, hb⟩
      exact Int.le_of_lt (hws x (pick_mem ok2 hx))
    have e : (openA A ws ks).sum = A.sum * (pick ws ks).sum := by
      unfold openA
      rw [sr_range, sr_congr (g := fun i => ((if (i : Int) ∈ ks then ws.getD i 0 else 0) * (pick A ks).sum + A.getD i 0 * (pick ws ks).sum) + (if (i : Int) ∈ ks then A.getD i 0 else 0) * (-(pick ws ks).sum)), sr_add, sr_add, sr_mul, sr_mul, sr_mul, ← pick_sum nd hb, ← pick_sum nd hb, sr_list A _ rfl]
      · grind
      · intro i hi
        by_cases c : (i : Int) ∈ ks
        · simp only [if_pos c]
          grind
        · simp only [if_neg c]
          grind
    rw [e]
    have := Int.mul_le_mul_of_nonneg_right hP hS
    grind
  | po k a =>
    show (pourA A W k a).sum ≤ (P + a) * W
    obtain ⟨⟨k0, k1⟩, a0⟩ := hok
    have e : (pourA A W k a).sum = A.sum + a * W := by
      unfold pourA
      rw [sr_range, sr_congr (g := fun i => A.getD i 0 + (if i = k.toNat then (fun _ => a * W) i else 0)), sr_add, sr_one, if_pos (by omega), sr_list A _ rfl]
      intro i hi
      by_cases c : (i : Int) = k
      · rw [if_pos c, if_pos (by omega)]
      · rw [if_neg c, if_neg (by omega)]
        omega
    rw [e, Int.add_mul]
    omega
  | sc k p q =>
    obtain ⟨⟨k0, k1⟩, p0, pq, q0, _⟩ := hok
    show ((A.map (· * q)).set k.toNat (A.getD k.toNat 0 * (q - p))).sum ≤ (P + 0) * (W * q)
    have hk : k.toNat < A.length := by omega
    have m := nn _ (getD_mem' hk)
    rw [sum_set (by rw [List.length_map]; exact hk), sum_mul, map_getD_mul hk]
    have h1 := Int.mul_le_mul_of_nonneg_right hP (Int.le_of_lt q0)
    have h2 := Int.mul_nonneg m p0
    grind
  | mv k j p q =>
    obtain ⟨⟨k0, k1⟩, ⟨j0, j1⟩, kj, p0, pq, q0, _⟩ := hok
    show (((A.map (· * q)).set k.toNat (A.getD k.toNat 0 * (q - p))).set j.toNat (((A.map (· * q)).set k.toNat (A.getD k.toNat 0 * (q - p))).getD j.toNat 0 + A.getD k.toNat 0 * p)).sum ≤ (P + 0) * (W * q)
    have hk : k.toNat < A.length := by omega
    have hj : j.toNat < A.length := by omega
    rw [sum_set (by rw [List.length_set, List.length_map]; exact hj), sum_set (by rw [List.length_map]; exact hk), sum_mul, map_getD_mul hk]
    have h1 := Int.mul_le_mul_of_nonneg_right hP (Int.le_of_lt q0)
    grind
  | un k m =>
    show A.sum ≤ (P + 0) * W
    rw [Int.add_zero]
    exact hP
end V2


namespace V2
open PySem L2
/-! ## waters and levels as fractions -/
def Bh (A : List Int) (W : Int) : List (Int × Int) := A.map fun x => fr x W
def widP (u b : Int) (t : Tk) : Int × Int := match t.1 with
  | none => (u, b)
  | some z => (z, 1)
theorem widP_fr {u b : Int} {t : Tk} (hQ : Qn u b) : widP u b t = fr (wid u b t) b := by
  obtain ⟨b0, bc, _, _⟩ := hQ
  unfold widP wid
  cases t.1 with
  | none => exact (fr_self b0 bc).symm
  | some z =>
    show (z, 1) = fr (z * b) b
    have h := fr_sc (a := z) (b := 1) (k := b) (by decide) b0
    rw [Int.one_mul] at h
    rw [h, fr_1]
theorem widP_inv {u b : Int} {t : Tk} (hQ : Qn u b) (hu : 0 < u) (hz : ∀ z, t.1 = some z → 1 ≤ z) : ((widP u b t).2, (widP u b t).1) = fr b (wid u b t) := by
  obtain ⟨b0, bc, _, _⟩ := hQ
  unfold widP wid
  cases e : t.1 with
  | none => exact (fr_self hu (by rw [Int.gcd_comm]; exact bc)).symm
  | some z =>
    have h1 := hz z e
    show (1, z) = fr b (z * b)
    have h := fr_sc (a := 1) (b := z) (k := b) (by omega) b0
    rw [Int.one_mul] at h
    rw [h, fr_self (by omega) (by simp)]
theorem getD_map {α β : Type} (l : List α) (f : α → β) (i : Nat) (d : β) (h : i < l.length) : (l.map f).getD i d = f l[i] := by
  rw [List.getD_eq_getElem?_getD, List.getElem?_map, List.getElem?_eq_getElem h]
  rfl
theorem getD_el {α : Type} {l : List α} {i : Nat} {d : α} (h : i < l.length) : l.getD i d = l[i] := by
  rw [List.getD_eq_getElem?_getD, List.getElem?_eq_getElem h]
  rfl
theorem bh_get {A : List Int} {W : Int} {i : Nat} (h : i < A.length) : (Bh A W).getD i (0, 1) = fr (A.getD i 0) W := by
  unfold Bh
  rw [getD_map _ _ _ _ h, getD_el h]
theorem bh_len (A : List Int) (W : Int) : (Bh A W).length = A.length := List.length_map ..
theorem list_ext {l1 l2 : List (Int × Int)} {n : Nat} (h1 : l1.length = n) (h2 : l2.length = n) (h : ∀ i, i < n → l1.getD i (0, 1) = l2.getD i (0, 1)) : l1 = l2 := by
  refine List.ext_getElem (by omega) fun i a b => ?_
  have := h i (by omega)
  rw [getD_el a, getD_el b] at this
  exact this
theorem getD_set {α : Type} {l : List α} {k i : Nat} {x d : α} (h : k < l.length) : (l.set k x).getD i d = if i = k then x else l.getD i d := by
  rw [List.getD_eq_getElem?_getD, List.getElem?_set]
  by_cases c : k = i
  · subst c
    rw [if_pos rfl, if_pos h, if_pos rfl]
    rfl
  · rw [if_neg c, if_neg fun z => c z.symm, List.getD_eq_getElem?_getD]
/-- levels times widths are the waters -/
theorem water_eq {ts : List Tk} {A : List Int} {W u b : Int} (hA : A.length = ts.length) (hW : 0 < W) (hQ : Qn u b) (hV : OkV ts.length (ts.map (wid u b))) :
    (List.range (ts.map (widP u b)).length).map (fun i => frM (((List.range A.length).map (lvl A (ts.map (wid u b)) W b)).getD i (0, 1)) ((ts.map (widP u b)).getD i (0, 1))) = Bh A W := by
  refine list_ext (n := ts.length) (by rw [List.length_map, List.length_range, List.length_map]) (by rw [bh_len, hA]) fun i hi => ?_
  rw [bh_get (by omega), getD_map _ _ _ _ (by rw [List.length_range, List.length_map]; exact hi), List.getElem_range, getD_map _ _ _ _ (by rw [List.length_range]; omega), List.getElem_range, getD_map _ _ _ _ hi, widP_fr hQ]
  unfold lvl
  have e : (ts.map (wid u b)).getD i 0 = wid u b ts[i] := getD_map _ _ _ _ hi
  have p : 0 < wid u b ts[i] := by
    rw [← e]
    exact hV.pos _ (getD_mem' (by rw [List.length_map]; exact hi))
  have b0 := hQ.1
  rw [e, frM_fr (Int.mul_pos hW p) b0]
  have h := fr_sc (a := A.getD i 0) (b := W) (k := b * wid u b ts[i]) hW (Int.mul_pos b0 p)
  rw [← h]
  congr 1
  · grind
  · grind
theorem owe_po {n : Nat} {A ws : List Int} {W k a : Int} (hA : A.length = n) (hW : 0 < W) (hok : okD n (.po k a)) : Bh (stepA ws (A, W) (.po k a)).1 (stepA ws (A, W) (.po k a)).2 = (Bh A W).set k.toNat (frA ((Bh A W).getD k.toNat (0, 1)) (a, 1)) := by
  subst hA
  obtain ⟨⟨k0, k1⟩, a0⟩ := hok
  have hk : k.toNat < A.length := by omega
  refine list_ext (n := A.length) (by rw [bh_len]; exact pourA_len A W k a) (by rw [List.length_set, bh_len]) fun i hi => ?_
  rw [bh_get (by show i < (pourA A W k a).length; rw [pourA_len]; exact hi), getD_set (by rw [bh_len]; exact hk), bh_get hi, bh_get hk, ← fr_1 a, frA_fr hW (by decide)]
  have e : (pourA A W k a).getD i 0 = if (i : Int) = k then A.getD i 0 + a * W else A.getD i 0 := by
    unfold pourA
    rw [List.getD_eq_getElem?_getD, map_range_get hi]
    rfl
  show fr ((pourA A W k a).getD i 0) W = _
  rw [e]
  by_cases c : (i : Int) = k
  · have c2 : i = k.toNat := by omega
    rw [if_pos c, if_pos c2, c2]
    simp
  · rw [if_neg c, if_neg (by omega)]
theorem owe_sc {n : Nat} {A ws : List Int} {W k p q : Int} (hA : A.length = n) (hW : 0 < W) (hok : okD n (.sc k p q)) :
    Bh (stepA ws (A, W) (.sc k p q)).1 (stepA ws (A, W) (.sc k p q)).2 = (Bh A W).set k.toNat (frA ((Bh A W).getD k.toNat (0, 1)) (0 - (frM ((Bh A W).getD k.toNat (0, 1)) (p, q)).1, (frM ((Bh A W).getD k.toNat (0, 1)) (p, q)).2)) := by
  subst hA
  obtain ⟨⟨k0, k1⟩, p0, pq, q0, qc, _, _⟩ := hok
  have hk : k.toNat < A.length := by omega
  have hl : (takeA A k p q none).length = A.length := takeA_len A k p q none
  refine list_ext (n := A.length) (by rw [bh_len]; exact hl) (by rw [List.length_set, bh_len]) fun i hi => ?_
  rw [bh_get (by show i < (takeA A k p q none).length; omega), getD_set (by rw [bh_len]; exact hk), bh_get hi, bh_get hk, ← fr_self q0 qc, frM_fr hW q0, fr_neg (Int.mul_pos hW q0), frA_fr hW (Int.mul_pos hW q0)]
  have e : (takeA A k p q none).getD i 0 = if i = k.toNat then A.getD k.toNat 0 * (q - p) else A.getD i 0 * q := by
    show ((A.map (· * q)).set k.toNat _).getD i 0 = _
    rw [getD_set (by rw [List.length_map]; exact hk), map_getD_mul hi]
  show fr ((takeA A k p q none).getD i 0) (W * q) = _
  rw [e]
  by_cases c : i = k.toNat
  · rw [if_pos c, if_pos c]
    have h := fr_sc (a := A.getD k.toNat 0 * (q - p)) (b := W * q) (k := W) (Int.mul_pos hW q0) hW
    rw [← h]
    congr 1
    · grind
    · grind
  · rw [if_neg c, if_neg c]
    exact fr_sc hW q0
theorem owe_mv {n : Nat} {A ws : List Int} {W k m p q : Int} (hA : A.length = n) (hW : 0 < W) (hok : okD n (.mv k m p q)) :
    Bh (stepA ws (A, W) (.mv k m p q)).1 (stepA ws (A, W) (.mv k m p q)).2 = ((Bh A W).set k.toNat (frA ((Bh A W).getD k.toNat (0, 1)) (0 - (frM ((Bh A W).getD k.toNat (0, 1)) (p, q)).1, (frM ((Bh A W).getD k.toNat (0, 1)) (p, q)).2))).set m.toNat (frA ((Bh A W).getD m.toNat (0, 1)) (frM ((Bh A W).getD k.toNat (0, 1)) (p, q))) := by
  subst hA
  obtain ⟨⟨k0, k1⟩, ⟨m0, m1⟩, km, p0, pq, q0, qc, _, _⟩ := hok
  have hk : k.toNat < A.length := by omega
  have hm : m.toNat < A.length := by omega
  have hl : (takeA A k p q (some m)).length = A.length := takeA_len A k p q (some m)
  refine list_ext (n := A.length) (by rw [bh_len]; exact hl) (by rw [List.length_set, List.length_set, bh_len]) fun i hi => ?_
  rw [bh_get (by show i < (takeA A k p q (some m)).length; omega), getD_set (by rw [List.length_set, bh_len]; exact hm), getD_set (by rw [bh_len]; exact hk), bh_get hi, bh_get hk, bh_get hm, ← fr_self q0 qc, frM_fr hW q0, fr_neg (Int.mul_pos hW q0), frA_fr hW (Int.mul_pos hW q0), frA_fr hW (Int.mul_pos hW q0)]
  have e : (takeA A k p q (some m)).getD i 0 = if i = m.toNat then A.getD m.toNat 0 * q + A.getD k.toNat 0 * p else if i = k.toNat then A.getD k.toNat 0 * (q - p) else A.getD i 0 * q := by
    show (((A.map (· * q)).set k.toNat _).set m.toNat (((A.map (· * q)).set k.toNat _).getD m.toNat 0 + _)).getD i 0 = _
    rw [getD_set (i := i) (k := m.toNat) (by rw [List.length_set, List.length_map]; exact hm), getD_set (i := m.toNat) (k := k.toNat) (by rw [List.length_map]; exact hk), getD_set (i := i) (k := k.toNat) (by rw [List.length_map]; exact hk), map_getD_mul hi, map_getD_mul hm, if_neg (show ¬ m.toNat = k.toNat by omega)]
  show fr ((takeA A k p q (some m)).getD i 0) (W * q) = _
  rw [e]
  by_cases c : i = m.toNat
  · rw [if_pos c, if_pos c]
    have h := fr_sc (a := A.getD m.toNat 0 * q + A.getD k.toNat 0 * p) (b := W * q) (k := W) (Int.mul_pos hW q0) hW
    rw [← h]
    congr 1
    · grind
    · grind
  · rw [if_neg c, if_neg c]
    by_cases c : i = k.toNat
    · rw [if_pos c, if_pos c]
      have h := fr_sc (a := A.getD k.toNat 0 * (q - p)) (b := W * q) (k := W) (Int.mul_pos hW q0) hW
      rw [← h]
      congr 1
      · grind
      · grind
    · rw [if_neg c, if_neg c]
      exact fr_sc hW q0
/-! ### an opened valve -/
theorem open_get {A ws ks : List Int} {i : Nat} (hi : i < A.length) : (openA A ws ks).getD i 0 = if (i : Int) ∈ ks then (pick A ks).sum * ws.getD i 0 else A.getD i 0 * (pick ws ks).sum := by
  unfold openA
  rw [List.getD_eq_getElem?_getD, map_range_get hi]
  rfl
/-- what is left of the sum behind the first i tanks -/
def opG (A ws ks : List Int) (i : Nat) : Int := if (i : Int) ∈ ks then A.getD i 0 * (pick ws ks).sum - (pick A ks).sum * ws.getD i 0 else 0
theorem opG_sum {A ws ks : List Int} (nd : ks.Nodup) (hb : ∀ k ∈ ks, 0 ≤ k ∧ k < (A.length : Int)) : sr (opG A ws ks) A.length = 0 := by
  rw [sr_congr (g := fun i => (if (i : Int) ∈ ks then A.getD i 0 else 0) * (pick ws ks).sum + (if (i : Int) ∈ ks then ws.getD i 0 else 0) * (-(pick A ks).sum)), sr_add, sr_mul, sr_mul, ← pick_sum nd hb, ← pick_sum nd hb]
  · grind
  · intro i hi
    unfold opG
    by_cases c : (i : Int) ∈ ks
    · simp only [if_pos c]
      grind
    · simp only [if_neg c]
      omega
def sel (ks : List Int) (h : Nat → Int × Int) : Nat → List (Int × Int)
  | 0 => []
  | i + 1 => if (i : Int) ∈ ks then sel ks h i ++ [h i] else sel ks h i
theorem mem_sel {ks : List Int} {h : Nat → Int × Int} {f : Int × Int} : ∀ {n : Nat}, f ∈ sel ks h n ↔ ∃ i, i < n ∧ (i : Int) ∈ ks ∧ h i = f
  | 0 => by simp [sel]
  | n + 1 => by
    unfold sel
    constructor
    · intro z
      by_cases c : (n : Int) ∈ ks
      · rw [if_pos c] at z
        rcases List.mem_append.mp z with z | z
        · obtain ⟨i, h1, h2⟩ := mem_sel.mp z
          exact ⟨i, by omega, h2⟩
        · exact ⟨n, by omega, c, (List.mem_singleton.mp z).symm⟩
      · rw [if_neg c] at z
        obtain ⟨i, h1, h2⟩ := mem_sel.mp z
        exact ⟨i, by omega, h2⟩
    · rintro ⟨i, h1, h2, h3⟩
      by_cases c : i = n
      · subst c
        rw [if_pos h2]
        exact List.mem_append_right _ (List.mem_singleton.mpr h3.symm)
      · have := mem_sel.mpr ⟨i, show i < n by omega, h2, h3⟩
        by_cases c : (n : Int) ∈ ks
        · rw [if_pos c]
          exact List.mem_append_left _ this
        · rw [if_neg c]
          exact this
theorem sel_len (ks : List Int) (h : Nat → Int × Int) : ∀ n : Nat, (sel ks h n).length ≤ n
  | 0 => Nat.le_refl _
  | n + 1 => by
    have := sel_len ks h n
    unfold sel
    split
    · rw [List.length_append]
      show _ + 1 ≤ _
      omega
    · omega
/-- before: the levels ahead of a valve; L: the level behind it -/
theorem open_even {A ws ks : List Int} {W b : Int} (hl : ws.length = A.length) (nd : ks.Nodup) (hb : ∀ k ∈ ks, 0 ≤ k ∧ k < (A.length : Int)) (hW : 0 < W) (b0 : 0 < b) (hws : ∀ x ∈ ws, 0 < x) (hS : 0 < (pick ws ks).sum) :
    ((sel ks (fun i => fr (A.getD i 0 * b) (W * ws.getD i 0)) A.length).filter (fun f => decide (f.1 * (fr ((pick A ks).sum * b) (W * (pick ws ks).sum)).2 < (fr ((pick A ks).sum * b) (W * (pick ws ks).sum)).1 * f.2)) = []) ↔
    ((sel ks (fun i => fr (A.getD i 0 * b) (W * ws.getD i 0)) A.length).filter (fun f => decide ((fr ((pick A ks).sum * b) (W * (pick ws ks).sum)).1 * f.2 < f.1 * (fr ((pick A ks).sum * b) (W * (pick ws ks).sum)).2)) = []) := by
  have wp : ∀ i, i < A.length → 0 < ws.getD i 0 := fun i hi => hws _ (getD_mem' (by omega))
  have bW := Int.mul_pos b0 hW
  have lo : ∀ i, i < A.length → ((fr (A.getD i 0 * b) (W * ws.getD i 0)).1 * (fr ((pick A ks).sum * b) (W * (pick ws ks).sum)).2 < (fr ((pick A ks).sum * b) (W * (pick ws ks).sum)).1 * (fr (A.getD i 0 * b) (W * ws.getD i 0)).2 ↔ A.getD i 0 * (pick ws ks).sum < (pick A ks).sum * ws.getD i 0) := by
    intro i hi
    rw [fr_lt (Int.mul_pos hW (wp i hi)) (Int.mul_pos hW hS)]
    have e1 : A.getD i 0 * b * (W * (pick ws ks).sum) = (A.getD i 0 * (pick ws ks).sum) * (b * W) := by grind
    have e2 : (pick A ks).sum * b * (W * ws.getD i 0) = ((pick A ks).sum * ws.getD i 0) * (b * W) := by grind
    rw [e1, e2]
    exact ⟨fun z => Int.lt_of_mul_lt_mul_right z (Int.le_of_lt bW), fun z => Int.mul_lt_mul_of_pos_right z bW⟩
  have hi' : ∀ i, i < A.length → ((fr ((pick A ks).sum * b) (W * (pick ws ks).sum)).1 * (fr (A.getD i 0 * b) (W * ws.getD i 0)).2 < (fr (A.getD i 0 * b) (W * ws.getD i 0)).1 * (fr ((pick A ks).sum * b) (W * (pick ws ks).sum)).2 ↔ (pick A ks).sum * ws.getD i 0 < A.getD i 0 * (pick ws ks).sum) := by
    intro i hi
    rw [fr_lt (Int.mul_pos hW hS) (Int.mul_pos hW (wp i hi))]
    have e1 : A.getD i 0 * b * (W * (pick ws ks).sum) = (A.getD i 0 * (pick ws ks).sum) * (b * W) := by grind
    have e2 : (pick A ks).sum * b * (W * ws.getD i 0) = ((pick A ks).sum * ws.getD i 0) * (b * W) := by grind
    rw [e1, e2]
    exact ⟨fun z => Int.lt_of_mul_lt_mul_right z (Int.le_of_lt bW), fun z => Int.mul_lt_mul_of_pos_right z bW⟩
  generalize hL : fr ((pick A ks).sum * b) (W * (pick ws ks).sum) = L at *
  have s0 := opG_sum (ws := ws) nd hb
  rw [List.filter_eq_nil_iff, List.filter_eq_nil_iff]
  constructor
  · intro z f hf
    obtain ⟨i, h1, h2, rfl⟩ := mem_sel.mp hf
    have all : ∀ j, j < A.length → 0 ≤ opG A ws ks j := fun j hj => by
      unfold opG
      by_cases c : (j : Int) ∈ ks
      · rw [if_pos c]
        have := z _ (mem_sel.mpr ⟨j, hj, c, rfl⟩)
        rw [decide_eq_true_eq, lo j hj] at this
        omega
      · rw [if_neg c]
        exact Int.le_refl _
    have e := (sr_nn all).2 s0 i h1
    unfold opG at e
    rw [if_pos h2] at e
    rw [decide_eq_true_eq, hi' i h1]
    omega
  · intro z f hf
    obtain ⟨i, h1, h2, rfl⟩ := mem_sel.mp hf
    have all : ∀ j, j < A.length → 0 ≤ (fun j => opG A ws ks j * (-1)) j := fun j hj => by
      show 0 ≤ opG A ws ks j * (-1)
      unfold opG
      by_cases c : (j : Int) ∈ ks
      · rw [if_pos c]
        have := z _ (mem_sel.mpr ⟨j, hj, c, rfl⟩)
        rw [decide_eq_true_eq, hi' j hj] at this
        omega
      · rw [if_neg c]
        exact Int.le_refl _
    have e := (sr_nn all).2 (by rw [sr_mul, s0]; rfl) i h1
    have e : opG A ws ks i * (-1) = 0 := e
    unfold opG at e
    rw [if_pos h2] at e
    rw [decide_eq_true_eq, lo i h1]
    omega
end V2


namespace V2
open PySem L2
open PySem.Spec PyProof.Rows
abbrev spA : Sp := spFp fun p q x y => fr (p * y + x * q) (q * y)
abbrev spM : Sp := spFp fun p q x y => fr (p * x) (q * y)
theorem bh_bits {N : Nat} {A : List Int} {W : Int} (h : OkW N A W) : ∀ f ∈ Bh A W, Fb N f := by
  intro f hf
  obtain ⟨x, hx, rfl⟩ := List.mem_map.mp hf
  have h1 := fr_abs1 (a := x) h.pos
  have h2 := fr_abs2 (a := x) h.pos
  have h3 : x.natAbs < 2 ^ N := h.bA x hx
  have h4 : W.natAbs < 2 ^ N := h.bW
  exact ⟨fr_pos h.pos, Nat.lt_of_le_of_lt h1 h3, Nat.lt_of_le_of_lt h2 h4⟩
theorem wp_bits {ts : List Tk} {u b : Int} (hu : 0 < u) (hQ : Qn u b) (hz : ∀ t ∈ ts, ∀ z, t.1 = some z → 1 ≤ z ∧ z ≤ 1000) : ∀ f ∈ ts.map (widP u b), 0 < f.1 ∧ 0 < f.2 ∧ Bn 50 f.1 ∧ Bn 50 f.2 := by
  intro f hf
  obtain ⟨t, ht, rfl⟩ := List.mem_map.mp hf
  unfold widP
  cases e : t.1 with
  | none => exact ⟨hu, hQ.1, hQ.2.2.1, hQ.2.2.2⟩
  | some z =>
    obtain ⟨h1, h2⟩ := hz t ht z e
    refine ⟨by show 0 < z; omega, by show (0 : Int) < 1; decide, ?_, by show 1 < 2 ^ 50; decide⟩
    show z.natAbs < 2 ^ 50
    exact Nat.lt_of_le_of_lt (show z.natAbs ≤ 1000 by omega) (by decide)
theorem pr_set {H : Hp} {l t : Addr} {xs : List V} {fs : List (Int × Int)} {f : Int × Int} {j : Nat} (h : PrAt H l fs) (hl : H l = some (.lst xs)) (ht : Fr H t f.1 f.2) (hj : j < fs.length) : PrAt (upd H l (.lst (xs.set j (.ref t)))) l (fs.set j f) := by
  obtain ⟨as, h1, h2, h3⟩ := h
  rw [hl] at h1
  injection h1 with h1
  injection h1 with h1
  have ne : ∀ {a : Addr} {p q : Int}, Fr H a p q → a ≠ l := fun h z => by
    have h : H _ = some (.tup _) := h
    rw [z, hl] at h
    cases h
  refine ⟨as.set j t, ?_, by rw [List.length_set, List.length_set, h2], fun i a g ha hg => ?_⟩
  · rw [upd_same, h1, List.map_set]
  · rw [List.getElem?_set] at ha hg
    by_cases c : j = i
    · subst c
      rw [if_pos rfl, if_pos (by omega)] at ha
      rw [if_pos rfl, if_pos hj] at hg
      cases ha
      cases hg
      exact Eq.trans (upd_ne (ne ht)) ht
    · rw [if_neg c] at ha hg
      have z := h3 i a g ha hg
      exact Eq.trans (upd_ne (ne z)) z
theorem PrN.keep {H H' : Hp} {D l : Addr} {fs : List (Int × Int)} {xs : List V} (h : PrN H D fs) (hl : H l = some (.lst xs)) (n : D ≠ l) (e : ∀ b o, b ≠ l → H b = some o → H' b = some o) : PrN H' D fs := by
  obtain ⟨as, h1, h2, h3⟩ := h
  refine ⟨as, e _ _ n h1, h2, fun i a f x y => ?_⟩
  obtain ⟨n1, z⟩ := h3 i a f x y
  exact ⟨n1, e _ _ (fun q => by
    have z : H a = some (.tup _) := z
    rw [q, hl] at z
    cases z) z⟩
theorem PrN.ex {H H' : Hp} {D : Addr} {fs : List (Int × Int)} (h : PrN H D fs) (e : Evl.Ex H H') : PrN H' D fs := by
  obtain ⟨as, h1, h2, h3⟩ := h
  exact ⟨as, e _ _ h1, h2, fun i a f x y => ⟨(h3 i a f x y).1, e _ _ (h3 i a f x y).2⟩⟩
theorem frM_bits {n : Nat} {f : Int × Int} {p q : Int} (h : Fb n f) (q0 : 0 < q) (bp : p.natAbs < 2 ^ 50) (bq : q.natAbs < 2 ^ 50) : Fb (n + 100) (frM f (p, q)) := by
  obtain ⟨h0, h1, h2⟩ := h
  have hp := Int.mul_pos h0 q0
  have a1 := fr_abs1 (a := f.1 * p) hp
  have a2 := fr_abs2 (a := f.1 * p) hp
  have b1 : Bn (n + 50) (f.1 * p) := h1.mul bp
  have b2 : Bn (n + 50) (f.2 * q) := h2.mul bq
  have c1 : Bn (n + 100) (f.1 * p) := b1.le (by omega)
  have c2 : Bn (n + 100) (f.2 * q) := b2.le (by omega)
  exact ⟨fr_pos hp, Nat.lt_of_le_of_lt a1 c1, Nat.lt_of_le_of_lt a2 c2⟩
theorem frA_bits {f g : Int × Int} (h : Fb 2100 f) (h' : Fb 2100 g) : Fb 4300 (frA f g) := by
  obtain ⟨h0, h1, h2⟩ := h
  obtain ⟨g0, g1, g2⟩ := h'
  have hp := Int.mul_pos h0 g0
  have a1 := fr_abs1 (a := f.1 * g.2 + g.1 * f.2) hp
  have a2 := fr_abs2 (a := f.1 * g.2 + g.1 * f.2) hp
  have b1 : Bn 4300 (f.1 * g.2 + g.1 * f.2) := ((h1.mul g2).add (g1.mul h2)).le (by decide)
  have b2 : Bn 4300 (f.2 * g.2) := (h2.mul g2).le (by decide)
  exact ⟨fr_pos hp, Nat.lt_of_le_of_lt a1 b1, Nat.lt_of_le_of_lt a2 b2⟩
theorem sr_le {g : Nat → Int} {N : Nat} : ∀ {i : Nat}, (∀ j, j < i → (g j).natAbs < 2 ^ N) → (sr g i).natAbs ≤ i * 2 ^ N
  | 0, _ => by simp [sr]
  | i + 1, h => by
    have h1 := sr_le (g := g) (N := N) (i := i) fun j hj => h j (by omega)
    have h2 := h i (by omega)
    unfold sr
    rw [Nat.succ_mul i (2 ^ N)]
    omega
theorem sr_bits {g : Nat → Int} {i : Nat} (hi : i ≤ 20) (h : ∀ j, j < i → (g j).natAbs < 2 ^ 2100) : (sr g i).natAbs < 2 ^ 2200 := by
  have h1 := sr_le h
  have h2 := Nat.mul_le_mul_right (2 ^ 2100) hi
  have h3 : (20 : Nat) * 2 ^ 2100 < 2 ^ 2200 := by decide
  omega
theorem pr_at {H : Hp} {l : Addr} {fs : List (Int × Int)} {xs : List V} {i : Nat} {v : V} (h : PrAt H l fs) (hl : H l = some (.lst xs)) (hi : xs[i]? = some v) : ∃ a f, xs[i]? = some (.ref a) ∧ fs[i]? = some f ∧ v = .ref a ∧ Fr H a f.1 f.2 := by
  obtain ⟨as, h1, h2, h3⟩ := h
  rw [hl] at h1
  injection h1 with h1
  injection h1 with h1
  subst h1
  rw [List.getElem?_map] at hi
  cases e : as[i]? with
  | none =>
    rw [e] at hi
    cases hi
  | some a =>
    rw [e] at hi
    have hlt : i < fs.length := by
      have := (List.getElem?_eq_some_iff.mp e).1
      omega
    have hf : fs[i]? = some fs[i] := List.getElem?_eq_getElem hlt
    exact ⟨a, _, by rw [List.getElem?_map, e]; rfl, hf, (Option.some.inj hi).symm, h3 i a _ e hf⟩
theorem take_filter {l : List (Int × Int)} {i : Nat} {f : Int × Int} {p : Int × Int → Bool} (h : l[i]? = some f) : (l.take (i + 1)).filter p = (l.take i).filter p ++ if p f = true then [f] else [] := by
  rw [List.take_add_one, h, List.filter_append]
  by_cases c : p f = true
  · simp [c]
  · simp [c]
theorem sel_ne {ks : List Int} {h : Nat → Int × Int} {n : Nat} (h2 : 2 ≤ ks.length) (hb : ∀ k ∈ ks, 0 ≤ k ∧ k < (n : Int)) : sel ks h n ≠ [] := by
  intro z
  have hm := List.getElem_mem (show 0 < ks.length by omega)
  obtain ⟨k1, k2⟩ := hb _ hm
  have := mem_sel (h := h) (f := h ks[0].toNat) (n := n) (ks := ks) |>.mpr ⟨ks[0].toNat, by omega, by rw [show ((ks[0].toNat : Nat) : Int) = ks[0] by omega]; exact hm, rfl⟩
  rw [z] at this
  cases this
def spStepR : Sp := fun vs H Q _ => ∃ (dd la lb lw : Addr) (d : Deed) (ts : List Tk) (A : List Int) (W u b : Int), vs = [.ref dd, .ref la, .ref lb, .ref lw] ∧ DAt H dd d ∧ PrAt H la (Bh A W) ∧ PrAt H lb (Bh (stepA (ts.map (wid u b)) (A, W) d).1 (stepA (ts.map (wid u b)) (A, W) d).2) ∧ PrAt H lw (ts.map (widP u b)) ∧
  A.length = ts.length ∧ ts.length ≤ 20 ∧ okD ts.length d ∧ OkW 2000 A W ∧ OkW 2100 (stepA (ts.map (wid u b)) (A, W) d).1 (stepA (ts.map (wid u b)) (A, W) d).2 ∧ OkV ts.length (ts.map (wid u b)) ∧ Qn u b ∧ 0 < u ∧ (∀ t ∈ ts, ∀ z, t.1 = some z → 1 ≤ z ∧ z ≤ 1000) ∧ (∀ k a, d = .po k a → a ≤ 1000) ∧ Evl.RetV (.bl true) H Q
section
variable {base : Heap} {mg : Str → Option Value} {K : PySem.W.Frag} {w : World} {P : Program}
theorem ok__step {f : Addr} {fd : FuncData} (F : Fun K "_law_step_right" "_law_step_right" s__law_step_right f fd) (mR : mg "range" = none) (mL : mg "len" = none) (mLs : mg "list" = none) (cA : Cal P w K mg base 3 "_law_wl_plus" p__law_wl_plus spA) (cM : Cal P w K mg base 3 "_law_wl_times" p__law_wl_times spM) (cL : Cal P w K mg base 1 "_law_wl_less" p__law_wl_less spFl) : FnOk P w K mg base CX0 4 f fd p__law_step_right spStepR := by
  refine F.ok sc__law_step_right (fun vs H Q E h => ?_) (fun cdv A outer s H vs Q E hr h => ?_)
  · obtain ⟨dd, la, lb, lw, d, ts, A, W, u, b, rfl, _⟩ := h
    rfl
  · obtain ⟨dd, la, lb, lw, d, ts, Am, W, u, b, rfl, hda, hA, hB, hw, hAl, h20, hok, hO, hO2, hV, hQ, hu, hz, hpo, k⟩ := h
    have nd := sc__law_step_right.nd
    have r1 : Room 1 _ := hr.mono (by decide)
    have r3 : Room 3 _ := hr.mono (by decide)
    have two : 2 ≤ sizeLine := by show 2 ≤ sizeLine; decide
    have four : 4 ≤ sizeLine := by show 4 ≤ sizeLine; decide
    refine ⟨_, pss_cons (ps_set (i := 4) nd rfl (Or.inl rfl) (pe_callTy call_list_of (by rfl) mLs (by decide +kernel) (pa_cons (pv 1) pa_nil)))
      (pss_cons (ps_if (pt_cmpR op_eq (pe_ix ix_tup (pv 0) pe_int (fun _ _ => rfl)) pe_str (nomark _)) (pss_one (ps_asg (pe_c cA r3 (pa_cons (pe_ix ix_list (pv 1) (pe_ix ix_tup (pv 0) pe_int (fun _ _ => rfl)) (fun _ _ => rfl)) (pa_cons (pe_tup (pa_cons (pe_ix ix_tup (pv 0) pe_int (fun _ _ => rfl)) (pa_cons pe_int pa_nil))) pa_nil))) (pg_sub (pv 4) (pe_ix ix_tup (pv 0) pe_int (fun _ _ => rfl)) set_list))) pss_nil)
      (Evl.pss_cut (ps_if (pt_cmpR op_in_seq (pe_ix ix_tup (pv 0) pe_int (fun _ _ => rfl)) (pe_tup (pa_cons pe_str (pa_cons pe_str pa_nil))) (by rfl)) (pss_cons (ps_set (i := 5) nd rfl (Or.inl rfl) (pe_c cM r3 (pa_cons (pe_ix ix_list (pv 1) (pe_ix ix_tup (pv 0) pe_int (fun _ _ => rfl)) (fun _ _ => rfl)) (pa_cons (pe_ix ix_tup (pv 0) (pe_un un_neg pe_int) (fun _ _ => rfl)) pa_nil))))
      (pss_cons (ps_asg (pe_c cA r3 (pa_cons (pe_ix ix_list (pv 1) (pe_ix ix_tup (pv 0) pe_int (fun _ _ => rfl)) (fun _ _ => rfl)) (pa_cons (pe_tup (pa_cons (pe_op op_sub pe_int (pe_ix ix_tup (pv 5) pe_int (fun _ _ => rfl))) (pa_cons (pe_ix ix_tup (pv 5) pe_int (fun _ _ => rfl)) pa_nil))) pa_nil))) (pg_sub (pv 4) (pe_ix ix_tup (pv 0) pe_int (fun _ _ => rfl)) set_list))
      (pss_one (ps_if (pt_cmpR op_eq (pe_ix ix_tup (pv 0) pe_int (fun _ _ => rfl)) pe_str (nomark _)) (pss_one (ps_asg (pe_c cA r3 (pa_cons (pe_ix ix_list (pv 1) (pe_ix ix_tup (pv 0) pe_int (fun _ _ => rfl)) (fun _ _ => rfl)) (pa_cons (pv 5) pa_nil))) (pg_sub (pv 4) (pe_ix ix_tup (pv 0) pe_int (fun _ _ => rfl)) set_list))) pss_nil)))) pss_nil)
      (pss_cons (ps_if (pt_cmpR op_ne (pe_ix ix_tup (pv 0) pe_int (fun _ _ => rfl)) pe_str (nomark _)) (pss_one (ps_ret (pe_cmpR (op_eqD hr.units) (pv 2) (pv 4) (nomark _)))) pss_nil)
      (pss_cons (ps_asg (pe_tup (pa_cons (pe_lst pa_nil) (pa_cons (pe_lst pa_nil) (pa_cons (pe_tup (pa_cons pe_int (pa_cons pe_int pa_nil))) (pa_cons (pe_tup (pa_cons pe_int (pa_cons pe_int pa_nil))) pa_nil))))) (pg_tup rfl (pgs_cons (pg_name (i := 6) nd rfl (Or.inl rfl)) (pgs_cons (pg_name (i := 7) nd rfl (Or.inr rfl)) (pgs_cons (pg_name (i := 8) nd rfl (Or.inl rfl)) (pgs_cons (pg_name (i := 9) nd rfl (Or.inl rfl)) pgs_nil))))))
      (pss_cons (ps_for PassesOwn.never rfl (pi_range1 (by rfl) mR (pa_cons (pe_callB call_len_seq (by rfl) mL PySem.boot_len (pa_cons (pv 3) pa_nil)) pa_nil)) (pg_name (i := 10) nd rfl (Or.inl rfl)) (pss_cons (ps_if (PW.pt (pw_and (pt_cmpR op_notIn_seq (pv 10) (pe_ix ix_tup (pv 0) pe_int (fun _ _ => rfl)) (by rfl)) (pw_and1 (pt_cmpR (op_neD hr.units) (pe_ix ix_list (pv 2) (pv 10) (fun _ _ => rfl)) (pe_ix ix_list (pv 1) (pv 10) (fun _ _ => rfl)) (nomark _))))) (pss_one (ps_ret pe_bl)) pss_nil)
      (pss_one (ps_if (pt_cmpR op_in_seq (pv 10) (pe_ix ix_tup (pv 0) pe_int (fun _ _ => rfl)) (by rfl)) (pss_cons (ps_expr (pe_bm PySem.F.plainAttrs_list PySem.F.slot_list_append PySem.F.type_list_append mt_append (pv 6) (pa_cons (pe_c cM r3 (pa_cons (pe_ix ix_list (pv 1) (pv 10) (fun _ _ => rfl)) (pa_cons (pe_tup (pa_cons (pe_ix ix_tup (pe_ix ix_list (pv 3) (pv 10) (fun _ _ => rfl)) pe_int (fun _ _ => rfl)) (pa_cons (pe_ix ix_tup (pe_ix ix_list (pv 3) (pv 10) (fun _ _ => rfl)) pe_int (fun _ _ => rfl)) pa_nil))) pa_nil))) pa_nil)))
      (pss_cons (ps_expr (pe_bm PySem.F.plainAttrs_list PySem.F.slot_list_append PySem.F.type_list_append mt_append (pv 7) (pa_cons (pe_c cM r3 (pa_cons (pe_ix ix_list (pv 2) (pv 10) (fun _ _ => rfl)) (pa_cons (pe_tup (pa_cons (pe_ix ix_tup (pe_ix ix_list (pv 3) (pv 10) (fun _ _ => rfl)) pe_int (fun _ _ => rfl)) (pa_cons (pe_ix ix_tup (pe_ix ix_list (pv 3) (pv 10) (fun _ _ => rfl)) pe_int (fun _ _ => rfl)) pa_nil))) pa_nil))) pa_nil)))
      (pss_one (ps_set (i := 8) nd rfl (Or.inl rfl) (pe_c cA r3 (pa_cons (pv 8) (pa_cons (pe_c cA r3 (pa_cons (pe_ix ix_list (pv 1) (pv 10) (fun _ _ => rfl)) (pa_cons (pe_tup (pa_cons (pe_op op_sub pe_int (pe_ix ix_tup (pe_ix ix_list (pv 2) (pv 10) (fun _ _ => rfl)) pe_int (fun _ _ => rfl))) (pa_cons (pe_ix ix_tup (pe_ix ix_list (pv 2) (pv 10) (fun _ _ => rfl)) pe_int (fun _ _ => rfl)) pa_nil))) pa_nil))) pa_nil))))))) pss_nil))))
      (pss_cons (ps_if (PW.pt (pw_or (pt_cmpR (op_neD hr.units) (pv 8) (pe_tup (pa_cons pe_int (pa_cons pe_int pa_nil))) (nomark _)) (pw_or1 (pt_cmpR (op_neD hr.units) (pe_lc (own := [("level", 13)]) (g := (gName 13)) (tt := (tTest (tOp (rNeD K) (tVar 13) (tOp (rIxL K) (tVar 7) (tC (.int 0)))))) (te := (tVar 13)) rfl nd (pi_list (pv 7)) (blkOk_by (N := n__law_step_right) (sc := defScope s__law_step_right) (by decide +kernel)) (fun _ _ _ _ _ => (pg_name (i := 13) nd rfl (Or.inl rfl))) (fun _ _ _ _ _ => pts_one (pt_cmpR (op_neD hr.units) (pv 13) (pe_ix ix_list (pv 7) pe_int (fun _ _ => rfl)) (nomark _))) (fun _ _ _ _ _ => (pv 13))) (pe_lst pa_nil) (nomark _))))) (pss_one (ps_ret pe_bl)) pss_nil)
      (pss_cons (ps_setLc (i := 11) (own := [("level", 13)]) (g := (gName 13)) (tt := (tB (tCall spFl [] E0 (tCons (tVar 13) (tCons (tOp (rIxL K) (tVar 7) (tC (.int 0))) tNil))))) (te := (tVar 13)) rfl nd rfl rfl (sw_true rfl rfl rfl (by decide +kernel)) (pi_list (pv 6)) (blkOk_by (N := n__law_step_right) (sc := defScope s__law_step_right) (by decide +kernel)) (fun _ _ _ _ _ => (pg_name (i := 13) nd rfl (Or.inl rfl))) (fun _ _ _ _ _ => pts_one (pt_val (pe_c cL r1 (pa_cons (pv 13) (pa_cons (pe_ix ix_list (pv 7) pe_int (fun _ _ => rfl)) pa_nil))))) (fun _ _ _ _ _ => (pv 13)))
      (pss_cons (ps_setLc (i := 12) (own := [("level", 13)]) (g := (gName 13)) (tt := (tB (tCall spFl [] E0 (tCons (tOp (rIxL K) (tVar 7) (tC (.int 0))) (tCons (tVar 13) tNil))))) (te := (tVar 13)) rfl nd rfl rfl (sw_true rfl rfl rfl (by decide +kernel)) (pi_list (pv 6)) (blkOk_by (N := n__law_step_right) (sc := defScope s__law_step_right) (by decide +kernel)) (fun _ _ _ _ _ => (pg_name (i := 13) nd rfl (Or.inl rfl))) (fun _ _ _ _ _ => pts_one (pt_val (pe_c cL r1 (pa_cons (pe_ix ix_list (pv 7) pe_int (fun _ _ => rfl)) (pa_cons (pv 13) pa_nil))))) (fun _ _ _ _ _ => (pv 13)))
      (pss_one (ps_ret (pe_cmpR op_eq (pe_cmpR (op_eqD hr.units) (pv 11) (pe_lst pa_nil) (nomark _)) (pe_cmpR (op_eqD hr.units) (pv 12) (pe_lst pa_nil) (nomark _)) (nomark _)))))))))))), ?_⟩
    obtain ⟨xs, hxs, hxl, hxi⟩ := pr_items hA
    rw [bh_len] at hxl hxi
    have bits := bh_bits hO
    have W0 := hO.pos
    refine ⟨_, rfl, la, _, rfl, .inl (SqL.of hxs), fun lo hlo => ?_⟩
    have e1 := Evl.Ex.new (o := .lst xs) hlo
    have hO1 : PrAt (upd H lo (.lst xs)) lo (Bh Am W) := by
      obtain ⟨as, h1, h2, h3⟩ := hA
      rw [hxs] at h1
      injection h1 with h1
      injection h1 with h1
      exact ⟨as, by rw [upd_same, h1], h2, fun i a t x y => e1 _ _ (h3 i a t x y)⟩
    have hlo1 : upd H lo (.lst xs) lo = some (.lst xs) := upd_same
    generalize upd H lo (.lst xs) = H1 at e1 hO1 hlo1
    have bl := bh_len Am W
    cases d with
    | po k' a =>
      have hd : H dd = some (.tup [.str "pour", .int k', .int a]) := hda
      obtain ⟨⟨k0, k1⟩, a0⟩ := id hok
      have a1 := hpo k' a rfl
      obtain ⟨j, rfl⟩ : ∃ j : Nat, k' = (j : Int) := ⟨k'.toNat, by omega⟩
      have hj : j < Am.length := by omega
      obtain ⟨x, hx, hFx, mx⟩ := hxi j hj
      obtain ⟨f1, f2, f3⟩ := bits _ mx
      refine ⟨_, rfl, dd, _, _, _, rfl, rfl, SqT.of (e1 _ _ hd), rfl, rfl, _, rfl, if_t (by decide) ?_⟩
      refine ⟨_, rfl, _, rfl, dd, _, _, _, rfl, rfl, SqT.of (e1 _ _ hd), rfl, la, _, _, _, rfl, rfl, SqL.of (e1 _ _ hxs), atI_nat hx, _, rfl, dd, _, _, _, rfl, rfl, SqT.of (e1 _ _ hd), rfl, two, fun t1 ht1 => ?_⟩
      have e2 := Evl.Ex.new (o := .tup [.int a, .int 1]) ht1
      refine ⟨x, t1, _, _, _, _, rfl, (e1.trans e2) _ _ hFx, upd_same, f1, by decide, f2.le (by decide), f3.le (by decide), Nat.lt_of_le_of_lt (show a.natAbs ≤ 1000 by omega) (Nat.lt_of_lt_of_le (show 1000 < 2 ^ 10 by decide) (Nat.pow_le_pow_right (by decide) (by decide))), Nat.lt_of_lt_of_le (show 1 < 2 ^ 10 by decide) (Nat.pow_le_pow_right (by decide) (by decide)), fun t2 H2 ht2 e3 h2 => ?_⟩
      have e23 := e2.trans e3
      have e12 := e1.trans e23
      refine ⟨_, rfl, _, rfl, dd, _, _, _, rfl, rfl, SqT.of (e12 _ _ hd), rfl, lo, _, _, j, rfl, rfl, e23 _ _ hlo1, Evl.ixN_nat (by omega), ?_⟩
      have hO2' := pr_set (j := j) (hO1.ex e23) (e23 _ _ hlo1) (f := frA ((Bh Am W).getD j (0, 1)) (a, 1)) h2 (by omega)
      have e13 := Evl.Ex.mut (o := .lst (xs.set j (.ref t2))) e12 hlo
      generalize upd H2 lo (.lst (xs.set j (.ref t2))) = H3 at hO2' e13
      have heq := owe_po (ws := ts.map (wid u b)) hAl W0 hok
      rw [Int.toNat_natCast] at heq
      rw [← heq] at hO2'
      refine ⟨fun σ H' => Evl.Ex H3 H' ∧ ∃ v, σ = [some (.ref dd), some (.ref la), some (.ref lb), some (.ref lw), some (.ref lo), v, none, none, none, none, none, none, none, none], ⟨_, rfl, dd, _, _, _, rfl, rfl, SqT.of (e13 _ _ hd), rfl, two, fun tq htq => ⟨tq, _, rfl, .inr (SqT.of upd_same), rfl, rfl, _, rfl, if_f (by decide) ⟨Evl.Ex.new htq, _, rfl⟩⟩⟩, ?_⟩
      rintro σ H4 ⟨e4, v5, rfl⟩
      have e14 := e13.trans e4
      refine ⟨_, rfl, dd, _, _, _, rfl, rfl, SqT.of (e14 _ _ hd), rfl, rfl, _, rfl, if_t (by decide) ?_⟩
      refine ⟨_, rfl, _, rfl, prD _, prD _, dp_pr (hB.ex e14), dp_pr (hO2'.ex e4), shp_pr _, shp_pr _, ?_⟩
      rw [eqv_pr, decide_eq_true rfl]
      exact k _ e14
    | sc k' p q =>
      obtain ⟨g, hd, hg⟩ := hda
      obtain ⟨⟨k0, k1⟩, p0, pq, hQp⟩ := id hok
      obtain ⟨q0, qc, bp, bq⟩ := id hQp
      obtain ⟨j, rfl⟩ : ∃ j : Nat, k' = (j : Int) := ⟨k'.toNat, by omega⟩
      have hj : j < Am.length := by omega
      obtain ⟨x, hx, hFx, mx⟩ := hxi j hj
      obtain ⟨f1, f2, f3⟩ := bits _ mx
      refine ⟨_, rfl, dd, _, _, _, rfl, rfl, SqT.of (e1 _ _ hd), rfl, rfl, _, rfl, if_f (by decide) ?_⟩
      refine ⟨fun σ H' => Evl.Ex H H' ∧ (∃ v, σ = [some (.ref dd), some (.ref la), some (.ref lb), some (.ref lw), some (.ref lo), v, none, none, none, none, none, none, none, none]) ∧ PrAt H' lo (Bh (stepA (ts.map (wid u b)) (Am, W) (.sc (j : Int) p q)).1 (stepA (ts.map (wid u b)) (Am, W) (.sc (j : Int) p q)).2), ?_, ?_⟩
      · refine ⟨_, rfl, dd, _, _, _, rfl, rfl, SqT.of (e1 _ _ hd), rfl, two, fun tq htq => ⟨tq, _, rfl, .inr (SqT.of upd_same), rfl, rfl, _, rfl, if_t (by decide) ?_⟩⟩
        have eq := Evl.Ex.new (o := .tup [.str "scoop", .str "move"]) htq
        have e2 := e1.trans eq
        have hlo2 := eq _ _ hlo1
        have hO2 := hO1.ex eq
        generalize upd H1 tq (.tup [.str "scoop", .str "move"]) = H2 at eq e2 hlo2 hO2
        refine ⟨_, rfl, _, rfl, dd, _, _, _, rfl, rfl, SqT.of (e2 _ _ hd), rfl, la, _, _, _, rfl, rfl, SqL.of (e2 _ _ hxs), atI_nat hx, _, rfl, _, rfl, dd, _, _, _, rfl, rfl, SqT.of (e2 _ _ hd), rfl, x, g, _, _, p, q, rfl, e2 _ _ hFx, e2 _ _ hg, f1, q0, f2.le (by decide), f3.le (by decide), (show Bn 50 p from bp).le (by decide), (show Bn 50 q from bq).le (by decide), fun t1 H3 ht1 e3 h1 => ?_⟩
        have heq := owe_sc (ws := ts.map (wid u b)) hAl W0 hok
        rw [Int.toNat_natCast] at heq
        have e23 := e2.trans e3
        have h1 : H3 t1 = some (.tup [.int (frM ((Bh Am W).getD j (0, 1)) (p, q)).1, .int (frM ((Bh Am W).getD j (0, 1)) (p, q)).2]) := h1
        obtain ⟨o1, o2, o3⟩ : Fb 2100 (frM ((Bh Am W).getD j (0, 1)) (p, q)) := frM_bits (n := 2000) ⟨f1, f2, f3⟩ q0 bp bq
        generalize frM ((Bh Am W).getD j (0, 1)) (p, q) = o at *
        refine ⟨_, rfl, _, rfl, dd, _, _, _, rfl, rfl, SqT.of (e23 _ _ hd), rfl, la, _, _, _, rfl, rfl, SqL.of (e23 _ _ hxs), atI_nat hx, _, rfl, t1, _, _, _, rfl, rfl, SqT.of h1, rfl, _, _, rfl, rfl, _, rfl, t1, _, _, _, rfl, rfl, SqT.of h1, rfl, two, fun t2 ht2 => ?_⟩
        have e4 := Evl.Ex.new (o := .tup [.int (0 - o.1), .int o.2]) ht2
        have no : Bn 2100 (0 - o.1) := by
          have h : o.1.natAbs < 2 ^ 2100 := o2
          show (0 - o.1).natAbs < 2 ^ 2100
          rw [Int.zero_sub, Int.natAbs_neg]
          exact h
        refine ⟨x, t2, _, _, _, _, rfl, (e23.trans e4) _ _ hFx, upd_same, f1, o1, f2.le (by decide), f3.le (by decide), no.le (by decide), o3.le (by decide), fun t3 H4 ht3 e5 h3 => ?_⟩
        have e35 := e3.trans (e4.trans e5)
        have e25 := e2.trans e35
        refine ⟨_, rfl, _, rfl, dd, _, _, _, rfl, rfl, SqT.of (e25 _ _ hd), rfl, lo, _, _, j, rfl, rfl, e35 _ _ hlo2, Evl.ixN_nat (by omega), ?_⟩
        have hO5 := pr_set (j := j) (hO2.ex e35) (e35 _ _ hlo2) (f := frA ((Bh Am W).getD j (0, 1)) (0 - o.1, o.2)) h3 (by omega)
        have e05 := Evl.Ex.mut (o := .lst (xs.set j (.ref t3))) e25 hlo
        have hlo5 : upd H4 lo (.lst (xs.set j (.ref t3))) lo = some (.lst (xs.set j (.ref t3))) := upd_same
        have h15 : upd H4 lo (.lst (xs.set j (.ref t3))) t1 = some (.tup [.int o.1, .int o.2]) := Eq.trans (upd_ne (fun z => by have h9 := (e4.trans e5) _ _ h1; rw [z, e35 _ _ hlo2] at h9; cases h9)) ((e4.trans e5) _ _ h1)
        generalize upd H4 lo (.lst (xs.set j (.ref t3))) = H5 at hO5 e05 hlo5 h15
        refine ⟨_, rfl, dd, _, _, _, rfl, rfl, SqT.of (e05 _ _ hd), rfl, rfl, _, rfl, if_f (by decide) ?_⟩
        exact ⟨e05, ⟨_, rfl⟩, (by rw [heq]; exact hO5)⟩
      · rintro σ H4 ⟨e14, ⟨v5, rfl⟩, hO4⟩
        refine ⟨_, rfl, dd, _, _, _, rfl, rfl, SqT.of (e14 _ _ hd), rfl, rfl, _, rfl, if_t (by decide) ?_⟩
        refine ⟨_, rfl, _, rfl, prD _, prD _, dp_pr (hB.ex e14), dp_pr hO4, shp_pr _, shp_pr _, ?_⟩
        rw [eqv_pr, decide_eq_true rfl]
        exact k _ e14
    | mv k' m p q =>
      obtain ⟨g, hd, hg⟩ := hda
      obtain ⟨⟨k0, k1⟩, ⟨m0, m1⟩, km, p0, pq, hQp⟩ := id hok
      obtain ⟨i, rfl⟩ : ∃ j : Nat, m = (j : Int) := ⟨m.toNat, by omega⟩
      have hi : i < Am.length := by omega
      obtain ⟨y, hy, hFy, my⟩ := hxi i hi
      obtain ⟨g1, g2, g3⟩ := bits _ my
      obtain ⟨q0, qc, bp, bq⟩ := id hQp
      obtain ⟨j, rfl⟩ : ∃ j : Nat, k' = (j : Int) := ⟨k'.toNat, by omega⟩
      have hj : j < Am.length := by omega
      obtain ⟨x, hx, hFx, mx⟩ := hxi j hj
      obtain ⟨f1, f2, f3⟩ := bits _ mx
      refine ⟨_, rfl, dd, _, _, _, rfl, rfl, SqT.of (e1 _ _ hd), rfl, rfl, _, rfl, if_f (by decide) ?_⟩
      refine ⟨fun σ H' => Evl.Ex H H' ∧ (∃ v, σ = [some (.ref dd), some (.ref la), some (.ref lb), some (.ref lw), some (.ref lo), v, none, none, none, none, none, none, none, none]) ∧ PrAt H' lo (Bh (stepA (ts.map (wid u b)) (Am, W) (.mv (j : Int) (i : Int) p q)).1 (stepA (ts.map (wid u b)) (Am, W) (.mv (j : Int) (i : Int) p q)).2), ?_, ?_⟩
      · refine ⟨_, rfl, dd, _, _, _, rfl, rfl, SqT.of (e1 _ _ hd), rfl, two, fun tq htq => ⟨tq, _, rfl, .inr (SqT.of upd_same), rfl, rfl, _, rfl, if_t (by decide) ?_⟩⟩
        have eq := Evl.Ex.new (o := .tup [.str "scoop", .str "move"]) htq
        have e2 := e1.trans eq
        have hlo2 := eq _ _ hlo1
        have hO2 := hO1.ex eq
        generalize upd H1 tq (.tup [.str "scoop", .str "move"]) = H2 at eq e2 hlo2 hO2
        refine ⟨_, rfl, _, rfl, dd, _, _, _, rfl, rfl, SqT.of (e2 _ _ hd), rfl, la, _, _, _, rfl, rfl, SqL.of (e2 _ _ hxs), atI_nat hx, _, rfl, _, rfl, dd, _, _, _, rfl, rfl, SqT.of (e2 _ _ hd), rfl, x, g, _, _, p, q, rfl, e2 _ _ hFx, e2 _ _ hg, f1, q0, f2.le (by decide), f3.le (by decide), (show Bn 50 p from bp).le (by decide), (show Bn 50 q from bq).le (by decide), fun t1 H3 ht1 e3 h1 => ?_⟩
        have heq := owe_mv (ws := ts.map (wid u b)) hAl W0 hok
        rw [Int.toNat_natCast, Int.toNat_natCast] at heq
        have e23 := e2.trans e3
        have h1 : H3 t1 = some (.tup [.int (frM ((Bh Am W).getD j (0, 1)) (p, q)).1, .int (frM ((Bh Am W).getD j (0, 1)) (p, q)).2]) := h1
        obtain ⟨o1, o2, o3⟩ : Fb 2100 (frM ((Bh Am W).getD j (0, 1)) (p, q)) := frM_bits (n := 2000) ⟨f1, f2, f3⟩ q0 bp bq
        generalize frM ((Bh Am W).getD j (0, 1)) (p, q) = o at *
        refine ⟨_, rfl, _, rfl, dd, _, _, _, rfl, rfl, SqT.of (e23 _ _ hd), rfl, la, _, _, _, rfl, rfl, SqL.of (e23 _ _ hxs), atI_nat hx, _, rfl, t1, _, _, _, rfl, rfl, SqT.of h1, rfl, _, _, rfl, rfl, _, rfl, t1, _, _, _, rfl, rfl, SqT.of h1, rfl, two, fun t2 ht2 => ?_⟩
        have e4 := Evl.Ex.new (o := .tup [.int (0 - o.1), .int o.2]) ht2
        have no : Bn 2100 (0 - o.1) := by
          have h : o.1.natAbs < 2 ^ 2100 := o2
          show (0 - o.1).natAbs < 2 ^ 2100
          rw [Int.zero_sub, Int.natAbs_neg]
          exact h
        refine ⟨x, t2, _, _, _, _, rfl, (e23.trans e4) _ _ hFx, upd_same, f1, o1, f2.le (by decide), f3.le (by decide), no.le (by decide), o3.le (by decide), fun t3 H4 ht3 e5 h3 => ?_⟩
        have e35 := e3.trans (e4.trans e5)
        have e25 := e2.trans e35
        refine ⟨_, rfl, _, rfl, dd, _, _, _, rfl, rfl, SqT.of (e25 _ _ hd), rfl, lo, _, _, j, rfl, rfl, e35 _ _ hlo2, Evl.ixN_nat (by omega), ?_⟩
        have hO5 := pr_set (j := j) (hO2.ex e35) (e35 _ _ hlo2) (f := frA ((Bh Am W).getD j (0, 1)) (0 - o.1, o.2)) h3 (by omega)
        have e05 := Evl.Ex.mut (o := .lst (xs.set j (.ref t3))) e25 hlo
        have hlo5 : upd H4 lo (.lst (xs.set j (.ref t3))) lo = some (.lst (xs.set j (.ref t3))) := upd_same
        have h15 : upd H4 lo (.lst (xs.set j (.ref t3))) t1 = some (.tup [.int o.1, .int o.2]) := Eq.trans (upd_ne (fun z => by have h9 := (e4.trans e5) _ _ h1; rw [z, e35 _ _ hlo2] at h9; cases h9)) ((e4.trans e5) _ _ h1)
        generalize upd H4 lo (.lst (xs.set j (.ref t3))) = H5 at hO5 e05 hlo5 h15
        refine ⟨_, rfl, dd, _, _, _, rfl, rfl, SqT.of (e05 _ _ hd), rfl, rfl, _, rfl, if_t (by decide) ?_⟩
        refine ⟨_, rfl, _, rfl, dd, _, _, _, rfl, rfl, SqT.of (e05 _ _ hd), rfl, la, _, _, _, rfl, rfl, SqL.of (e05 _ _ hxs), atI_nat hy, _, rfl, y, t1, _, _, _, _, rfl, e05 _ _ hFy, h15, g1, o1, g2.le (by decide), g3.le (by decide), o2.le (by decide), o3.le (by decide), fun t4 H6 ht4 e6 h4 => ?_⟩
        refine ⟨_, rfl, _, rfl, dd, _, _, _, rfl, rfl, SqT.of ((e05.trans e6) _ _ hd), rfl, lo, _, _, i, rfl, rfl, e6 _ _ hlo5, Evl.ixN_nat (by rw [List.length_set]; omega), ?_⟩
        have hO7 := pr_set (j := i) (hO5.ex e6) (e6 _ _ hlo5) (f := frA ((Bh Am W).getD i (0, 1)) o) h4 (by rw [List.length_set]; omega)
        exact ⟨Evl.Ex.mut (e05.trans e6) hlo, ⟨_, rfl⟩, (by rw [heq]; exact hO7)⟩
      · rintro σ H4 ⟨e14, ⟨v5, rfl⟩, hO4⟩
        refine ⟨_, rfl, dd, _, _, _, rfl, rfl, SqT.of (e14 _ _ hd), rfl, rfl, _, rfl, if_t (by decide) ?_⟩
        refine ⟨_, rfl, _, rfl, prD _, prD _, dp_pr (hB.ex e14), dp_pr hO4, shp_pr _, shp_pr _, ?_⟩
        rw [eqv_pr, decide_eq_true rfl]
        exact k _ e14
    | un k' m =>
      have hd : H dd = some (.tup [.str "unless", .int k', .int m]) := hda
      refine ⟨_, rfl, dd, _, _, _, rfl, rfl, SqT.of (e1 _ _ hd), rfl, rfl, _, rfl, if_f (by decide) ?_⟩
      refine ⟨fun σ H' => Evl.Ex H1 H' ∧ ∃ v, σ = [some (.ref dd), some (.ref la), some (.ref lb), some (.ref lw), some (.ref lo), v, none, none, none, none, none, none, none, none], ⟨_, rfl, dd, _, _, _, rfl, rfl, SqT.of (e1 _ _ hd), rfl, two, fun tq htq => ⟨tq, _, rfl, .inr (SqT.of upd_same), rfl, rfl, _, rfl, if_f (by decide) ⟨Evl.Ex.new htq, _, rfl⟩⟩⟩, ?_⟩
      rintro σ H4 ⟨e4, v5, rfl⟩
      have e14 := e1.trans e4
      refine ⟨_, rfl, dd, _, _, _, rfl, rfl, SqT.of (e14 _ _ hd), rfl, rfl, _, rfl, if_t (by decide) ?_⟩
      refine ⟨_, rfl, _, rfl, prD _, prD _, dp_pr (hB.ex e14), dp_pr (hO1.ex e4), shp_pr _, shp_pr _, ?_⟩
      rw [eqv_pr, decide_eq_true (show Bh (stepA (ts.map (wid u b)) (Am, W) (.un k' m)).1 (stepA (ts.map (wid u b)) (Am, W) (.un k' m)).2 = Bh Am W from rfl)]
      exact k _ e14
    | op ks =>
      obtain ⟨l, hd, hl⟩ := hda
      obtain ⟨h2k, hk20, hasc, hks⟩ := id hok
      have ndk := (asc_lt hasc).1
      have hbk : ∀ k ∈ ks, 0 ≤ k ∧ k < (Am.length : Int) := by
        rw [hAl]
        exact hks
      have wl : (ts.map (wid u b)).length = Am.length := by rw [List.length_map, hAl]
      have wp := hV.pos
      have ok2 : okK (ts.map (wid u b)).length ks := by
        rw [hV.len]
        exact ⟨hk20, hks⟩
      have S0 : 0 < (pick (ts.map (wid u b)) ks).sum := by
        refine sum_pos (fun z => ?_) fun x hx => hV.pos x (pick_mem ok2 hx)
        have := congrArg List.length z
        rw [pick_len, List.length_nil] at this
        omega
      have b0 := hQ.1
      have ev := open_even (A := Am) (W := W) (b := b) wl ndk hbk W0 b0 wp S0
      have WS0 := Int.mul_pos W0 S0
      have hB' : PrAt H lb (Bh (openA Am (ts.map (wid u b)) ks) (W * (pick (ts.map (wid u b)) ks).sum)) := hB
      have hO2' : OkW 2100 (openA Am (ts.map (wid u b)) ks) (W * (pick (ts.map (wid u b)) ks).sum) := hO2
      have bits2 := bh_bits hO2'
      have bits3 := wp_bits hu hQ hz
      obtain ⟨ys, hys, hyl, hyi⟩ := pr_items hB'
      obtain ⟨zs, hzs, hzl, hzi⟩ := pr_items hw
      rw [bh_len, openA_len] at hyl hyi
      rw [List.length_map] at hzl hzi
      have inv : ∀ i, i < ts.length → (((ts.map (widP u b)).getD i (0, 1)).2, ((ts.map (widP u b)).getD i (0, 1)).1) = fr b ((ts.map (wid u b)).getD i 0) := fun i hi => by
        rw [getD_map _ _ _ _ hi, getD_map _ _ _ _ hi]
        exact widP_inv hQ hu fun z' h => (hz _ (List.getElem_mem hi) z' h).1
      have wpos : ∀ i, i < ts.length → 0 < (ts.map (wid u b)).getD i 0 := fun i hi => wp _ (getD_mem' (by rw [List.length_map]; exact hi))
      have fB : ∀ i, i < ts.length → frM ((Bh Am W).getD i (0, 1)) (((ts.map (widP u b)).getD i (0, 1)).2, ((ts.map (widP u b)).getD i (0, 1)).1) = fr (Am.getD i 0 * b) (W * (ts.map (wid u b)).getD i 0) := fun i hi => by
        rw [inv i hi, bh_get (by omega), frM_fr W0 (wpos i hi)]
      have fA : ∀ i, i < ts.length → (i : Int) ∈ ks → frM ((Bh (openA Am (ts.map (wid u b)) ks) (W * (pick (ts.map (wid u b)) ks).sum)).getD i (0, 1)) (((ts.map (widP u b)).getD i (0, 1)).2, ((ts.map (widP u b)).getD i (0, 1)).1) = fr ((pick Am ks).sum * b) (W * (pick (ts.map (wid u b)) ks).sum) := fun i hi hm => by
        rw [inv i hi, bh_get (by rw [openA_len]; omega), open_get (by omega), if_pos hm, frM_fr WS0 (wpos i hi)]
        have h := fr_sc (a := (pick Am ks).sum * b) (b := W * (pick (ts.map (wid u b)) ks).sum) (k := (ts.map (wid u b)).getD i 0) WS0 (wpos i hi)
        rw [← h]
        congr 1
        grind
      have fE : ∀ i, i < ts.length → ¬ (i : Int) ∈ ks → (Bh (openA Am (ts.map (wid u b)) ks) (W * (pick (ts.map (wid u b)) ks).sum)).getD i (0, 1) = (Bh Am W).getD i (0, 1) := fun i hi hm => by
        rw [bh_get (by rw [openA_len]; omega), open_get (by omega), if_neg hm, bh_get (by omega)]
        exact fr_sc W0 S0
      have fT : ∀ i, i < ts.length → (i : Int) ∈ ks → ∀ G : Int, frA (fr G (W * (pick (ts.map (wid u b)) ks).sum)) (frA ((Bh Am W).getD i (0, 1)) (0 - ((Bh (openA Am (ts.map (wid u b)) ks) (W * (pick (ts.map (wid u b)) ks).sum)).getD i (0, 1)).1, ((Bh (openA Am (ts.map (wid u b)) ks) (W * (pick (ts.map (wid u b)) ks).sum)).getD i (0, 1)).2)) = fr (G + opG Am (ts.map (wid u b)) ks i) (W * (pick (ts.map (wid u b)) ks).sum) := fun i hi hm G => by
        rw [bh_get (show i < (openA Am (ts.map (wid u b)) ks).length by rw [openA_len]; omega), open_get (by omega), if_pos hm, bh_get (by omega), fr_neg WS0, frA_fr W0 WS0, frA_fr WS0 (Int.mul_pos W0 WS0)]
        unfold opG
        rw [if_pos hm]
        refine fr_eq (Int.mul_pos WS0 (Int.mul_pos W0 WS0)) WS0 ?_
        grind
      have gb : ∀ i, Bn 2300 (fr (sr (opG Am (ts.map (wid u b)) ks) i) (W * (pick (ts.map (wid u b)) ks).sum)).1 → True := fun _ _ => trivial
      have s0 := opG_sum (A := Am) (ws := ts.map (wid u b)) ndk hbk
      have bG : ∀ i, i ≤ ts.length → (sr (opG Am (ts.map (wid u b)) ks) i).natAbs < 2 ^ 2200 := ?bG
      generalize hL : fr ((pick Am ks).sum * b) (W * (pick (ts.map (wid u b)) ks).sum) = Lv at *
      have bL : Fb 2200 Lv := ?bL
      refine ⟨_, rfl, dd, _, _, _, rfl, rfl, SqT.of (e1 _ _ hd), rfl, rfl, _, rfl, if_f (by decide) ?_⟩
      refine ⟨fun σ H' => Evl.Ex H1 H' ∧ ∃ v, σ = [some (.ref dd), some (.ref la), some (.ref lb), some (.ref lw), some (.ref lo), v, none, none, none, none, none, none, none, none], ⟨_, rfl, dd, _, _, _, rfl, rfl, SqT.of (e1 _ _ hd), rfl, two, fun tq htq => ⟨tq, _, rfl, .inr (SqT.of upd_same), rfl, rfl, _, rfl, if_f (by decide) ⟨Evl.Ex.new htq, _, rfl⟩⟩⟩, ?_⟩
      rintro σ H4 ⟨e4, v5, rfl⟩
      have e14 := e1.trans e4
      refine ⟨_, rfl, dd, _, _, _, rfl, rfl, SqT.of (e14 _ _ hd), rfl, rfl, _, rfl, if_f (by decide) ?_⟩
      refine ⟨Nat.zero_le _, fun lB hlB => ⟨Nat.zero_le _, fun lA hlA => ⟨two, fun t0 ht0 => ⟨two, fun t1 ht1 => ⟨four, fun tt htt => ⟨tt, _, rfl, SqT.of upd_same, rfl, _, _, rfl, _, _, rfl, _, _, rfl, _, _, rfl, rfl, ?_⟩⟩⟩⟩⟩⟩
      have g1 := Evl.Ex.new (o := .lst []) hlB
      have g2 := Evl.Ex.new (o := .lst []) hlA
      have g3 := Evl.Ex.new (o := .tup [.int 0, .int 1]) ht0
      have g4 := Evl.Ex.new (o := .tup [.int 0, .int 1]) ht1
      have g5 := Evl.Ex.new (o := .tup [.ref lB, .ref lA, .ref t0, .ref t1]) htt
      have lBH : H lB = none := Evl.fresh_back e14 hlB
      have lAH : H lA = none := Evl.fresh_back (e14.trans g1) hlA
      have nAB : lA ≠ lB := fun z => by
        rw [z, upd_same] at hlA
        cases hlA
      have hB5 := ((g2.trans g3).trans (g4.trans g5)) _ _ (show upd H4 lB (.lst []) lB = some (.lst []) from upd_same)
      have hA5 := (g3.trans (g4.trans g5)) _ _ (show upd (upd H4 lB (.lst [])) lA (.lst []) lA = some (.lst []) from upd_same)
      have ht5 := (g4.trans g5) _ _ (show upd (upd (upd H4 lB (.lst [])) lA (.lst [])) t0 (.tup [.int 0, .int 1]) t0 = some (.tup [.int 0, .int 1]) from upd_same)
      have e15 := e14.trans ((g1.trans g2).trans (g3.trans (g4.trans g5)))
      generalize upd (upd (upd (upd (upd H4 lB (.lst [])) lA (.lst [])) t0 (.tup [.int 0, .int 1])) t1 (.tup [.int 0, .int 1])) tt (.tup [.ref lB, .ref lA, .ref t0, .ref t1]) = H5 at hB5 hA5 ht5 e15
      refine ⟨_, rfl, lw, _, rfl, .inl (SqL.of (e15 _ _ hzs)), _, rfl, by omega, by omega, ?_⟩
      rw [hzl, Int.toNat_natCast]
      refine for_range (n := ts.length) (fun i σ H' => ∃ (t8 : Addr) (v10 : Option V), σ = [some (.ref dd), some (.ref la), some (.ref lb), some (.ref lw), some (.ref lo), v5, some (.ref lB), some (.ref lA), some (.ref t8), some (.ref t1), v10, none, none, none] ∧ Evl.Ex H H' ∧ PrN H' lB (sel ks (fun i => fr (Am.getD i 0 * b) (W * (ts.map (wid u b)).getD i 0)) i) ∧ PrN H' lA (sel ks (fun _ => Lv) i) ∧ Fr H' t8 (fr (sr (opG Am (ts.map (wid u b)) ks) i) (W * (pick (ts.map (wid u b)) ks).sum)).1 (fr (sr (opG Am (ts.map (wid u b)) ks) i) (W * (pick (ts.map (wid u b)) ks).sum)).2)
        ⟨t0, none, rfl, e15, PrN.start hB5, PrN.start hA5, by rw [show sr (opG Am (ts.map (wid u b)) ks) 0 = 0 from rfl, fr_0 WS0]; exact ht5⟩ ?_ ?_
      · rintro i σ H6 hi ⟨t8, v10, rfl, e6, hNB, hNA, hF8⟩
        rw [Int.zero_add]
        have hiA : i < Am.length := by omega
        obtain ⟨x, hx, hFx, mx⟩ := hxi i hiA
        obtain ⟨y, hy, hFy, my⟩ := hyi i hiA
        obtain ⟨z, hz1, hFz, mz⟩ := hzi i hi
        obtain ⟨f1, f2, f3⟩ := bits _ mx
        obtain ⟨q1, q2, q3⟩ := bits2 _ my
        obtain ⟨w1, w2, w3, w4⟩ := bits3 _ mz
        have hl6 := e6 _ _ hl
        refine ⟨_, rfl, _, rfl, dd, _, _, _, rfl, rfl, SqT.of (e6 _ _ hd), rfl, l, _, rfl, .inl (SqL.of hl6), rfl, flat_ints ks, _, rfl, ?_⟩
        have em : (if true = true then !inV (.int (i : Nat)) (iV ks) else inV (.int (i : Nat)) (iV ks)) = !decide (((i : Nat) : Int) ∈ ks) := by
          rw [if_pos rfl, inV_ints]
        rw [em]
        by_cases hm : ((i : Nat) : Int) ∈ ks
        · refine if_f (by rw [decide_eq_true hm]; rfl) (if_f rfl ?_)
          refine ⟨_, rfl, _, rfl, dd, _, _, _, rfl, rfl, SqT.of (e6 _ _ hd), rfl, l, _, rfl, .inl (SqL.of hl6), rfl, flat_ints ks, _, rfl, if_t ((inV_ints _ _).trans (decide_eq_true hm)) ?_⟩
          refine ⟨_, rfl, .inl ⟨rfl, _, SqL.of hNB.choose_spec.1⟩, ?_⟩
          refine ⟨_, rfl, _, rfl, la, _, _, _, rfl, rfl, SqL.of (e6 _ _ hxs), atI_nat hx, _, rfl, _, rfl, lw, _, _, _, rfl, rfl, SqL.of (e6 _ _ hzs), atI_nat hz1, z, _, _, _, rfl, rfl, SqT.of (e6 _ _ hFz), rfl, _, rfl, _, rfl, lw, _, _, _, rfl, rfl, SqL.of (e6 _ _ hzs), atI_nat hz1, z, _, _, _, rfl, rfl, SqT.of (e6 _ _ hFz), rfl, two, fun t2 ht2 => ?_⟩
          have g7 := Evl.Ex.new (o := .tup [.int ((ts.map (widP u b)).getD i (0, 1)).2, .int ((ts.map (widP u b)).getD i (0, 1)).1]) ht2
          refine ⟨x, t2, _, _, _, _, rfl, (e6.trans g7) _ _ hFx, upd_same, f1, w1, f2.le (by decide), f3.le (by decide), w4.le (by decide), w3.le (by decide), fun t3 H7 ht3 g8 h3 => ?_⟩
          have h3 : Fr H7 t3 (frM ((Bh Am W).getD i (0, 1)) (((ts.map (widP u b)).getD i (0, 1)).2, ((ts.map (widP u b)).getD i (0, 1)).1)).1 (frM ((Bh Am W).getD i (0, 1)) (((ts.map (widP u b)).getD i (0, 1)).2, ((ts.map (widP u b)).getD i (0, 1)).1)).2 := h3
          rw [fB i hi] at h3
          have g78 := g7.trans g8
          obtain ⟨accB, a1, a2, a3, a4⟩ := hNB.more g78 h3 (Nat.le_trans (sel_len _ _ _) (by omega))
          refine ⟨lB, accB, _, rfl, rfl, a1, a2, ?_⟩
          have hNA7 : PrN (upd H7 lB (.lst (accB ++ [.ref t3]))) lA (sel ks (fun _ => Lv) i) := (hNA.ex g78).keep a1 nAB fun b o n h => Eq.trans (upd_ne n) h
          have hF87 : Fr (upd H7 lB (.lst (accB ++ [.ref t3]))) t8 _ _ := Eq.trans (upd_ne (fun q => by have h := g78 _ _ hF8; rw [q, a1] at h; cases h)) (g78 _ _ hF8)
          have e8 : Evl.Ex H (upd H7 lB (.lst (accB ++ [.ref t3]))) := Evl.Ex.mut (e6.trans g78) lBH
          generalize upd H7 lB (.lst (accB ++ [.ref t3])) = H8 at a4 hNA7 hF87 e8
          refine ⟨_, rfl, .inl ⟨rfl, _, SqL.of hNA7.choose_spec.1⟩, ?_⟩
          refine ⟨_, rfl, _, rfl, lb, _, _, _, rfl, rfl, SqL.of (e8 _ _ hys), atI_nat hy, _, rfl, _, rfl, lw, _, _, _, rfl, rfl, SqL.of (e8 _ _ hzs), atI_nat hz1, z, _, _, _, rfl, rfl, SqT.of (e8 _ _ hFz), rfl, _, rfl, _, rfl, lw, _, _, _, rfl, rfl, SqL.of (e8 _ _ hzs), atI_nat hz1, z, _, _, _, rfl, rfl, SqT.of (e8 _ _ hFz), rfl, two, fun t4 ht4 => ?_⟩
          have g9 := Evl.Ex.new (o := .tup [.int ((ts.map (widP u b)).getD i (0, 1)).2, .int ((ts.map (widP u b)).getD i (0, 1)).1]) ht4
          refine ⟨y, t4, _, _, _, _, rfl, (e8.trans g9) _ _ hFy, upd_same, q1, w1, q2.le (by decide), q3.le (by decide), w4.le (by decide), w3.le (by decide), fun t5 H9 ht5' g10 h5 => ?_⟩
          have h5 : Fr H9 t5 (frM ((Bh (openA Am (ts.map (wid u b)) ks) (W * (pick (ts.map (wid u b)) ks).sum)).getD i (0, 1)) (((ts.map (widP u b)).getD i (0, 1)).2, ((ts.map (widP u b)).getD i (0, 1)).1)).1 (frM ((Bh (openA Am (ts.map (wid u b)) ks) (W * (pick (ts.map (wid u b)) ks).sum)).getD i (0, 1)) (((ts.map (widP u b)).getD i (0, 1)).2, ((ts.map (widP u b)).getD i (0, 1)).1)).2 := h5
          rw [fA i hi hm] at h5
          have g910 := g9.trans g10
          obtain ⟨accA, c1, c2, c3, c4⟩ := hNA7.more g910 h5 (Nat.le_trans (sel_len _ _ _) (by omega))
          refine ⟨lA, accA, _, rfl, rfl, c1, c2, ?_⟩
          have hNB9 : PrN (upd H9 lA (.lst (accA ++ [.ref t5]))) lB _ := (a4.ex g910).keep c1 nAB.symm fun b o n h => Eq.trans (upd_ne n) h
          have hF89 : Fr (upd H9 lA (.lst (accA ++ [.ref t5]))) t8 _ _ := Eq.trans (upd_ne (fun q => by have h := g910 _ _ hF87; rw [q, c1] at h; cases h)) (g910 _ _ hF87)
          have e10 : Evl.Ex H (upd H9 lA (.lst (accA ++ [.ref t5]))) := Evl.Ex.mut (e8.trans g910) lAH
          generalize upd H9 lA (.lst (accA ++ [.ref t5])) = H10 at c4 hNB9 hF89 e10
          refine ⟨_, rfl, _, rfl, _, rfl, la, _, _, _, rfl, rfl, SqL.of (e10 _ _ hxs), atI_nat hx, _, rfl, _, rfl, lb, _, _, _, rfl, rfl, SqL.of (e10 _ _ hys), atI_nat hy, y, _, _, _, rfl, rfl, SqT.of (e10 _ _ hFy), rfl, _, _, rfl, rfl, _, rfl, _, rfl, lb, _, _, _, rfl, rfl, SqL.of (e10 _ _ hys), atI_nat hy, y, _, _, _, rfl, rfl, SqT.of (e10 _ _ hFy), rfl, two, fun t6 ht6 => ?_⟩
          have g11 := Evl.Ex.new (o := .tup [.int (0 - ((Bh (openA Am (ts.map (wid u b)) ks) (W * (pick (ts.map (wid u b)) ks).sum)).getD i (0, 1)).1), .int ((Bh (openA Am (ts.map (wid u b)) ks) (W * (pick (ts.map (wid u b)) ks).sum)).getD i (0, 1)).2]) ht6
          have nq : Bn 2100 (0 - ((Bh (openA Am (ts.map (wid u b)) ks) (W * (pick (ts.map (wid u b)) ks).sum)).getD i (0, 1)).1) := by
            have h : ((Bh (openA Am (ts.map (wid u b)) ks) (W * (pick (ts.map (wid u b)) ks).sum)).getD i (0, 1)).1.natAbs < 2 ^ 2100 := q2
            show (0 - _ : Int).natAbs < 2 ^ 2100
            rw [Int.zero_sub, Int.natAbs_neg]
            exact h
          refine ⟨x, t6, _, _, _, _, rfl, (e10.trans g11) _ _ hFx, upd_same, f1, q1, f2.le (by decide), f3.le (by decide), nq.le (by decide), q3.le (by decide), fun t7 H11 ht7 g12 h7 => ?_⟩
          have g1112 := g11.trans g12
          have h7 : Fr H11 t7 (frA ((Bh Am W).getD i (0, 1)) (0 - ((Bh (openA Am (ts.map (wid u b)) ks) (W * (pick (ts.map (wid u b)) ks).sum)).getD i (0, 1)).1, ((Bh (openA Am (ts.map (wid u b)) ks) (W * (pick (ts.map (wid u b)) ks).sum)).getD i (0, 1)).2)).1 (frA ((Bh Am W).getD i (0, 1)) (0 - ((Bh (openA Am (ts.map (wid u b)) ks) (W * (pick (ts.map (wid u b)) ks).sum)).getD i (0, 1)).1, ((Bh (openA Am (ts.map (wid u b)) ks) (W * (pick (ts.map (wid u b)) ks).sum)).getD i (0, 1)).2)).2 := h7
          have bI : Fb 4300 (frA ((Bh Am W).getD i (0, 1)) (0 - ((Bh (openA Am (ts.map (wid u b)) ks) (W * (pick (ts.map (wid u b)) ks).sum)).getD i (0, 1)).1, ((Bh (openA Am (ts.map (wid u b)) ks) (W * (pick (ts.map (wid u b)) ks).sum)).getD i (0, 1)).2)) := frA_bits ⟨f1, f2.le (by decide), f3.le (by decide)⟩ ⟨q1, nq, q3⟩
          obtain ⟨i1, i2, i3⟩ := bI
          have fp := fr_pos (u := sr (opG Am (ts.map (wid u b)) ks) i) WS0
          have fb1 := fr_abs1 (a := sr (opG Am (ts.map (wid u b)) ks) i) WS0
          have fb2 := fr_abs2 (a := sr (opG Am (ts.map (wid u b)) ks) i) WS0
          have bWS : (W * (pick (ts.map (wid u b)) ks).sum).natAbs < 2 ^ 2100 := hO2'.bW
          refine ⟨t8, t7, _, _, _, _, rfl, g1112 _ _ hF89, h7, fp, i1, (show Bn 2200 _ from Nat.lt_of_le_of_lt fb1 (bG i (by omega))).le (by decide), (show Bn 2100 _ from Nat.lt_of_le_of_lt fb2 bWS).le (by decide), i2.le (by decide), i3.le (by decide), fun t9 H12 ht9 g13 h9 => ?_⟩
          have g1113 := g1112.trans g13
          refine ⟨t9, _, rfl, e10.trans g1113, ?_, ?_, ?_⟩
          · show PrN H12 lB (sel ks _ (i + 1))
            unfold sel
            rw [if_pos hm]
            exact hNB9.ex g1113
          · show PrN H12 lA (sel ks _ (i + 1))
            unfold sel
            rw [if_pos hm]
            exact c4.ex g1113
          · have h9 : Fr H12 t9 (frA (fr (sr (opG Am (ts.map (wid u b)) ks) i) (W * (pick (ts.map (wid u b)) ks).sum)) (frA ((Bh Am W).getD i (0, 1)) (0 - ((Bh (openA Am (ts.map (wid u b)) ks) (W * (pick (ts.map (wid u b)) ks).sum)).getD i (0, 1)).1, ((Bh (openA Am (ts.map (wid u b)) ks) (W * (pick (ts.map (wid u b)) ks).sum)).getD i (0, 1)).2))).1 (frA (fr (sr (opG Am (ts.map (wid u b)) ks) i) (W * (pick (ts.map (wid u b)) ks).sum)) (frA ((Bh Am W).getD i (0, 1)) (0 - ((Bh (openA Am (ts.map (wid u b)) ks) (W * (pick (ts.map (wid u b)) ks).sum)).getD i (0, 1)).1, ((Bh (openA Am (ts.map (wid u b)) ks) (W * (pick (ts.map (wid u b)) ks).sum)).getD i (0, 1)).2))).2 := h9
            rw [fT i hi hm] at h9
            exact h9
        · refine if_t (by rw [decide_eq_false hm]; rfl) ?_
          refine ⟨_, rfl, _, rfl, lb, _, _, _, rfl, rfl, SqL.of (e6 _ _ hys), atI_nat hy, _, rfl, _, rfl, la, _, _, _, rfl, rfl, SqL.of (e6 _ _ hxs), atI_nat hx, frD ((Bh (openA Am (ts.map (wid u b)) ks) (W * (pick (ts.map (wid u b)) ks).sum)).getD i (0, 1)), frD ((Bh Am W).getD i (0, 1)), dp_fr (e6 _ _ hFy), dp_fr (e6 _ _ hFx), shp_fr _, shp_fr _, _, rfl, if_f (by rw [eqv_fr, fE i hi hm, decide_eq_true rfl]; rfl) ?_⟩
          refine ⟨_, rfl, _, rfl, dd, _, _, _, rfl, rfl, SqT.of (e6 _ _ hd), rfl, l, _, rfl, .inl (SqL.of hl6), rfl, flat_ints ks, _, rfl, if_f ((inV_ints _ _).trans (decide_eq_false hm)) ?_⟩
          refine ⟨t8, _, rfl, e6, ?_, ?_, ?_⟩
          · show PrN H6 lB (sel ks _ (i + 1))
            unfold sel
            rw [if_neg hm]
            exact hNB
          · show PrN H6 lA (sel ks _ (i + 1))
            unfold sel
            rw [if_neg hm]
            exact hNA
          · have e : sr (opG Am (ts.map (wid u b)) ks) (i + 1) = sr (opG Am (ts.map (wid u b)) ks) i := by
              show sr (opG Am (ts.map (wid u b)) ks) i + opG Am (ts.map (wid u b)) ks i = _
              unfold opG
              rw [if_neg hm]
              omega
            rw [e]
            exact hF8
      · rintro σ H6 ⟨t8, v10, rfl, e6, hNB, hNA, hF8⟩
        rw [← hAl, s0, fr_0 WS0] at hF8
        have hF8 : Fr H6 t8 0 1 := hF8
        refine ⟨_, rfl, two, fun t2 ht2 => ?_⟩
        have g7 := Evl.Ex.new (o := .tup [.int 0, .int 1]) ht2
        refine ⟨frD (0, 1), frD (0, 1), dp_fr (f := (0, 1)) (g7 _ _ hF8), dp_fr (f := (0, 1)) upd_same, shp_fr _, shp_fr _, _, rfl, if_f (by rw [eqv_fr]; simp) ?_⟩
        have e7 := e6.trans g7
        have hNB7 := hNB.ex g7
        have hNA7 := hNA.ex g7
        generalize upd H6 t2 (.tup [.int 0, .int 1]) = H7 at e7 hNB7 hNA7
        have allL : ∀ f ∈ sel ks (fun _ => Lv) ts.length, f = Lv := fun f hf => by
          obtain ⟨_, _, _, h⟩ := mem_sel.mp hf
          exact h.symm
        have bS : ∀ f ∈ sel ks (fun i => fr (Am.getD i 0 * b) (W * (ts.map (wid u b)).getD i 0)) ts.length, Fb 2200 f := fun f hf => by
          obtain ⟨i, hi, _, rfl⟩ := mem_sel.mp hf
          have m := getD_mem' (ns := Am) (i := i) (by omega)
          have m2 := getD_mem' (ns := ts.map (wid u b)) (i := i) (by rw [List.length_map]; exact hi)
          have p := Int.mul_pos W0 (wpos i hi)
          have c1 : Bn 2200 (Am.getD i 0 * b) := ((hO.bA _ m).mul (show Bn 50 b from hQ.2.2.2)).le (by decide)
          have c2 : Bn 2200 (W * (ts.map (wid u b)).getD i 0) := (hO.bW.mul (hV.bit _ m2)).le (by decide)
          exact ⟨fr_pos p, Nat.lt_of_le_of_lt (fr_abs1 p) c1, Nat.lt_of_le_of_lt (fr_abs2 p) c2⟩
        obtain ⟨Lb0, Lb1, Lb2⟩ := bL
        have Lb1 := Lb1.le (show 2200 ≤ 4400 by decide)
        have Lb2 := Lb2.le (show 2200 ≤ 4400 by decide)
        obtain ⟨ass, hsA, hlA', hatA⟩ := hNA7.done
        obtain ⟨a0, h0, hF0⟩ : ∃ a0, (ass.map V.ref)[0]? = some (.ref a0) ∧ Fr H7 a0 Lv.1 Lv.2 := by
          have hne : sel ks (fun _ => Lv) ts.length ≠ [] := sel_ne h2k hks
          have hlen : 0 < (sel ks (fun _ => Lv) ts.length).length := List.length_pos_iff.mpr hne
          have e1 : (sel ks (fun _ => Lv) ts.length)[0]? = some (sel ks (fun _ => Lv) ts.length)[0] := List.getElem?_eq_getElem hlen
          have e2 : ass[0]? = some ass[0] := List.getElem?_eq_getElem (by omega)
          have e3 := allL _ (List.getElem_mem hlen)
          refine ⟨ass[0], by rw [List.getElem?_map, e2]; rfl, ?_⟩
          have h := hatA 0 _ _ e2 e1
          rw [e3] at h
          exact h
        refine ⟨_, rfl, lA, rfl, ⟨_, SqL.of hsA⟩, fun D hD => lc_list (xs := ass.map V.ref) (fun i H' => Evl.Ex H7 H' ∧ H' D = some (.lst [])) ⟨Evl.Ex.new hD, upd_same⟩ (fun i H' _ q => SqL.of (q.1 _ _ hsA)) ?_ ?_⟩
        · rintro i v H8 hi ⟨g8, hD8⟩
          obtain ⟨a, f, ha, hf, rfl, hFa⟩ := pr_at ⟨ass, hsA, hlA', hatA⟩ hsA hi
          rw [allL f (List.mem_of_getElem? hf)] at hFa
          exact ⟨rfl, _, rfl, _, rfl, lA, _, _, _, rfl, rfl, SqL.of (g8 _ _ hsA), (by exact atI_nat (j := 0) h0), frD Lv, frD Lv, dp_fr (g8 _ _ hFa), dp_fr (g8 _ _ hF0), shp_fr _, shp_fr _, _, rfl, if_f (by rw [eqv_fr, decide_eq_true rfl]; rfl) ⟨g8, hD8⟩⟩
        · rintro H8 ⟨g8, hD8⟩
          refine ⟨Nat.zero_le _, fun l2 hl2 => ?_⟩
          have g9 := Evl.Ex.new (o := .lst []) hl2
          refine ⟨.list [], .list [], dp_nil (g9 _ _ hD8), dp_nil upd_same, shp_nil, shp_nil, _, rfl, if_f (by simp [PyData.eqv, PyData.eqvAll]) ?_⟩
          have g79 := g8.trans g9
          generalize upd H8 l2 (.lst []) = H9 at g79
          obtain ⟨bss, hsB, hlB', hatB⟩ := (hNB7.ex (g79)).done
          refine ⟨_, rfl, lB, rfl, ⟨_, SqL.of hsB⟩, fun DL hDL => lc_list (xs := bss.map V.ref) (fun i H' => Evl.Ex H9 H' ∧ PrN H' DL (((sel ks (fun i => fr (Am.getD i 0 * b) (W * (ts.map (wid u b)).getD i 0)) ts.length).take i).filter fun f => decide (f.1 * Lv.2 < Lv.1 * f.2))) ⟨Evl.Ex.new hDL, PrN.start upd_same⟩ (fun i H' _ q => SqL.of (q.1 _ _ hsB)) ?_ ?_⟩
          · rintro i v H10 hi ⟨g10, hN⟩
            obtain ⟨a, f, ha, hf, rfl, hFa⟩ := pr_at ⟨bss, hsB, hlB', hatB⟩ hsB hi
            obtain ⟨fb0, fb1, fb2⟩ := bS f (List.mem_of_getElem? hf)
            have fb1 := fb1.le (show 2200 ≤ 4400 by decide)
            have fb2 := fb2.le (show 2200 ≤ 4400 by decide)
            refine ⟨rfl, ?_⟩
            refine ⟨_, rfl, _, rfl, lA, _, _, _, rfl, rfl, SqL.of (((g79).trans g10) _ _ hsA), (by exact atI_nat (j := 0) h0), a, a0, _, _, _, _, rfl, g10 _ _ hFa, ((g79).trans g10) _ _ hF0, fb1, fb2, Lb1, Lb2, fun H11 g11 => ⟨_, rfl, ?_⟩⟩
            rw [take_filter hf]
            by_cases hp : decide (f.1 * Lv.2 < Lv.1 * f.2) = true
            · refine if_t hp ⟨_, rfl, ?_⟩
              rw [if_pos hp]
              obtain ⟨acc, a1, a2, a3, a4⟩ := hN.more (f := f) g11 ((g10.trans g11) _ _ hFa) (by have h1 := List.length_filter_le (fun f => decide (f.1 * Lv.2 < Lv.1 * f.2)) ((sel ks (fun i => fr (Am.getD i 0 * b) (W * (ts.map (wid u b)).getD i 0)) ts.length).take i); have h2 := sel_len ks (fun i => fr (Am.getD i 0 * b) (W * (ts.map (wid u b)).getD i 0)) ts.length; rw [List.length_take] at h1; omega)
              exact ⟨acc, a1, a2, Evl.Ex.mut (g10.trans g11) hDL, a4⟩
            · refine if_f (by simpa using hp) ?_
              rw [if_neg hp, List.append_nil]
              exact ⟨g10.trans g11, hN.ex g11⟩
          rintro HL ⟨gL, hNL⟩
          rw [List.length_map, hlB', List.take_length] at hNL
          have hPL := hNL.done
          obtain ⟨bss, hsB, hlB', hatB⟩ := (hNB7.ex (g79.trans gL)).done
          refine ⟨_, rfl, lB, rfl, ⟨_, SqL.of hsB⟩, fun DH hDH => lc_list (xs := bss.map V.ref) (fun i H' => Evl.Ex HL H' ∧ PrN H' DH (((sel ks (fun i => fr (Am.getD i 0 * b) (W * (ts.map (wid u b)).getD i 0)) ts.length).take i).filter fun f => decide (Lv.1 * f.2 < f.1 * Lv.2))) ⟨Evl.Ex.new hDH, PrN.start upd_same⟩ (fun i H' _ q => SqL.of (q.1 _ _ hsB)) ?_ ?_⟩
          · rintro i v H10 hi ⟨g10, hN⟩
            obtain ⟨a, f, ha, hf, rfl, hFa⟩ := pr_at ⟨bss, hsB, hlB', hatB⟩ hsB hi
            obtain ⟨fb0, fb1, fb2⟩ := bS f (List.mem_of_getElem? hf)
            have fb1 := fb1.le (show 2200 ≤ 4400 by decide)
            have fb2 := fb2.le (show 2200 ≤ 4400 by decide)
            refine ⟨rfl, ?_⟩
            refine ⟨_, rfl, lA, _, _, _, rfl, rfl, SqL.of (((g79.trans gL).trans g10) _ _ hsA), (by exact atI_nat (j := 0) h0), _, rfl, a0, a, _, _, _, _, rfl, ((g79.trans gL).trans g10) _ _ hF0, g10 _ _ hFa, Lb1, Lb2, fb1, fb2, fun H11 g11 => ⟨_, rfl, ?_⟩⟩
            rw [take_filter hf]
            by_cases hp : decide (Lv.1 * f.2 < f.1 * Lv.2) = true
            · refine if_t hp ⟨_, rfl, ?_⟩
              rw [if_pos hp]
              obtain ⟨acc, a1, a2, a3, a4⟩ := hN.more (f := f) g11 ((g10.trans g11) _ _ hFa) (by have h1 := List.length_filter_le (fun f => decide (Lv.1 * f.2 < f.1 * Lv.2)) ((sel ks (fun i => fr (Am.getD i 0 * b) (W * (ts.map (wid u b)).getD i 0)) ts.length).take i); have h2 := sel_len ks (fun i => fr (Am.getD i 0 * b) (W * (ts.map (wid u b)).getD i 0)) ts.length; rw [List.length_take] at h1; omega)
              exact ⟨acc, a1, a2, Evl.Ex.mut (g10.trans g11) hDH, a4⟩
            · refine if_f (by simpa using hp) ?_
              rw [if_neg hp, List.append_nil]
              exact ⟨g10.trans g11, hN.ex g11⟩
          rintro HH ⟨gH, hNH⟩
          rw [List.length_map, hlB', List.take_length] at hNH
          have hPH := hNH.done
          have hPL' := hPL.ex gH
          refine ⟨_, rfl, Nat.zero_le _, fun l3 hl3 => ?_⟩
          have g12 := Evl.Ex.new (o := .lst []) hl3
          refine ⟨prD _, prD [], dp_pr (hPL'.ex g12), dp_nil upd_same, shp_pr _, shp_pr _, _, rfl, Nat.zero_le _, fun l4 hl4 => ?_⟩
          have g13 := Evl.Ex.new (o := .lst []) hl4
          refine ⟨prD _, prD [], dp_pr ((hPH.ex g12).ex g13), dp_nil upd_same, shp_pr _, shp_pr _, rfl, ?_⟩
          rw [eqv_pr, eqv_pr]
          have fin := k _ ((e7.trans g79).trans ((gL.trans gH).trans (g12.trans g13)))
          have ev' : ((sel ks (fun i => fr (Am.getD i 0 * b) (W * (ts.map (wid u b)).getD i 0)) ts.length).filter (fun f => decide (f.1 * Lv.2 < Lv.1 * f.2)) = []) ↔ ((sel ks (fun i => fr (Am.getD i 0 * b) (W * (ts.map (wid u b)).getD i 0)) ts.length).filter (fun f => decide (Lv.1 * f.2 < f.1 * Lv.2)) = []) := by
            rw [← hAl]
            exact ev
          have fe : decide (V.bl (decide ((sel ks (fun i => fr (Am.getD i 0 * b) (W * (ts.map (wid u b)).getD i 0)) ts.length).filter (fun f => decide (f.1 * Lv.2 < Lv.1 * f.2)) = [])) = V.bl (decide ((sel ks (fun i => fr (Am.getD i 0 * b) (W * (ts.map (wid u b)).getD i 0)) ts.length).filter (fun f => decide (Lv.1 * f.2 < f.1 * Lv.2)) = []))) = true := by
            rw [decide_eq_true_eq]
            congr 1
            exact decide_eq_decide.mpr ev'
          rw [fe]
          exact fin
      case bL =>
        rw [← hL]
        have bT : Bn 2005 (pick Am ks).sum := bn_sum20 (fun x hx => hO.bA x (pick_mem ⟨hk20, hbk⟩ hx)) (by rw [pick_len]; exact hk20)
        have c1 : Bn 2200 ((pick Am ks).sum * b) := (bT.mul (show Bn 50 b from hQ.2.2.2)).le (by decide)
        have c2 : Bn 2200 (W * (pick (ts.map (wid u b)) ks).sum) := hO2'.bW.le (by decide)
        exact ⟨fr_pos WS0, Nat.lt_of_le_of_lt (fr_abs1 WS0) c1, Nat.lt_of_le_of_lt (fr_abs2 WS0) c2⟩
      case bG =>
        have bT : Bn 2005 (pick Am ks).sum := bn_sum20 (fun x hx => hO.bA x (pick_mem ⟨hk20, hbk⟩ hx)) (by rw [pick_len]; exact hk20)
        have bS' : Bn 65 (pick (ts.map (wid u b)) ks).sum := bn_sum20 (fun x hx => hV.bit x (pick_mem ok2 hx)) (by rw [pick_len]; exact hk20)
        intro i hi
        have each : ∀ j, j < i → (opG Am (ts.map (wid u b)) ks j).natAbs < 2 ^ 2100 := fun j hj => by
          unfold opG
          by_cases c : (j : Int) ∈ ks
          · rw [if_pos c]
            have m := getD_mem' (ns := Am) (i := j) (by omega)
            have m2 := getD_mem' (ns := ts.map (wid u b)) (i := j) (by rw [List.length_map]; omega)
            have x1 : Bn 2065 (Am.getD j 0 * (pick (ts.map (wid u b)) ks).sum) := ((hO.bA _ m).mul bS')
            have x2 : Bn 2065 (-((pick Am ks).sum * (ts.map (wid u b)).getD j 0)) := by
              have h : ((pick Am ks).sum * (ts.map (wid u b)).getD j 0).natAbs < 2 ^ 2065 := (bT.mul (hV.bit _ m2))
              show (- _ : Int).natAbs < 2 ^ 2065
              rw [Int.natAbs_neg]
              exact h
            have x3 : Bn 2100 (Am.getD j 0 * (pick (ts.map (wid u b)) ks).sum + -((pick Am ks).sum * (ts.map (wid u b)).getD j 0)) := (x1.add x2).le (by decide)
            rw [← Int.sub_eq_add_neg] at x3
            exact x3
          · rw [if_neg c]
            exact bn0 2100
        exact sr_bits (by omega) each
end
end V2


namespace V2
open PySem L2
open PySem.Spec PyProof.Rows
def nuB : Deed → Bool
  | .un _ _ => false
  | _ => true
theorem nu_of {d : Deed} (h : nuB d = true) : ∀ k m, d ≠ .un k m := fun k m e => by
  rw [e] at h
  cases h
theorem nuT {x : Str} (h : decide (V.str x = V.str "unless") = false) : (!decide (V.str x = V.str "unless")) = true := by rw [h]; rfl
theorem nuF {x : Str} (h : decide (V.str x = V.str "unless") = true) : (!decide (V.str x = V.str "unless")) = false := by rw [h]; rfl
theorem wo_updE {p D : Addr} {H : Hp} {o : HO} (n : D ≠ p) : wo p (upd H D o) = upd (wo p H) D o := by
  funext b
  show (if b = p then none else if b = D then some o else H b) = if b = D then some o else if b = p then none else H b
  by_cases c : b = p
  · rw [if_pos c, if_neg (fun z => n (z.symm.trans c)), if_pos c]
  · rw [if_neg c, if_neg c]
theorem dat_unb {H : Hp} {a : Addr} {d : Deed} (h : DAt H a d) : ∃ (x : Str) (r : List V), H a = some (.tup (.str x :: r)) ∧ (!decide (V.str x = V.str "unless")) = nuB d := by
  cases d with
  | op ks =>
    obtain ⟨l, h1, _⟩ := h
    exact ⟨_, _, h1, nuT (by decide)⟩
  | po k x => exact ⟨_, _, h, nuT (by decide)⟩
  | sc k p q =>
    obtain ⟨l, h1, _⟩ := h
    exact ⟨_, _, h1, nuT (by decide)⟩
  | mv k m p q =>
    obtain ⟨l, h1, _⟩ := h
    exact ⟨_, _, h1, nuT (by decide)⟩
  | un k m => exact ⟨_, _, h, nuF (by decide)⟩
theorem dat_pour {H : Hp} {a : Addr} {d : Deed} (h : DAt H a d) : (∃ k x, d = .po k x) ∨ ∃ (x : Str) (r : List V), H a = some (.tup (.str x :: r)) ∧ decide (V.str x = V.str "pour") = false ∧ pourD d = 0 := by
  cases d with
  | op ks =>
    obtain ⟨l, h1, _⟩ := h
    exact .inr ⟨_, _, h1, by decide, rfl⟩
  | po k x => exact .inl ⟨k, x, rfl⟩
  | sc k p q =>
    obtain ⟨l, h1, _⟩ := h
    exact .inr ⟨_, _, h1, by decide, rfl⟩
  | mv k m p q =>
    obtain ⟨l, h1, _⟩ := h
    exact .inr ⟨_, _, h1, by decide, rfl⟩
  | un k m => exact .inr ⟨_, _, h, by decide, rfl⟩
theorem sIx_pos {n d k : Nat} : HT.sIx n d (some (k : Int)) = min k n := by
  unfold HT.sIx
  simp
  first
    | done
    | omega
    | (split <;> omega)
theorem cut_min (xs : List V) (k : Nat) : cutV xs none (some (k : Int)) = xs.take k := by
  by_cases h : k ≤ xs.length
  · exact cut_to xs h
  · rw [List.take_of_length_le (by omega)]
    unfold cutV
    rw [sIx_pos]
    have e : HT.sIx xs.length 0 none = 0 := rfl
    rw [e, List.drop_zero, Nat.min_eq_right (by omega)]
    exact List.take_of_length_le (by omega)
theorem DsAt.take {H H' : Hp} {l l2 : Addr} {ds : List Deed} {xs : List V} (h : DsAt H l ds) (hl : H l = some (.lst xs)) (k : Nat) (e : Evl.Ex H H') (h2 : H' l2 = some (.lst (xs.take k))) : DsAt H' l2 (ds.take k) := by
  obtain ⟨as, h1, h3, h4⟩ := h
  rw [hl] at h1
  injection h1 with h1
  injection h1 with h1
  subst h1
  refine ⟨as.take k, by rw [h2, List.map_take], by rw [List.length_take, List.length_take, h3], fun i a d ha hd => ?_⟩
  rw [List.getElem?_take] at ha hd
  by_cases c : i < k
  · rw [if_pos c] at ha hd
    exact (h4 i a d ha hd).ex e
  · rw [if_neg c] at ha
    cases ha
theorem take_filterD {l : List Deed} {i : Nat} {f : Deed} (h : l[i]? = some f) : (l.take (i + 1)).filter nuB = (l.take i).filter nuB ++ if nuB f = true then [f] else [] := by
  rw [List.take_add_one, h, List.filter_append]
  by_cases c : nuB f = true
  · simp [c]
  · simp [c]
theorem bh_1 (ts : List Tk) : Bh (amts ts) 1 = ts.map fun t => (t.2, 1) := by
  unfold Bh amts
  rw [List.map_map]
  refine List.map_congr_left fun t _ => ?_
  exact fr_1 t.2
theorem sm {x : Int} (h : x.natAbs ≤ 100000) : Bn 4400 x := Nat.lt_of_le_of_lt h (Nat.lt_of_lt_of_le (show 100000 < 2 ^ 20 by decide) (Nat.pow_le_pow_right (by decide) (by decide)))
def spRight : Sp := fun vs H Q _ => ∃ s : Addr, vs = [.ref s] ∧ Sk H s 0 ∧ ∀ H', But s H H' → Q (.bl true) H'
section
variable {base : Heap} {mg : Str → Option Value} {K : PySem.W.Frag} {w : World} {P : Program} {C : Addr}
theorem ok__right {f : Addr} {fd : FuncData} (F : Fun K "_law_right" "_law_right" s__law_right f fd) (mR : mg "range" = none) (mL : mg "len" = none) (mA : mg "all" = none) (cC : Cal P w K mg base 1 "_law_coin" p__law_coin spCoin) (cG : Cal P w K mg base 5 "_law_wl_great" p__law_wl_great spGreat) (cP : Cal P w K mg base 5 "_law_wl_plan" p__law_wl_plan spPlan) (cW : Cal P w K mg base 3 "_law_wl_width" p__law_wl_width spWid) (cA : Cal P w K mg base 3 "_law_wl_plus" p__law_wl_plus spA) (cR : Cal P w K mg base 9 "run" p_run (spRun C)) (cN : Cal P w K mg base 7 "_law_wl_new" p__law_wl_new (spNew C)) (cF : Cal P w K mg base 2 "_law_wl_fraction" p__law_wl_fraction spFrac) (cX : Cal P w K mg base 4 "_law_waters" p__law_waters spWaters) (cS : Cal P w K mg base 4 "_law_step_right" p__law_step_right spStepR) (cL : Cal P w K mg base 1 "_law_wl_less" p__law_wl_less spFl) : FnOk P w K mg base CX0 10 f fd p__law_right spRight := by
  refine F.ok sc__law_right (fun vs H Q E h => ?_) (fun cdv A outer s H vs Q E hr h => ?_)
  · obtain ⟨s, rfl, _⟩ := h
    rfl
  · obtain ⟨sk, rfl, hS, k⟩ := h
    have nd := sc__law_right.nd
    have r1 : Room 1 _ := hr.mono (by decide)
    have r2 : Room 2 _ := hr.mono (by decide)
    have r3 : Room 3 _ := hr.mono (by decide)
    have r4 : Room 4 _ := hr.mono (by decide)
    have r5 : Room 5 _ := hr.mono (by decide)
    have r7 : Room 7 _ := hr.mono (by decide)
    have two : 2 ≤ sizeLine := by show 2 ≤ sizeLine; decide
    refine ⟨_, Evl.pss_cut (ps_asg (pe_ifExp (pt_cmpR op_eq (pe_c cC r1 (pa_cons (pv 0) (pa_cons pe_int pa_nil))) pe_int (nomark _)) (pe_c cG r5 (pa_cons (pv 0) pa_nil)) (pe_c cP r5 (pa_cons (pv 0) (pa_cons pe_int (pa_cons pe_int pa_nil))))) (pg_tup rfl (pgs_cons (pg_name (i := 1) nd rfl (Or.inl rfl)) (pgs_cons (pg_name (i := 2) nd rfl (Or.inl rfl)) pgs_nil))))
      (pss_cons (ps_set (i := 2) nd rfl (Or.inl rfl) (pe_slice sl_list (pe_lc (own := [("deed", 11)]) (g := (gName 11)) (tt := (tTest (tOp rNe (tOp (rIxT K) (tVar 11) (tC (.int 0))) (tC (.str "unless"))))) (te := (tVar 11)) rfl nd (pi_list (pv 2)) (blkOk_by (N := n__law_right) (sc := defScope s__law_right) (by decide +kernel)) (fun _ _ _ _ _ => (pg_name (i := 11) nd rfl (Or.inl rfl))) (fun _ _ _ _ _ => pts_one (pt_cmpR op_ne (pe_ix ix_tup (pv 11) pe_int (fun _ _ => rfl)) pe_str (nomark _))) (fun _ _ _ _ _ => (pv 11))) po_none (po_some pe_int)))
      (pss_cons (ps_asg (pe_tup (pa_cons (pe_c cW r3 (pa_cons (pv 0) pa_nil)) (pa_cons (pe_tup (pa_cons pe_int (pa_cons pe_int pa_nil))) pa_nil))) (pg_tup rfl (pgs_cons (pg_name (i := 3) nd rfl (Or.inr rfl)) (pgs_cons (pg_name (i := 4) nd rfl (Or.inr rfl)) pgs_nil))))
      (pss_cons (ps_setLc (i := 5) (own := [("vat", 12)]) (g := (gName 12)) (tt := tYes) (te := (tIf (tB (tIsN (tOp (rIxT K) (tVar 12) (tC (.int 0))))) (tVar 3) (tTup (tCons (tOp (rIxT K) (tVar 12) (tC (.int 0))) (tCons (tC (.int 1)) tNil))))) rfl nd rfl rfl (sw_true rfl rfl rfl (by decide +kernel)) (pi_list (pv 1)) (blkOk_by (N := n__law_right) (sc := defScope s__law_right) (by decide +kernel)) (fun _ _ _ _ _ => (pg_name (i := 12) nd rfl (Or.inl rfl))) (fun _ _ _ _ _ => pts_nil) (fun _ _ _ _ _ => (pe_ifExp (pt_cmp (pc_isN (pe_ix ix_tup (pv 12) pe_int (fun _ _ => rfl)))) (pv 3) (pe_tup (pa_cons (pe_ix ix_tup (pv 12) pe_int (fun _ _ => rfl)) (pa_cons pe_int pa_nil))))))
      (pss_cons (ps_setLc (i := 6) (own := [("vat", 12)]) (g := (gName 12)) (tt := tYes) (te := (tTup (tCons (tOp (rIxT K) (tVar 12) (tC (.int 1))) (tCons (tC (.int 1)) tNil)))) rfl nd rfl rfl (sw_true rfl rfl rfl (by decide +kernel)) (pi_list (pv 1)) (blkOk_by (N := n__law_right) (sc := defScope s__law_right) (by decide +kernel)) (fun _ _ _ _ _ => (pg_name (i := 12) nd rfl (Or.inl rfl))) (fun _ _ _ _ _ => pts_nil) (fun _ _ _ _ _ => (pe_tup (pa_cons (pe_ix ix_tup (pv 12) pe_int (fun _ _ => rfl)) (pa_cons pe_int pa_nil)))))
      (pss_cons (ps_for PassesOwn.never rfl (pi_list (pv 6)) (pg_name (i := 7) nd rfl (Or.inl rfl)) (pss_one (ps_set (i := 4) nd rfl (Or.inr rfl) (pe_c cA r3 (pa_cons (pv 4) (pa_cons (pv 7) pa_nil))))))
      (pss_cons (ps_for PassesOwn.never rfl (pi_range1 (by rfl) mR (pa_cons (pe_op op_add (pe_callB call_len_seq (by rfl) mL PySem.boot_len (pa_cons (pv 2) pa_nil)) pe_int) pa_nil)) (pg_name (i := 8) nd rfl (Or.inl rfl)) (pss_cons (ps_set (i := 9) nd rfl (Or.inl rfl) (pe_c cR hr (pa_cons (pe_c cN r7 (pa_cons (pe_tup (pa_cons (pv 1) (pa_cons (pe_slice sl_list (pv 2) po_none (po_some (pv 8))) pa_nil))) pa_nil)) (pa_cons (pv 3) pa_nil))))
      (pss_cons (ps_if (PW.pt (pw_or (pt_cmp (pc_notN (pe_ix ix_tup (pv 9) pe_int (fun _ _ => rfl)))) (pw_or1 (pt_not (pt_val (pe_callB (cr_all rfl) (by rfl) mA (by decide +kernel) (pa_cons (pe_lc (own := [("level", 13)]) (g := (gName 13)) (tt := tYes) (te := (tCall spFrac [] E0 (tCons (tVar 13) tNil))) rfl nd (pi_list (pe_ix ix_tup (pv 9) pe_int (fun _ _ => rfl))) (blkOk_by (N := n__law_right) (sc := defScope s__law_right) (by decide +kernel)) (fun _ _ _ _ _ => (pg_name (i := 13) nd rfl (Or.inl rfl))) (fun _ _ _ _ _ => pts_nil) (fun _ _ _ _ _ => (pe_c cF r2 (pa_cons (pv 13) pa_nil)))) pa_nil))))))) (pss_one (ps_ret pe_bl)) pss_nil)
      (pss_cons (ps_if (pt_cmpR op_ne (pe_callB call_len_seq (by rfl) mL PySem.boot_len (pa_cons (pe_ix ix_tup (pv 9) pe_int (fun _ _ => rfl)) pa_nil)) (pe_callB call_len_seq (by rfl) mL PySem.boot_len (pa_cons (pv 1) pa_nil)) (nomark _)) (pss_one (ps_ret pe_bl)) pss_nil)
      (pss_cons (ps_set (i := 10) nd rfl (Or.inl rfl) (pe_c cX r4 (pa_cons (pe_ix ix_tup (pv 9) pe_int (fun _ _ => rfl)) (pa_cons (pv 5) pa_nil))))
      (Evl.pss_cut (ps_if (PW.pt (pw_or (PW.pt (pw_and (pt_cmpR op_eq (pv 8) pe_int (nomark _)) (pw_and1 (pt_cmpR (op_neD hr.units) (pv 10) (pv 6) (nomark _))))) (pw_or1 (PW.pt (pw_and (pt_cmpR op_gt (pv 8) pe_int (nomark _)) (pw_and1 (pt_not (pt_val (pe_c cS r4 (pa_cons (pe_ix ix_list (pv 2) (pe_op op_sub (pv 8) pe_int) (fun _ _ => rfl)) (pa_cons (pv 6) (pa_cons (pv 10) (pa_cons (pv 5) pa_nil))))))))))))) (pss_one (ps_ret pe_bl)) pss_nil)
      (Evl.pss_cut (ps_if (PW.pt (pw_and (pt_cmpR op_gt (pv 8) pe_int (nomark _)) (pw_and1 (pt_cmpR op_eq (pe_ix ix_tup (pe_ix ix_list (pv 2) (pe_op op_sub (pv 8) pe_int) (fun _ _ => rfl)) pe_int (fun _ _ => rfl)) pe_str (nomark _))))) (pss_one (ps_set (i := 4) nd rfl (Or.inr rfl) (pe_c cA r3 (pa_cons (pv 4) (pa_cons (pe_tup (pa_cons (pe_ix ix_tup (pe_ix ix_list (pv 2) (pe_op op_sub (pv 8) pe_int) (fun _ _ => rfl)) pe_int (fun _ _ => rfl)) (pa_cons pe_int pa_nil))) pa_nil))))) pss_nil)
      (pss_cons (ps_if (pt_cmpR (op_neD hr.units) (pe_lc (own := [("water", 7)]) (g := (gName 7)) (tt := (tB (tCall spFl [] E0 (tCons (tVar 4) (tCons (tVar 7) tNil))))) (te := (tVar 7)) rfl nd (pi_list (pv 10)) (blkOk_by (N := n__law_right) (sc := defScope s__law_right) (by decide +kernel)) (fun _ _ _ _ _ => (pg_name (i := 7) nd rfl (Or.inl rfl))) (fun _ _ _ _ _ => pts_one (pt_val (pe_c cL r1 (pa_cons (pv 4) (pa_cons (pv 7) pa_nil))))) (fun _ _ _ _ _ => (pv 7))) (pe_lst pa_nil) (nomark _)) (pss_one (ps_ret pe_bl)) pss_nil)
      (pss_one (ps_set (i := 6) nd rfl (Or.inl rfl) (pv 10)))))))))))
      (pss_one (ps_ret pe_bl)))))))), ?_⟩
    refine ⟨fun σ H' => ∃ (lv ld : Addr) (ts : List Tk) (ds : List Deed), σ = [some (.ref sk), some (.ref lv), some (.ref ld), none, none, none, none, none, none, none, none, none, none, none] ∧ But sk H H' ∧ Sk H' sk 3001 ∧ TksAt (wo sk H') lv ts ∧ DsAt (wo sk H') ld ds ∧ ShW ts ds, ?_, ?_⟩
    · have fin : ∀ (t : Addr) (ts : List Tk) (ds : List Deed) (H2 : Hp), But sk H H2 → Sk H2 sk 3001 → ShAt (wo sk H2) t ts ds → ShW ts ds → gTup K 2 (gCons (gName 1) (gCons (gName 2) gNil)) (.ref t) (L2.start n__law_right [.ref sk]) H2 fun σ H' => ∃ (lv ld : Addr) (ts : List Tk) (ds : List Deed), σ = [some (.ref sk), some (.ref lv), some (.ref ld), none, none, none, none, none, none, none, none, none, none, none] ∧ But sk H H' ∧ Sk H' sk 3001 ∧ TksAt (wo sk H') lv ts ∧ DsAt (wo sk H') ld ds ∧ ShW ts ds := fun t ts ds H2 b2 s2 ⟨lv, ld, h1, h2, h3⟩ h4 => ⟨t, _, rfl, SqT.of (wo_ex _ _ h1), rfl, _, _, rfl, _, _, rfl, rfl, lv, ld, ts, ds, rfl, b2, s2, h2, h3, h4⟩
      refine ⟨_, rfl, sk, 2, 0, rfl, hS, by decide, by decide, by decide, fun y H1 y0 y1 b1 s1 z1 => ⟨rfl, _, rfl, ite2 (fun _ => ?_) (fun _ => ?_)⟩⟩
      · exact ⟨_, rfl, sk, 1, rfl, s1, by decide, fun t ts ds H2 b2 s2 hsh hw => fin t ts ds H2 (b1.trans b2) (s2.le (by decide)) hsh hw⟩
      · exact ⟨_, rfl, sk, 4, 0, 1, rfl, s1, by decide, fun t ts ds H2 b2 s2 hsh hw _ => fin t ts ds H2 (b1.trans b2) (s2.le (by decide)) hsh hw⟩
    rintro σ H1 ⟨lv, ld, ts, ds, rfl, b1, s1, hT1, hD1, hW⟩
    obtain ⟨as, haw, hal, hat⟩ := id hD1
    have ha := wo_ex _ _ haw
    have hok := hW.ok
    refine ⟨_, rfl, ld, rfl, ⟨_, SqL.of ha⟩, fun D hD => lc_list (xs := as.map V.ref) (fun i H' => Evl.Ex H1 H' ∧ DsN (wo sk H') D ((ds.take i).filter nuB)) ⟨Evl.Ex.new hD, DsN.start (wo_at (sk_ne s1 hD) upd_same)⟩ (fun i H' _ q => SqL.of (q.1 _ _ ha)) ?_ ?_⟩
    · rintro i v H2 hi ⟨e2, hN⟩
      rw [List.getElem?_map] at hi
      obtain ⟨a, haa, rfl⟩ : ∃ a, as[i]? = some a ∧ v = .ref a := by
        cases e : as[i]? with
        | none =>
          rw [e] at hi
          cases hi
        | some a =>
          rw [e] at hi
          exact ⟨a, rfl, (Option.some.inj hi).symm⟩
      have hi2 : i < ds.length := by
        have := (List.getElem?_eq_some_iff.mp haa).1
        omega
      have hd : ds[i]? = some ds[i] := List.getElem?_eq_getElem hi2
      have hdw := (hat i a _ haa hd).ex (ex_wo e2)
      have hda := hdw.ex wo_ex
      have hok1 := hok.2.2 ds[i] (List.getElem_mem hi2)
      rw [take_filterD hd]
      generalize ds[i] = d at hda hok1 hdw
      obtain ⟨x, r, hx, hb⟩ := dat_unb hda
      refine ⟨rfl, ?_⟩
      refine ⟨_, rfl, a, _, _, _, rfl, rfl, SqT.of hx, (by exact atI_nat (j := 0) rfl), rfl, _, rfl, ?_⟩
      rw [hb]
      by_cases hn : nuB d = true
      · refine if_t hn ⟨_, rfl, ?_⟩
        rw [if_pos hn]
        obtain ⟨acc, q1, q2, q3⟩ := hN.more (Evl.Ex.refl _) hdw hok1 (by have h1 := List.length_filter_le nuB (ds.take i); rw [List.length_take] at h1; have := hok.2.1; omega)
        refine ⟨acc, wo_ex _ _ q1, q2, Evl.Ex.mut e2 hD, ?_⟩
        rw [wo_updE (sk_ne s1 hD)]
        exact q3
      · refine if_f (by simpa using hn) ?_
        rw [if_neg hn, List.append_nil]
        exact ⟨e2, hN⟩
    rintro H2 ⟨e2, hN⟩
    rw [List.length_map, hal, List.take_length] at hN
    obtain ⟨acc, hac, hacl⟩ := ds_list hN.done
    refine ⟨_, rfl, D, _, rfl, SqL.of (wo_ex _ _ hac), fun l2 hl2 => ?_⟩
    have e3 := Evl.Ex.new (o := .lst (cutV acc none (some 30))) hl2
    have e13 := e2.trans e3
    have b13 := But.of_ex (p := sk) e13
    have hD3' : DsAt (wo sk (upd H2 l2 (.lst (cutV acc none (some 30))))) l2 ((ds.filter nuB).take 30) := hN.done.take hac 30 (But.of_ex (p := sk) e3).wo (wo_at (sk_ne (s1.ex e2) hl2) (Eq.trans upd_same (by rw [← cut_min acc 30]; rfl)))
    have hT3 := hT1.ex b13.wo
    have s3 := s1.ex e13
    have b3 := b1.trans b13
    generalize upd H2 l2 (.lst (cutV acc none (some 30))) = H3 at hD3' hT3 s3 b3
    have hS : Shp ts ((ds.filter nuB).take 30) := ⟨⟨hok.1, by rw [List.length_take]; omega, fun d hd => hok.2.2 d (List.mem_filter.mp (List.mem_of_mem_take hd)).1⟩, by rw [List.length_take]; omega, hW.w1000, fun k a h => hW.p1000 k a (List.mem_filter.mp (List.mem_of_mem_take h)).1, fun k m h => by have := (List.mem_filter.mp (List.mem_of_mem_take h)).2; cases this⟩
    generalize (ds.filter nuB).take 30 = dz at hD3' hS
    refine ⟨_, rfl, sk, 3001, rfl, s3, by decide, fun tw u b H4 b4 s4 twn hFw hQ hu => ⟨two, fun t0 ht0 => ⟨two, fun t1 ht1 => ⟨t1, _, rfl, SqT.of upd_same, rfl, _, _, rfl, _, _, rfl, rfl, ?_⟩⟩⟩⟩
    have g1 := Evl.Ex.new (o := .tup [.int 0, .int 1]) ht0
    have g2 := Evl.Ex.new (o := .tup [.ref tw, .ref t0]) ht1
    have b34 := b4.trans (But.of_ex (p := sk) (g1.trans g2))
    have b5 := b3.trans b34
    have hT5 := (hT3.ex b34.wo).ex wo_ex
    have hD5 := (hD3'.ex b34.wo).ex wo_ex
    have hw5 : Fr (upd (upd H4 t0 (.tup [.int 0, .int 1])) t1 (.tup [.ref tw, .ref t0])) tw u b := (g1.trans g2) _ _ (wo_ex _ _ hFw)
    have ht05 : Fr (upd (upd H4 t0 (.tup [.int 0, .int 1])) t1 (.tup [.ref tw, .ref t0])) t0 0 1 := g2 _ _ upd_same
    generalize upd (upd H4 t0 (.tup [.int 0, .int 1])) t1 (.tup [.ref tw, .ref t0]) = H5 at b5 hT5 hD5 hw5 ht05
    obtain ⟨at_, hat1, hat2, hat3⟩ := id hT5
    have tk : ∀ {i : Nat} {v : V}, (at_.map V.ref)[i]? = some v → ∃ a t, v = .ref a ∧ ts[i]? = some t ∧ H5 a = some (.tup [wV t.1, .int t.2]) := fun {i v} hi => by
      rw [List.getElem?_map] at hi
      cases e : at_[i]? with
      | none =>
        rw [e] at hi
        cases hi
      | some a =>
        rw [e] at hi
        have hlt : i < ts.length := by
          have := (List.getElem?_eq_some_iff.mp e).1
          omega
        exact ⟨a, ts[i], (Option.some.inj hi).symm, List.getElem?_eq_getElem hlt, hat3 i a _ e (List.getElem?_eq_getElem hlt)⟩
    have h20 := hS.ok.1.1
    have hz : ∀ t ∈ ts, ∀ z, t.1 = some z → 1 ≤ z ∧ z ≤ 1000 := fun t ht z h => ⟨(hS.ok.1.2.1 t ht).1 z h, (hS.w1000 t ht).1 z h⟩
    refine ⟨_, rfl, lv, rfl, ⟨_, SqL.of hat1⟩, fun lwd hlwd => lc_list (xs := at_.map V.ref) (fun i H' => Evl.Ex H5 H' ∧ PrN H' lwd ((ts.take i).map (widP u b))) ⟨Evl.Ex.new hlwd, PrN.start upd_same⟩ (fun i H' _ q => SqL.of (q.1 _ _ hat1)) ?_ ?_⟩
    · rintro i v H6 hi ⟨e6, hN⟩
      obtain ⟨a, t, rfl, ht, hta⟩ := tk hi
      have hilt := (List.getElem?_eq_some_iff.mp ht).1
      refine ⟨rfl, ?_⟩
      unfold tYes
      refine if_t rfl ?_
      have ee : (ts.take (i + 1)).map (widP u b) = (ts.take i).map (widP u b) ++ [widP u b t] := by
        rw [List.take_add_one, ht, List.map_append]
        rfl
      rw [ee]
      refine ⟨_, rfl, a, _, _, _, rfl, rfl, SqT.of (e6 _ _ hta), rfl, _, rfl, ?_⟩
      have hlen : ((ts.take i).map (widP u b)).length ≤ 1000 := by rw [List.length_map, List.length_take]; omega
      obtain ⟨tw1, ta⟩ := t
      cases tw1 with
      | none =>
        refine if_t (decide_eq_true rfl) ⟨_, rfl, ?_⟩
        obtain ⟨acc, q1, q2, _, q3⟩ := hN.more (f := (u, b)) (Evl.Ex.refl _) (e6 _ _ hw5) hlen
        exact ⟨acc, q1, q2, Evl.Ex.mut e6 hlwd, q3⟩
      | some z =>
        refine if_f (decide_eq_false fun q => by cases q) ⟨_, rfl, a, _, _, _, rfl, rfl, SqT.of (e6 _ _ hta), rfl, two, fun r hr => ?_⟩
        have g7 := Evl.Ex.new (o := .tup [.int z, .int 1]) hr
        obtain ⟨acc, q1, q2, _, q3⟩ := hN.more (f := (z, 1)) g7 upd_same hlen
        exact ⟨acc, q1, q2, Evl.Ex.mut (e6.trans g7) hlwd, q3⟩
    rintro H6 ⟨e6, hN6⟩
    rw [List.length_map, hat2, List.take_length] at hN6
    have hWd := hN6.done
    refine ⟨_, rfl, lv, rfl, ⟨_, SqL.of (e6 _ _ hat1)⟩, fun lah hlah => lc_list (xs := at_.map V.ref) (fun i H' => Evl.Ex H6 H' ∧ PrN H' lah ((ts.take i).map fun t => (t.2, 1))) ⟨Evl.Ex.new hlah, PrN.start upd_same⟩ (fun i H' _ q => SqL.of (q.1 _ _ (e6 _ _ hat1))) ?_ ?_⟩
    · rintro i v H7 hi ⟨e7, hN⟩
      obtain ⟨a, t, rfl, ht, hta⟩ := tk hi
      have hilt := (List.getElem?_eq_some_iff.mp ht).1
      refine ⟨rfl, ?_⟩
      unfold tYes
      refine if_t rfl ?_
      have ee : (ts.take (i + 1)).map (fun t : Tk => (t.2, (1 : Int))) = (ts.take i).map (fun t => (t.2, 1)) ++ [(t.2, 1)] := by
        rw [List.take_add_one, ht, List.map_append]
        rfl
      rw [ee]
      refine ⟨_, rfl, a, _, _, _, rfl, rfl, SqT.of (e7 _ _ (e6 _ _ hta)), rfl, two, fun r hr => ?_⟩
      have g8 := Evl.Ex.new (o := .tup [.int t.2, .int 1]) hr
      obtain ⟨acc, q1, q2, _, q3⟩ := hN.more (f := (t.2, 1)) g8 upd_same (by rw [List.length_map, List.length_take]; omega)
      exact ⟨acc, q1, q2, Evl.Ex.mut (e7.trans g8) hlah, q3⟩
    rintro H7 ⟨e7, hN7⟩
    rw [List.length_map, hat2, List.take_length, ← bh_1] at hN7
    have hAh := hN7.done
    have e57 := e6.trans e7
    have hWd7 := hWd.ex e7
    have ht07 : Fr H7 t0 0 1 := e57 _ _ ht05
    have hw7 : Fr H7 tw u b := e57 _ _ hw5
    have hT7 := hT5.ex e57
    have hD7 := hD5.ex e57
    have b7 := b5.trans (But.of_ex (p := sk) e57)
    obtain ⟨xa, hxa, hxal, hxai⟩ := pr_items hAh
    rw [bh_len] at hxal hxai
    have amtl : (amts ts).length = ts.length := by unfold amts; rw [List.length_map]
    have amt0 : ∀ x ∈ amts ts, 0 ≤ x ∧ x ≤ 1000 := fun x hx => by
      obtain ⟨t, ht, rfl⟩ := List.mem_map.mp hx
      exact ⟨(hS.ok.1.2.1 t ht).2, (hS.w1000 t ht).2⟩
    have sumb : ∀ l : List Int, (∀ x ∈ l, 0 ≤ x ∧ x ≤ 1000) → 0 ≤ l.sum ∧ l.sum ≤ 1000 * l.length := fun l => by
      induction l with
      | nil => intro _; exact ⟨Int.le_refl _, by simp⟩
      | cons a l ih =>
        intro h
        obtain ⟨h1, h2⟩ := ih fun x hx => h x (List.mem_cons_of_mem _ hx)
        obtain ⟨h3, h4⟩ := h a List.mem_cons_self
        rw [List.sum_cons, List.length_cons]
        omega
    refine ⟨_, rfl, lah, rfl, ⟨_, SqL.of hxa⟩, for_list (xs := xa) (fun i σ H' => ∃ (tp : Addr) (v7 : Option V), σ = [some (.ref sk), some (.ref lv), some (.ref l2), some (.ref tw), some (.ref tp), some (.ref lwd), some (.ref lah), v7, none, none, none, none, none, none] ∧ Evl.Ex H7 H' ∧ Fr H' tp ((amts ts).take i).sum 1) ⟨t0, none, rfl, Evl.Ex.refl _, ht07⟩ (fun i σ H' _ ⟨_, _, _, q, _⟩ => SqL.of (q _ _ hxa)) ?_ ?_⟩
    · rintro i v σ H8 hi ⟨tp, v7, rfl, e8, hF⟩
      have hlt : i < ts.length := by
        have := (List.getElem?_eq_some_iff.mp hi).1
        omega
      obtain ⟨a, hxa1, hFa, _⟩ := hxai i (by omega)
      rw [hi] at hxa1
      cases hxa1
      rw [bh_get (by omega), fr_1] at hFa
      have hFa : Fr H7 a ((amts ts).getD i 0) 1 := hFa
      obtain ⟨p0, p1⟩ := sumb ((amts ts).take i) fun x hx => amt0 x (List.mem_of_mem_take hx)
      rw [List.length_take] at p1
      obtain ⟨m0, m1⟩ := amt0 _ (getD_mem' (ns := amts ts) (i := i) (by omega))
      refine ⟨_, rfl, _, rfl, tp, a, _, _, _, _, rfl, hF, e8 _ _ hFa, by decide, by decide, sm (show _ ≤ 100000 by omega), sm (by decide), sm (show _ ≤ 100000 by omega), sm (by decide), fun t9 H9 ht9 e9 h9 => ?_⟩
      refine ⟨t9, _, rfl, e8.trans e9, ?_⟩
      have h9 : Fr H9 t9 (fr (((amts ts).take i).sum * 1 + (amts ts).getD i 0 * 1) (1 * 1)).1 (fr (((amts ts).take i).sum * 1 + (amts ts).getD i 0 * 1) (1 * 1)).2 := h9
      rw [Int.mul_one, Int.mul_one, Int.one_mul, fr_1] at h9
      have es : ((amts ts).take (i + 1)).sum = ((amts ts).take i).sum + (amts ts).getD i 0 := by
        rw [List.take_add_one, List.getElem?_eq_getElem (show i < (amts ts).length by omega), List.sum_append, getD_el (show i < (amts ts).length by omega)]
        simp
      rw [es]
      exact h9
    rintro σ H8 ⟨tp, v7, rfl, e8, hFp⟩
    rw [hxal, List.take_length] at hFp
    obtain ⟨accD, hacD, hacDl⟩ := ds_list hD7
    have hV := shp_v hS hu hQ
    have e78 := e8
    refine ⟨_, rfl, l2, _, rfl, .inl (SqL.of (e8 _ _ hacD)), _, _, rfl, rfl, _, rfl, by have := hS.d30; omega, by have := hS.d30; omega, ?_⟩
    have en : ((accD.length : Int) + 1).toNat = dz.length + 1 := by omega
    rw [en]
    have S0 := sumb (amts ts) amt0
    refine for_range (n := dz.length + 1) (fun i σ H' => ∃ (tp va : Addr) (Pt : Int) (v7 v8 v9 v10 : Option V), σ = [some (.ref sk), some (.ref lv), some (.ref l2), some (.ref tw), some (.ref tp), some (.ref lwd), some (.ref va), v7, v8, v9, v10, none, none, none] ∧ Evl.Ex H7 H' ∧ PrAt H' va (Bh (runA (ts.map (wid u b)) (amts ts, 1) (dz.take (i - 1))).1 (runA (ts.map (wid u b)) (amts ts, 1) (dz.take (i - 1))).2) ∧ Fr H' tp Pt 1 ∧ (runA (ts.map (wid u b)) (amts ts, 1) (dz.take (i - 1))).1.sum ≤ Pt * (runA (ts.map (wid u b)) (amts ts, 1) (dz.take (i - 1))).2 ∧ 0 ≤ Pt ∧ Pt ≤ 20000 + 1000 * i)
      ⟨tp, lah, (amts ts).sum, v7, none, none, none, rfl, e8, hAh.ex e8, hFp, by show (amts ts).sum ≤ (amts ts).sum * 1; omega, S0.1, by have := S0.2; omega⟩ ?_ ?_
    · rintro i σ H9 hi ⟨tp, va, Pu, v7, v8, v9, v10, rfl, e9, hVa, hFp, hsum, P0, P1⟩
      rw [Int.zero_add]
      have hi' : i ≤ dz.length := by omega
      have d30 := hS.d30
      have hacD9 := e9 _ _ hacD
      refine ⟨_, rfl, _, rfl, _, rfl, _, rfl, l2, _, rfl, SqL.of hacD9, fun l3 hl3 => ⟨two, fun t3 ht3 => ?_⟩⟩
      have g10 := Evl.Ex.new (o := .lst (cutV accD none (some (i : Int)))) hl3
      have g11 := Evl.Ex.new (o := .tup [.ref lv, .ref l3]) ht3
      have hsh : ShAt (upd (upd H9 l3 (.lst (cutV accD none (some (i : Int))))) t3 (.tup [.ref lv, .ref l3])) t3 ts (dz.take i) := ⟨lv, l3, upd_same, (hT7.ex (e9.trans (g10.trans g11))), (hD7.take hacD i (e9.trans (g10.trans g11)) (g11 _ _ (Eq.trans upd_same (by rw [cut_min]))))⟩
      have hokS : okS ts (dz.take i) := ⟨hS.ok.1, by rw [List.length_take]; omega, fun d hd => hS.ok.2.2 d (List.mem_of_mem_take hd)⟩
      have hShp : Shp ts (dz.take i) := ⟨hokS, by rw [List.length_take]; omega, hS.w1000, fun k a h => hS.p1000 k a (List.mem_of_mem_take h), fun k m h => hS.nu k m (List.mem_of_mem_take h)⟩
      have e11 := e9.trans (g10.trans g11)
      have f11 := g10.trans g11
      generalize upd (upd H9 l3 (.lst (cutV accD none (some (i : Int))))) t3 (.tup [.ref lv, .ref l3]) = H11 at hsh e11 f11
      refine ⟨t3, ts, dz.take i, rfl, hsh, hokS, fun x H12 e12 hx => ⟨_, rfl, x, tw, ts, dz.take i, u, b, rfl, hx, hShp, (e11.trans e12) _ _ hw7, hu, hQ, fun q D H13 e13 hq hP => ?_⟩⟩
      have f13 := f11.trans (e12.trans e13)
      have e14 := e9.trans f13
      obtain ⟨rl, rok⟩ := shp_run hS hu hQ hi'
      have hlv : lvls u b ts (dz.take i) = (List.range (runA (ts.map (wid u b)) (amts ts, 1) (dz.take i)).1.length).map (lvl (runA (ts.map (wid u b)) (amts ts, 1) (dz.take i)).1 (ts.map (wid u b)) (runA (ts.map (wid u b)) (amts ts, 1) (dz.take i)).2 b) := by
        unfold lvls
        rw [rl]
      have lvlen : (lvls u b ts (dz.take i)).length = ts.length := by
        unfold lvls
        rw [List.length_map, List.length_range]
      have lvok : ∀ f ∈ lvls u b ts (dz.take i), 0 < f.2 ∧ Int.gcd f.1 f.2 = 1 ∧ Fb 2200 f := fun f hf => by
        rw [hlv] at hf
        obtain ⟨j, hj, rfl⟩ := List.mem_map.mp hf
        have hj := List.mem_range.mp hj
        have m := getD_mem' hj
        have m2 := getD_mem' (ns := ts.map (wid u b)) (i := j) (by rw [List.length_map]; omega)
        have wp := hV.pos _ m2
        have p := Int.mul_pos rok.pos wp
        have c1 : Bn 2200 ((runA (ts.map (wid u b)) (amts ts, 1) (dz.take i)).1.getD j 0 * b) := ((rok.bA _ m).mul (show Bn 50 b from hQ.2.2.2)).le (by decide)
        have c2 : Bn 2200 ((runA (ts.map (wid u b)) (amts ts, 1) (dz.take i)).2 * (ts.map (wid u b)).getD j 0) := (rok.bW.mul (hV.bit _ m2)).le (by decide)
        exact ⟨fr_pos p, fr_cop p, fr_pos p, Nat.lt_of_le_of_lt (fr_abs1 p) c1, Nat.lt_of_le_of_lt (fr_abs2 p) c2⟩
      obtain ⟨xl, hxl, hxll, hxli⟩ := pr_items hP
      rw [lvlen] at hxll hxli
      refine ⟨_, rfl, q, _, _, _, rfl, rfl, SqT.of hq, rfl, _, rfl, if_f (by decide) ?_⟩
      refine ⟨_, rfl, q, _, _, _, rfl, rfl, SqT.of hq, rfl, D, rfl, ⟨_, SqL.of hxl⟩, fun D2 hD2 => lc_list (xs := xl) (fun i H' => Evl.Ex H13 H' ∧ H' D2 = some (.lst (List.replicate i (.bl true)))) ⟨Evl.Ex.new hD2, upd_same⟩ (fun i H' _ q => SqL.of (q.1 _ _ hxl)) ?_ ?_⟩
      · rintro j v H14 hj ⟨g14, h14⟩
        have hjl : j < ts.length := by
          have := (List.getElem?_eq_some_iff.mp hj).1
          omega
        obtain ⟨a, ha1, hFa, hm⟩ := hxli j hjl
        rw [hj] at ha1
        cases ha1
        obtain ⟨m0, m1, _⟩ := lvok _ hm
        refine ⟨rfl, ?_⟩
        unfold tYes
        refine if_t rfl ?_
        show tCall spFrac [] E0 _ _ _ _
        refine ⟨_, rfl, a, _, _, rfl, g14 _ _ hFa, m0, m1, fun H15 g15 => ⟨_, g15 _ _ h14, ?_, Evl.Ex.mut (g14.trans g15) hD2, by rw [upd_same, rep_snoc]⟩⟩
        rw [List.length_replicate]
        exact Nat.lt_of_lt_of_le (show j < 100 by omega) (by decide)
      rintro H14 ⟨g14, h14⟩
      refine ⟨D2, List.replicate xl.length true, rfl, SqL.of (by rw [h14, List.map_replicate]), true, by simp, if_f rfl ?_⟩
      obtain ⟨acv, hacv, hacvl⟩ := tks_list hT7
      refine ⟨_, rfl, q, _, _, _, rfl, rfl, SqT.of (g14 _ _ hq), rfl, D, _, rfl, .inl (SqL.of (g14 _ _ hxl)), _, rfl, lv, _, rfl, .inl (SqL.of ((e14.trans g14) _ _ hacv)), rfl, _, rfl, if_f ?_ ?_⟩
      · rw [hxll, hacvl]
        simp
      have hPl : PrAt H14 D ((List.range (runA (ts.map (wid u b)) (amts ts, 1) (dz.take i)).1.length).map (lvl (runA (ts.map (wid u b)) (amts ts, 1) (dz.take i)).1 (ts.map (wid u b)) (runA (ts.map (wid u b)) (amts ts, 1) (dz.take i)).2 b)) := by
        rw [← hlv]
        exact hP.ex g14
      refine ⟨_, rfl, q, _, _, _, rfl, rfl, SqT.of (g14 _ _ hq), rfl, _, rfl, D, lwd, _, ts.map (widP u b), rfl, hPl, (hWd7.ex e14).ex g14, by rw [List.length_map, List.length_range, List.length_map]; exact rl, by rw [List.length_map]; exact h20, fun f hf => ?_, fun f hf => ?_, fun D3 H15 hD3 g15 h15 => ?_⟩
      · rw [← hlv] at hf
        obtain ⟨_, _, q0, q1, q2⟩ := lvok f hf
        exact ⟨q0, q1.le (by decide), q2.le (by decide)⟩
      · obtain ⟨_, q0, q1, q2⟩ := wp_bits hu hQ hz f hf
        exact ⟨q0, q1.le (by decide), q2.le (by decide)⟩
      rw [water_eq rl rok.pos hQ hV] at h15
      have e15 := (e14.trans g14).trans g15
      have f15 := (f13.trans g14).trans g15
      have hVa15 := hVa.ex f15
      have hFp15 : Fr H15 tp Pu 1 := f15 _ _ hFp
      have hWd15 := ((hWd7.ex e14).ex g14).ex g15
      have hacD15 := e15 _ _ hacD
      have hD15 := hD7.ex e15
      clear hPl hP hxli
      refine ⟨fun σ H' => Evl.Ex H15 H' ∧ σ = [some (.ref sk), some (.ref lv), some (.ref l2), some (.ref tw), some (.ref tp), some (.ref lwd), some (.ref va), v7, some (.int (i : Int)), some (.ref q), some (.ref D3), none, none, none], ?_, ?_⟩
      · by_cases hi0 : i = 0
        · subst hi0
          refine ⟨_, rfl, rfl, _, rfl, if_t (by decide) ⟨_, rfl, _, rfl, prD _, prD _, dp_pr h15, dp_pr hVa15, shp_pr _, shp_pr _, _, rfl, if_f ?_ ?_⟩⟩
          · rw [eqv_pr, decide_eq_true rfl]
            rfl
          · exact ⟨_, rfl, _, _, rfl, rfl, _, rfl, if_f (by decide) (if_f rfl ⟨Evl.Ex.refl _, rfl⟩)⟩
        · obtain ⟨j, rfl⟩ : ∃ j, i = j + 1 := ⟨i - 1, by omega⟩
          have hjl : j < dz.length := by omega
          have ej : ((j + 1 : Nat) : Int) - 1 = (j : Int) := by omega
          obtain ⟨ass, hs1, hs2, hs3⟩ := id hD15
          have hj : dz[j]? = some dz[j] := List.getElem?_eq_getElem hjl
          have haj : ass[j]? = some ass[j] := List.getElem?_eq_getElem (by omega)
          have hda := hs3 j _ _ haj hj
          have hod := (shp_d hS dz[j] (List.getElem_mem hjl)).1
          have hp1 : ∀ k a, dz[j] = .po k a → a ≤ 1000 := fun k a e => hS.p1000 k a (e ▸ List.getElem_mem hjl)
          rw [runA_take hj] at h15 rok
          obtain ⟨rl', rok'⟩ := shp_run hS hu hQ (show j ≤ dz.length by omega)
          refine ⟨_, rfl, rfl, _, rfl, if_f (decide_eq_false fun z => by injection z with z; omega) (if_f rfl ?_)⟩
          refine ⟨_, rfl, _, _, rfl, rfl, _, rfl, if_t (decide_eq_true (by omega)) ?_⟩
          refine ⟨_, rfl, _, rfl, _, _, rfl, rfl, l2, _, _, .ref ass[j], rfl, rfl, SqL.of hs1, (by show atI _ (((j + 1 : Nat) : Int) - 1) = _; rw [ej]; exact atI_nat (by rw [List.getElem?_map, haj]; rfl)), _, rfl, _, rfl, _, rfl, ass[j], va, D3, lwd, dz[j], ts, _, _, u, b, rfl, hda, hVa15, h15, hWd15, rl', h20, hod, rok', ?_, hV, hQ, hu, hz, hp1, fun H16 g16 => ⟨true, rfl, if_f rfl ⟨g16, rfl⟩⟩⟩
          exact ⟨rok.nn, fun x hx => (rok.bA x hx).le (by decide), rok.bW.le (by decide), rok.pos⟩
      rintro σ H16 ⟨g16, rfl⟩
      have e16 := e15.trans g16
      refine ⟨fun σ H' => ∃ (tp : Addr) (Pt : Int), Evl.Ex H16 H' ∧ σ = [some (.ref sk), some (.ref lv), some (.ref l2), some (.ref tw), some (.ref tp), some (.ref lwd), some (.ref va), v7, some (.int (i : Int)), some (.ref q), some (.ref D3), none, none, none] ∧ Fr H' tp Pt 1 ∧ (runA (ts.map (wid u b)) (amts ts, 1) (dz.take i)).1.sum ≤ Pt * (runA (ts.map (wid u b)) (amts ts, 1) (dz.take i)).2 ∧ 0 ≤ Pt ∧ Pt ≤ 20000 + 1000 * ((i + 1 : Nat) : Int), ?_, ?_⟩
      · by_cases hi0 : i = 0
        · subst hi0
          refine ⟨_, rfl, _, _, rfl, rfl, _, rfl, if_f (by decide) (if_f rfl ⟨tp, Pu, Evl.Ex.refl _, rfl, g16 _ _ hFp15, hsum, P0, by omega⟩)⟩
        · obtain ⟨j, rfl⟩ : ∃ j, i = j + 1 := ⟨i - 1, by omega⟩
          have hjl : j < dz.length := by omega
          have ej : ((j + 1 : Nat) : Int) - 1 = (j : Int) := by omega
          obtain ⟨ass, hs1, hs2, hs3⟩ := id (hD7.ex e16)
          have hj : dz[j]? = some dz[j] := List.getElem?_eq_getElem hjl
          have haj : ass[j]? = some ass[j] := List.getElem?_eq_getElem (by omega)
          have hda := hs3 j _ _ haj hj
          have hod := (shp_d hS dz[j] (List.getElem_mem hjl)).1
          have hp1 : ∀ k a, dz[j] = .po k a → a ≤ 1000 := fun k a e => hS.p1000 k a (e ▸ List.getElem_mem hjl)
          obtain ⟨rl', rok'⟩ := shp_run hS hu hQ (show j ≤ dz.length by omega)
          have hstep := step_sum (d := dz[j]) (P := Pu) rl' (by rw [List.length_map]) rok'.nn rok'.pos hod hsum hV.pos
          have hrt : runA (ts.map (wid u b)) (amts ts, 1) (dz.take (j + 1)) = stepA (ts.map (wid u b)) (runA (ts.map (wid u b)) (amts ts, 1) (dz.take j)) dz[j] := runA_take hj
          refine ⟨_, rfl, _, _, rfl, rfl, _, rfl, if_t (decide_eq_true (by omega)) ?_⟩
          have hat1' : ∀ H', Evl.Ex H16 H' → H' l2 = some (.lst (ass.map V.ref)) := fun H' g => g _ _ hs1
          have haj2 : atI (ass.map V.ref) (((j + 1 : Nat) : Int) - 1) = some (.ref ass[j]) := by
            rw [ej]
            exact atI_nat (by rw [List.getElem?_map, haj]; rfl)
          rcases dat_pour hda with ⟨kk, xx, hpx⟩ | ⟨x2, r2, hx2, hne, hp0⟩
          · rw [hpx] at hda hstep hod
            have hda : H16 ass[j] = some (.tup [.str "pour", .int kk, .int xx]) := hda
            have x1 := hp1 kk xx hpx
            have x0 : 0 ≤ xx := hod.2
            refine ⟨_, rfl, _, rfl, _, _, rfl, rfl, l2, _, _, .ref ass[j], rfl, rfl, SqL.of hs1, haj2, ass[j], _, _, _, rfl, rfl, SqT.of hda, rfl, rfl, _, rfl, if_t (by decide) ?_⟩
            refine ⟨_, rfl, _, rfl, _, rfl, _, _, rfl, rfl, l2, _, _, .ref ass[j], rfl, rfl, SqL.of hs1, haj2, ass[j], _, _, _, rfl, rfl, SqT.of hda, rfl, two, fun t9 ht9 => ?_⟩
            have g17 := Evl.Ex.new (o := .tup [.int xx, .int 1]) ht9
            refine ⟨tp, t9, _, _, _, _, rfl, g17 _ _ (g16 _ _ hFp15), upd_same, by decide, by decide, sm (show _ ≤ 100000 by omega), sm (by decide), sm (show _ ≤ 100000 by omega), sm (by decide), fun t10 H17 ht10 g18 h10 => ?_⟩
            have h10 : Fr H17 t10 (fr (Pu * 1 + xx * 1) (1 * 1)).1 (fr (Pu * 1 + xx * 1) (1 * 1)).2 := h10
            rw [Int.mul_one, Int.mul_one, Int.one_mul, fr_1] at h10
            refine ⟨t10, Pu + xx, g17.trans g18, rfl, h10, ?_, by omega, by omega⟩
            rw [hrt, hpx]
            exact hstep
          · refine ⟨_, rfl, _, rfl, _, _, rfl, rfl, l2, _, _, .ref ass[j], rfl, rfl, SqL.of hs1, haj2, ass[j], _, _, _, rfl, rfl, SqT.of hx2, (by exact atI_nat (j := 0) rfl), rfl, _, rfl, if_f hne ⟨tp, Pu, Evl.Ex.refl _, rfl, g16 _ _ hFp15, ?_, P0, by omega⟩⟩
            rw [hp0, Int.add_zero] at hstep
            rw [hrt]
            exact hstep
      rintro σ H17 ⟨tp', Pv, g17, rfl, hFp17, hsum17, Pv0, Pv1⟩
      have f17 := g16.trans g17
      have h17 := h15.ex f17
      obtain ⟨xb, hxb, hxbl, hxbi⟩ := pr_items h17
      rw [bh_len, rl] at hxbl hxbi
      refine ⟨_, rfl, D3, rfl, ⟨_, SqL.of hxb⟩, fun D4 hD4 => lc_list (xs := xb) (fun i H' => Evl.Ex H17 H' ∧ H' D4 = some (.lst [])) ⟨Evl.Ex.new hD4, upd_same⟩ (fun i H' _ q => SqL.of (q.1 _ _ hxb)) ?_ ?_⟩
      · rintro j v H18 hj ⟨g18, h18⟩
        have hjl : j < ts.length := by
          have := (List.getElem?_eq_some_iff.mp hj).1
          omega
        obtain ⟨a, ha1, hFa, hm⟩ := hxbi j hjl
        rw [hj] at ha1
        cases ha1
        obtain ⟨f1, f2, f3⟩ := bh_bits rok _ hm
        have hle : ¬ (Pv * ((Bh (runA (ts.map (wid u b)) (amts ts, 1) (dz.take i)).1 (runA (ts.map (wid u b)) (amts ts, 1) (dz.take i)).2).getD j (0, 1)).2 < ((Bh (runA (ts.map (wid u b)) (amts ts, 1) (dz.take i)).1 (runA (ts.map (wid u b)) (amts ts, 1) (dz.take i)).2).getD j (0, 1)).1 * 1) := by
          rw [bh_get (by omega)]
          have hc := fr_lt (a := Pv) (b := 1) (c := (runA (ts.map (wid u b)) (amts ts, 1) (dz.take i)).1.getD j 0) (d := (runA (ts.map (wid u b)) (amts ts, 1) (dz.take i)).2) (by decide) rok.pos
          rw [fr_1] at hc
          intro z
          have z2 := hc.mp z
          have z3 := sum_mem rok.nn _ (getD_mem' (ns := (runA (ts.map (wid u b)) (amts ts, 1) (dz.take i)).1) (i := j) (by omega))
          omega
        refine ⟨rfl, ?_⟩
        refine ⟨_, rfl, _, rfl, tp', a, _, _, _, _, rfl, g18 _ _ hFp17, g18 _ _ hFa, sm (show _ ≤ 100000 by omega), sm (by decide), f2.le (by decide), f3.le (by decide), fun H19 g19 => ⟨_, rfl, if_f (decide_eq_false hle) ⟨g18.trans g19, g19 _ _ h18⟩⟩⟩
      rintro H18 ⟨g18, h18⟩
      refine ⟨Nat.zero_le _, fun l5 hl5 => ?_⟩
      have g19 := Evl.Ex.new (o := .lst []) hl5
      refine ⟨.list [], .list [], dp_nil (g19 _ _ h18), dp_nil upd_same, shp_nil, shp_nil, _, rfl, if_f (by simp [PyData.eqv, PyData.eqvAll]) ?_⟩
      refine ⟨_, rfl, ?_⟩
      have f19 := (f17.trans g18).trans g19
      exact ⟨tp', D3, Pv, _, _, _, _, rfl, e15.trans f19, h15.ex f19, (g18.trans g19) _ _ hFp17, hsum17, Pv0, Pv1⟩
    · rintro σ H9 ⟨tp, va, Pu, v7, v8, v9, v10, rfl, e9, _⟩
      exact k _ (b7.trans (But.of_ex e9))
end
end V2


namespace V2
open PySem L2
open PySem.Spec PyProof.Rows
theorem sq_ex_but {K : PySem.W.Frag} {H H1 H2 : Hp} {a q : Addr} {xs : List V} (h : SqL K H a xs) (hq : H q = none) (e : Evl.Ex H H1) (b : But q H1 H2) : SqL K H2 a xs := by
  rcases h with h | h
  · left
    have go : ∀ o, H a = some o → H2 a = some o := fun o ho => b a o (ne_of_none ho hq) (e a o ho)
    rcases h with h | ⟨o, h⟩
    · exact .inl (go _ h)
    · exact .inr ⟨o, go _ h⟩
  · exact .inr h
def spLaw (K : PySem.W.Frag) : Sp := fun vs H Q _ => ∃ (a : Addr) (ns : List Int), vs = [.ref a] ∧ SqL K H a (iV ns) ∧ ns.length ≤ 63 ∧ ∀ H', Q (.bl true) H'
structure T6 (mg : Str → Option Value) : Prop where
  rng : mg "range" = none
  len : mg "len" = none
  max : mg "max" = none
  min : mg "min" = none
def Lay (K : PySem.W.Frag) (mg : Str → Option Value) (x : Str) (st : Stmt) (ps : List Str) : Prop := ∃ (f : Addr) (fd : FuncData), Fun K x x st f fd ∧ mg x = some (.ref f) ∧ PySem.W.keepIn K (.ref f) = true ∧ Binds K fd ps []
theorem lay_mk {K : PySem.W.Frag} {h : Heap} {mg : Str → Option Value} {x : Str} {st : Stmt} {ps : List Str} {f : Addr} {od an : Option Addr} {sl : Array (Option Value)} {oc kV dc pm cd ct : Value} (X : K.In h) (G : h.Ns mainGlobals mg)
    (a : PySem.W.nsIn K mainGlobals x = some (some (.ref f))) (l : K.lookup f = some ⟨oc, od, .func (PySem.W.fnOf x x (defArgs st) (defBody st) (defScope st) .none kV dc pm an cd ct), sl⟩) (c : PySem.W.codeIn K cd x = true) (k : PySem.W.keepIn K (.ref f) = true)
    (hb : ∀ (kV doc pm : Value) (an : Option Addr) (cdv ct : Value) (us : List Value), us.length = ps.length → bindArgs (PySem.W.fnOf x x (defArgs st) (defBody st) (defScope st) .none kV doc pm an cdv ct) ⟨us, []⟩ = pure (ps.zip us)) : Lay K mg x st ps :=
  ⟨f, _, fun_mk l c k, PySem.W.mg_of X G a, k, Fun.binds (fun_mk l c k) hb⟩
/-- a method -/
def LayM (K : PySem.W.Frag) (x y : Str) (st : Stmt) (f : Addr) (ps : List Str) : Prop := ∃ fd : FuncData, Fun K x y st f fd ∧ Binds K fd ps []
section
variable {base : Heap} {mg : Str → Option Value} {K : PySem.W.Frag} {w : World} {P : Program}
theorem Lay.cal {x : Str} {st : Stmt} {ps : List Str} {k : Nat} {sp : Sp} (L : Lay K mg x st ps) (h : ∀ f fd, Fun K x x st f fd → FnOk P w K mg base CX0 k f fd ps sp) : Cal P w K mg base k x ps sp := by
  obtain ⟨f, fd, F, m, kp, b⟩ := L
  exact ⟨f, fd, h f fd F, m, kp, b⟩
theorem ok_law {f : Addr} {fd : FuncData} (F : Fun K "law" "law" s_law f fd) (T : T6 mg) (cP : Cal P w K mg base 1 "_law_purse" p__law_purse (spSack K)) (cR : Cal P w K mg base 10 "_law_right" p__law_right spRight) : FnG P w K mg base 11 f fd p_law (spLaw K) := by
  refine Fun.okG F sc_law (fun vs H Q E h => ?_) (fun cdv A outer s H vs Q E hg hr h => ?_)
  · obtain ⟨a, ns, rfl, _⟩ := h
    rfl
  · obtain ⟨a, ns, rfl, hS, hl, k⟩ := h
    have nd := sc_law.nd
    have r1 : Room 1 _ := hr.mono (by decide)
    refine ⟨_, pss_cons (ps_for PassesOwn.never rfl (pi_range1 (by rfl) T.rng (pa_cons (pe_callB (call_max2 rfl) (by rfl) T.max (by decide +kernel) (pa_cons pe_int (pa_cons (pe_callB (call_min2 rfl) (by rfl) T.min (by decide +kernel) (pa_cons pe_int (pa_cons (pe_callB call_len_seq (by rfl) T.len PySem.boot_len (pa_cons (pv 0) pa_nil)) pa_nil))) pa_nil))) pa_nil)) (pg_name (i := 1) nd rfl (Or.inl rfl)) (pss_cons (ps_set (i := 2) nd rfl (Or.inl rfl) (pe_c cP r1 (pa_cons (pv 0) (pa_cons (pv 1) pa_nil))))
      (pss_one (ps_if (pt_not (pt_val (pe_c cR hr (pa_cons (pv 2) pa_nil)))) (pss_one (ps_ret pe_bl)) pss_nil))))
      (pss_one (ps_ret pe_bl)), ?_⟩
    refine ⟨_, rfl, a, _, rfl, .inl hS, _, _, rfl, _, _, rfl, _, rfl, ?_, ?_, ?_⟩
    · split <;> split <;> omega
    · split <;> split <;> omega
    have hb : (if (if ((iV ns).length : Int) < 3 then ((iV ns).length : Int) else 3) > 1 then (if ((iV ns).length : Int) < 3 then ((iV ns).length : Int) else 3) else 1 : Int) ≤ 3 := by split <;> split <;> omega
    generalize (if (if ((iV ns).length : Int) < 3 then ((iV ns).length : Int) else 3) > 1 then (if ((iV ns).length : Int) < 3 then ((iV ns).length : Int) else 3) else 1 : Int) = n at hb
    refine for_range (n := n.toNat) (fun i σ H' => ∃ v1 v2, σ = [some (.ref a), v1, v2] ∧ SqL K H' a (iV ns)) ⟨none, none, rfl, hS⟩ ?_ ?_
    · rintro i σ H1 hi ⟨v1, v2, rfl, hS1⟩
      refine ⟨_, rfl, _, rfl, a, ns, i, ?_, hS1, hl, by omega, fun q H2 hq e2 h2 => ?_⟩
      · rw [Int.zero_add]
        rfl
      exact ⟨_, rfl, q, rfl, h2, fun H3 b3 => ⟨true, rfl, if_f rfl ⟨_, _, rfl, sq_ex_but hS1 hq e2 b3⟩⟩⟩
    · rintro σ H1 ⟨v1, v2, rfl, hS1⟩
      exact k H1
structure Top (K : PySem.W.Frag) (w : World) (mg : Str → Option Value) (C fI fT fS pT pS aT : Addr) (es : Array DictEntry) (nT : Nat) (t1 t2 t3 t4 t5 : Tok) : Prop where
  order_of_fractions_ : Lay K mg "order_of_fractions" s_order_of_fractions p_order_of_fractions
  sign_of_ : Lay K mg "sign_of" s_sign_of p_sign_of
  cut_ : Lay K mg "cut" s_cut p_cut
  negated_ : Lay K mg "negated" s_negated p_negated
  added_ : Lay K mg "added" s_added p_added
  multiplied_ : Lay K mg "multiplied" s_multiplied p_multiplied
  content_ : Lay K mg "content" s_content p_content
  primitive_ : Lay K mg "primitive" s_primitive p_primitive
  upright_ : Lay K mg "upright" s_upright p_upright
  remainder_ : Lay K mg "remainder" s_remainder p_remainder
  quotient_ : Lay K mg "quotient" s_quotient p_quotient
  common_factor_ : Lay K mg "common_factor" s_common_factor p_common_factor
  copied_ : Lay K mg "copied" s_copied p_copied
  is_integer_ : Lay K mg "is_integer" s_is_integer p_is_integer
  is_fraction_ : Lay K mg "is_fraction" s_is_fraction p_is_fraction
  check_width_ : Lay K mg "check_width" s_check_width p_check_width
  reduced_ : Lay K mg "reduced" s_reduced p_reduced
  told_widths_ : Lay K mg "told_widths" s_told_widths p_told_widths
  first_water_ : Lay K mg "first_water" s_first_water p_first_water
  sum_of_ : Lay K mg "sum_of" s_sum_of p_sum_of
  together_ : Lay K mg "together" s_together p_together
  after_ : Lay K mg "after" s_after p_after
  opened_ : Lay K mg "opened" s_opened p_opened
  poured_ : Lay K mg "poured" s_poured p_poured
  taken_ : Lay K mg "taken" s_taken p_taken
  levels_ : Lay K mg "levels" s_levels p_levels
  number_of_ : Lay K mg "number_of" s_number_of p_number_of
  is_ended_ : Lay K mg "is_ended" s_is_ended p_is_ended
  told_levels_ : Lay K mg "told_levels" s_told_levels p_told_levels
  run_of_ : Lay K mg "run_of" s_run_of p_run_of
  run_ : Lay K mg "run" s_run p_run
  is_amount_ : Lay K mg "is_amount" s_is_amount p_is_amount
  is_tank_ : Lay K mg "is_tank" s_is_tank p_is_tank
  check_tanks_ : Lay K mg "check_tanks" s_check_tanks p_check_tanks
  is_ascending_ : Lay K mg "is_ascending" s_is_ascending p_is_ascending
  is_step_ : Lay K mg "is_step" s_is_step p_is_step
  tanks_of_ : Lay K mg "tanks_of" s_tanks_of p_tanks_of
  check_numbers_ : Lay K mg "check_numbers" s_check_numbers p_check_numbers
  check_part_ : Lay K mg "check_part" s_check_part p_check_part
  check_step_ : Lay K mg "check_step" s_check_step p_check_step
  _law_purse_ : Lay K mg "_law_purse" s__law_purse p__law_purse
  _law_coin_ : Lay K mg "_law_coin" s__law_coin p__law_coin
  _law_wl_divisor_ : Lay K mg "_law_wl_divisor" s__law_wl_divisor p__law_wl_divisor
  _law_wl_ratio_ : Lay K mg "_law_wl_ratio" s__law_wl_ratio p__law_wl_ratio
  _law_wl_plus_ : Lay K mg "_law_wl_plus" s__law_wl_plus p__law_wl_plus
  _law_wl_times_ : Lay K mg "_law_wl_times" s__law_wl_times p__law_wl_times
  _law_wl_less_ : Lay K mg "_law_wl_less" s__law_wl_less p__law_wl_less
  _law_wl_new_ : Lay K mg "_law_wl_new" s__law_wl_new p__law_wl_new
  _law_wl_part_ : Lay K mg "_law_wl_part" s__law_wl_part p__law_wl_part
  _law_wl_two_ : Lay K mg "_law_wl_two" s__law_wl_two p__law_wl_two
  _law_wl_vats_ : Lay K mg "_law_wl_vats" s__law_wl_vats p__law_wl_vats
  _law_wl_deed_ : Lay K mg "_law_wl_deed" s__law_wl_deed p__law_wl_deed
  _law_wl_plan_ : Lay K mg "_law_wl_plan" s__law_wl_plan p__law_wl_plan
  _law_wl_great_ : Lay K mg "_law_wl_great" s__law_wl_great p__law_wl_great
  _law_wl_width_ : Lay K mg "_law_wl_width" s__law_wl_width p__law_wl_width
  _law_wl_fraction_ : Lay K mg "_law_wl_fraction" s__law_wl_fraction p__law_wl_fraction
  _law_step_right_ : Lay K mg "_law_step_right" s__law_step_right p__law_step_right
  _law_waters_ : Lay K mg "_law_waters" s__law_waters p__law_waters
  _law_right_ : Lay K mg "_law_right" s__law_right p__law_right
  Sc_init_ : LayM K "__init__" "Script.__init__" s_Sc_init fI p_Sc_init
  Sc_tanks_ : LayM K "tanks" "Script.tanks" s_Sc_tanks fT p_Sc_tanks
  Sc_steps_ : LayM K "steps" "Script.steps" s_Sc_steps fS p_Sc_steps
  sc : ScC K C fI fT fS pT pS
  th : Th K w mg aT es nT t1 t2 t3 t4 t5
  gC : mg "Script" = some (.ref C)
  z_gcd : mg "gcd" = some (.builtin "math.gcd")
  z_len : mg "len" = none
  z_max : mg "max" = none
  z_abs : mg "abs" = none
  z_int : mg "int" = none
  z_range : mg "range" = none
  z_list : mg "list" = none
  z_enumerate : mg "enumerate" = none
  z_isinstance : mg "isinstance" = none
  z_bool : mg "bool" = none
  z_tuple : mg "tuple" = none
  z_all : mg "all" = none
  z_min : mg "min" = none
  z_str : mg "str" = none
theorem whole {C fI fT fS pT pS aT : Addr} {es : Array DictEntry} {nT : Nat} {t1 t2 t3 t4 t5 : Tok} (T : Top K w mg C fI fT fS pT pS aT es nT t1 t2 t3 t4 t5) {f : Addr} {fd : FuncData} (F : Fun K "law" "law" s_law f fd) : FnG P w K mg base 11 f fd p_law (spLaw K) := by
  have t0 : T0 mg := ⟨T.z_len, T.z_max, T.z_abs, T.z_int⟩
  have t2 : T2 mg := ⟨T.z_len, T.z_max, T.z_range, T.z_enumerate⟩
  have t3 : T3 mg := ⟨T.z_isinstance, T.z_int, T.z_bool, T.z_list, T.z_tuple, T.z_len, T.z_all, T.z_gcd⟩
  have t5 : T5 mg := ⟨T.z_isinstance, T.z_list, T.z_tuple⟩
  have t7 : T7 mg := ⟨T.z_len, T.z_abs, T.z_enumerate, T.z_gcd⟩
  have coin : Cal P w K mg base 1 "_law_coin" p__law_coin spCoin := T._law_coin_.cal fun f fd F => ok__coin F t0
  have purse : Cal P w K mg base 1 "_law_purse" p__law_purse (spSack K) := T._law_purse_.cal fun f fd F => ok__purse F t0
  have divisor : Cal P w K mg base 1 "_law_wl_divisor" p__law_wl_divisor spGcd := T._law_wl_divisor_.cal fun f fd F => ok__divisor F t0
  have ratio : Cal P w K mg base 2 "_law_wl_ratio" p__law_wl_ratio spRt := T._law_wl_ratio_.cal fun f fd F => ok__ratio F divisor
  have plus : Cal P w K mg base 3 "_law_wl_plus" p__law_wl_plus spA := T._law_wl_plus_.cal fun f fd F => ok__plus F ratio
  have times : Cal P w K mg base 3 "_law_wl_times" p__law_wl_times spM := T._law_wl_times_.cal fun f fd F => ok__times F ratio
  have less : Cal P w K mg base 1 "_law_wl_less" p__law_wl_less spFl := T._law_wl_less_.cal fun f fd F => ok__less F
  have part : Cal P w K mg base 3 "_law_wl_part" p__law_wl_part spPt := T._law_wl_part_.cal fun f fd F => ok__part F coin ratio
  have two : Cal P w K mg base 2 "_law_wl_two" p__law_wl_two spTwo2 := T._law_wl_two_.cal fun f fd F => ok__two F t0 coin
  have vats : Cal P w K mg base 2 "_law_wl_vats" p__law_wl_vats spVats := T._law_wl_vats_.cal fun f fd F => ok__vats F T.z_range coin
  have deed : Cal P w K mg base 4 "_law_wl_deed" p__law_wl_deed spDeed := T._law_wl_deed_.cal fun f fd F => ok__deed F T.z_range coin part two
  have great : Cal P w K mg base 5 "_law_wl_great" p__law_wl_great spGreat := T._law_wl_great_.cal fun f fd F => ok__great F T.z_range coin vats deed
  have width : Cal P w K mg base 3 "_law_wl_width" p__law_wl_width spWid := T._law_wl_width_.cal fun f fd F => ok__width F coin ratio
  have plan : Cal P w K mg base 5 "_law_wl_plan" p__law_wl_plan spPlan := T._law_wl_plan_.cal fun f fd F => ok__plan F t0 coin vats deed
  have fraction : Cal P w K mg base 2 "_law_wl_fraction" p__law_wl_fraction spFrac := T._law_wl_fraction_.cal fun f fd F => ok__fraction F t3 divisor
  have waters : Cal P w K mg base 4 "_law_waters" p__law_waters spWaters := T._law_waters_.cal fun f fd F => ok__waters F T.z_range T.z_len times
  have step : Cal P w K mg base 4 "_law_step_right" p__law_step_right spStepR := T._law_step_right_.cal fun f fd F => ok__step F T.z_range T.z_len T.z_list plus times less
  have cut : Cal P w K mg base 1 "cut" p_cut (spTrim K) := T.cut_.cal fun f fd F => ok_cut F T.z_len
  have isint : Cal P w K mg base 1 "is_integer" p_is_integer spInt := T.is_integer_.cal fun f fd F => ok_is_integer F t3
  have isfr : Cal P w K mg base 2 "is_fraction" p_is_fraction spIsFr := T.is_fraction_.cal fun f fd F => ok_is_fraction F t3 isint
  have content : Cal P w K mg base 1 "content" p_content (spCont K) := T.content_.cal fun f fd F => ok_content F T.z_gcd
  have prim_ : Cal P w K mg base 2 "primitive" p_primitive spPrim := T.primitive_.cal fun f fd F => ok_primitive F content
  have rem : Cal P w K mg base 3 "remainder" p_remainder spRemW := T.remainder_.cal fun f fd F => ok_remainder F t7 cut prim_
  have addW : Cal P w K mg base 2 "added" p_added (spTwoW (fun _ _ => True) fun xs ys => trm (padd xs ys)) := T.added_.cal fun f fd F => ok_addedW F t2 cut
  have mulC : Cal P w K mg base 1 "multiplied" p_multiplied spMc := T.multiplied_.cal fun f fd F => (ok_multipliedW F t2).imp mc_of
  have addC : Cal P w K mg base 2 "added" p_added spAc := T.added_.cal fun f fd F => (ok_addedW F t2 cut).imp ac_of
  have upr : Cal P w K mg base 3 "upright" p_upright spUp1 := T.upright_.cal fun f fd F => ok_upright1 F prim_
  have comm : Cal P w K mg base 4 "common_factor" p_common_factor spCf1 := T.common_factor_.cal fun f fd F => ok_common1 F rem upr
  have quo : Cal P w K mg base 1 "quotient" p_quotient spQ1 := T.quotient_.cal fun f fd F => ok_quotient1 F t2 T.z_list
  have red : Cal P w K mg base 5 "reduced" p_reduced spRed1 := T.reduced_.cal fun f fd F => ok_reduced1 F T.z_gcd comm quo content
  have cp0 : Cal P w K mg base 1 "copied" p_copied (spCp 0) := T.copied_.cal fun f fd F => ok_copied0 F t5
  have cp1 : Cal P w K mg base 2 "copied" p_copied (spCp 1) := T.copied_.cal fun f fd F => ok_copiedS F t5 cp0
  have cp2 : Cal P w K mg base 3 "copied" p_copied (spCp 2) := T.copied_.cal fun f fd F => ok_copiedS F t5 cp1
  have cp3 : Cal P w K mg base 4 "copied" p_copied (spCp 3) := T.copied_.cal fun f fd F => ok_copiedS F t5 cp2
  have amt : Cal P w K mg base 2 "is_amount" p_is_amount spAmt := T.is_amount_.cal fun f fd F => ok_is_amount F isint
  have tank : Cal P w K mg base 3 "is_tank" p_is_tank spTank := T.is_tank_.cal fun f fd F => ok_is_tank F t3 isint amt
  have chkT : Cal P w K mg base 4 "check_tanks" p_check_tanks spChkT := T.check_tanks_.cal fun f fd F => ok_check_tanks F T.z_len tank
  have asc : Cal P w K mg base 2 "is_ascending" p_is_ascending spAsc := T.is_ascending_.cal fun f fd F => ok_is_ascending F t3 T.z_range isint
  have isstep : Cal P w K mg base 3 "is_step" p_is_step spStep := T.is_step_.cal fun f fd F => ok_is_step F t3 T.z_str T.th asc amt
  have sgn_ : Cal P w K mg base 1 "sign_of" p_sign_of spSgn := T.sign_of_.cal fun f fd F => ok_sign_of F
  have ord_ : Cal P w K mg base 2 "order_of_fractions" p_order_of_fractions spOrd := T.order_of_fractions_.cal fun f fd F => ok_order F sgn_
  have tof : ∀ n, Cal P w K mg base 1 "tanks_of" p_tanks_of (spTof n) := fun n => T.tanks_of_.cal fun f fd F => ok_tanks_of F
  have nums : Cal P w K mg base 3 "check_numbers" p_check_numbers spNums := T.check_numbers_.cal fun f fd F => ok_check_numbers F amt
  have chkP : Cal P w K mg base 3 "check_part" p_check_part spPart := T.check_part_.cal fun f fd F => ok_check_part F isfr ord_
  have chkS : Cal P w K mg base 4 "check_step" p_check_step spChkS := T.check_step_.cal fun f fd F => ok_check_step F isstep tof nums chkP
  have told : Cal P w K mg base 1 "told_widths" p_told_widths spTold := T.told_widths_.cal fun f fd F => ok_told_widths F
  have first : Cal P w K mg base 2 "first_water" p_first_water spFirst := T.first_water_.cal fun f fd F => ok_first_water F cut
  have sum : Cal P w K mg base 3 "sum_of" p_sum_of spSum := T.sum_of_.cal fun f fd F => ok_sum_of F addW
  have tog : Cal P w K mg base 4 "together" p_together spTog := T.together_.cal fun f fd F => ok_together F sum
  have opened : Cal P w K mg base 5 "opened" p_opened spOpen := T.opened_.cal fun f fd F => ok_opened F t2 tog mulC
  have poured : Cal P w K mg base 3 "poured" p_poured spPour := T.poured_.cal fun f fd F => ok_poured F t2 cut mulC addC
  have taken : Cal P w K mg base 3 "taken" p_taken spTake := T.taken_.cal fun f fd F => ok_taken F cut mulC addC
  have after_ : Cal P w K mg base 6 "after" p_after spAfter := T.after_.cal fun f fd F => ok_after F opened poured taken
  have levels_ : Cal P w K mg base 6 "levels" p_levels spLev := T.levels_.cal fun f fd F => ok_levels F t2 mulC red
  have numof : Cal P w K mg base 1 "number_of" p_number_of spNum := T.number_of_.cal fun f fd F => ok_number_of F
  have ended : Cal P w K mg base 1 "is_ended" p_is_ended spEnd := T.is_ended_.cal fun f fd F => ok_is_ended F
  have tl : Cal P w K mg base 7 "told_levels" p_told_levels spTL := T.told_levels_.cal fun f fd F => ok_told_levels F numof levels_
  have runof : Cal P w K mg base 8 "run_of" p_run_of spRunOf := T.run_of_.cal fun f fd F => ok_run_of F t2 told first after_ ended tl
  have chkW : Cal P w K mg base 3 "check_width" p_check_width spCw := T.check_width_.cal fun f fd F => ok_check_width F isfr
  obtain ⟨fdI, FI, bI⟩ := T.Sc_init_
  obtain ⟨fdT, FT, bT⟩ := T.Sc_tanks_
  obtain ⟨fdS, FS, bS⟩ := T.Sc_steps_
  have init := ok_Sc_init (P := P) (w := w) (mg := mg) (base := base) FI T.z_len T.sc cp2 cp3 chkT chkS
  have gT := ok_Sc_tanks (P := P) (w := w) (mg := mg) (base := base) FT T.sc cp2
  have gS := ok_Sc_steps (P := P) (w := w) (mg := mg) (base := base) FS T.sc cp3
  have new : Cal P w K mg base 7 "_law_wl_new" p__law_wl_new (spNew C) := T._law_wl_new_.cal fun f fd F => ok__new (f := f) F T.z_list T.gC T.sc init bI
  have run_ : Cal P w K mg base 9 "run" p_run (spRun C) := T.run_.cal fun f fd F => ok_run (f := f) F T.sc gT bT gS bS chkW runof
  have right : Cal P w K mg base 10 "_law_right" p__law_right spRight := T._law_right_.cal fun f fd F => ok__right F T.z_range T.z_len T.z_all coin great plan width plus run_ new fraction waters step less
  exact ok_law F ⟨T.z_range, T.z_len, T.z_max, T.z_min⟩ purse right
end
end V2


namespace V2
open PySem L2
open PySem.Spec PyProof.Rows
theorem all_mk {l : PySem.W.OpenLaw} {w : World} {K : PySem.W.Frag} {h : Heap} {mg : Str → Option Value} {fa f_order_of_fractions f_sign_of f_cut f_negated f_added f_multiplied f_content f_primitive f_upright f_remainder f_quotient f_common_factor f_copied f_is_integer f_is_fraction f_check_width f_reduced f_told_widths f_first_water f_sum_of f_together f_after f_opened f_poured f_taken f_levels f_number_of f_is_ended f_told_levels f_run_of f_run f_is_amount f_is_tank f_check_tanks f_is_ascending f_is_step f_tanks_of f_check_numbers f_check_part f_check_step f__law_purse f__law_coin f__law_wl_divisor f__law_wl_ratio f__law_wl_plus f__law_wl_times f__law_wl_less f__law_wl_new f__law_wl_part f__law_wl_two f__law_wl_vats f__law_wl_deed f__law_wl_plan f__law_wl_great f__law_wl_width f__law_wl_fraction f__law_step_right f__law_waters f__law_right f_lw f_I f_T f_S C_S p_T p_S a_T : Addr}
    {od_order_of_fractions an_order_of_fractions od_sign_of an_sign_of od_cut an_cut od_negated an_negated od_added an_added od_multiplied an_multiplied od_content an_content od_primitive an_primitive od_upright an_upright od_remainder an_remainder od_quotient an_quotient od_common_factor an_common_factor od_copied an_copied od_is_integer an_is_integer od_is_fraction an_is_fraction od_check_width an_check_width od_reduced an_reduced od_told_widths an_told_widths od_first_water an_first_water od_sum_of an_sum_of od_together an_together od_after an_after od_opened an_opened od_poured an_poured od_taken an_taken od_levels an_levels od_number_of an_number_of od_is_ended an_is_ended od_told_levels an_told_levels od_run_of an_run_of od_run an_run od_is_amount an_is_amount od_is_tank an_is_tank od_check_tanks an_check_tanks od_is_ascending an_is_ascending od_is_step an_is_step od_tanks_of an_tanks_of od_check_numbers an_check_numbers od_check_part an_check_part od_check_step an_check_step od__law_purse an__law_purse od__law_coin an__law_coin od__law_wl_divisor an__law_wl_divisor od__law_wl_ratio an__law_wl_ratio od__law_wl_plus an__law_wl_plus od__law_wl_times an__law_wl_times od__law_wl_less an__law_wl_less od__law_wl_new an__law_wl_new od__law_wl_part an__law_wl_part od__law_wl_two an__law_wl_two od__law_wl_vats an__law_wl_vats od__law_wl_deed an__law_wl_deed od__law_wl_plan an__law_wl_plan od__law_wl_great an__law_wl_great od__law_wl_width an__law_wl_width od__law_wl_fraction an__law_wl_fraction od__law_step_right an__law_step_right od__law_waters an__law_waters od__law_right an__law_right od_lw an_lw od_I an_I od_T an_T od_S an_S : Option Addr} {sl_order_of_fractions sl_sign_of sl_cut sl_negated sl_added sl_multiplied sl_content sl_primitive sl_upright sl_remainder sl_quotient sl_common_factor sl_copied sl_is_integer sl_is_fraction sl_check_width sl_reduced sl_told_widths sl_first_water sl_sum_of sl_together sl_after sl_opened sl_poured sl_taken sl_levels sl_number_of sl_is_ended sl_told_levels sl_run_of sl_run sl_is_amount sl_is_tank sl_check_tanks sl_is_ascending sl_is_step sl_tanks_of sl_check_numbers sl_check_part sl_check_step sl__law_purse sl__law_coin sl__law_wl_divisor sl__law_wl_ratio sl__law_wl_plus sl__law_wl_times sl__law_wl_less sl__law_wl_new sl__law_wl_part sl__law_wl_two sl__law_wl_vats sl__law_wl_deed sl__law_wl_plan sl__law_wl_great sl__law_wl_width sl__law_wl_fraction sl__law_step_right sl__law_waters sl__law_right sl_lw sl_I sl_T sl_S : Array (Option Value)} {oc_order_of_fractions kV_order_of_fractions dc_order_of_fractions pm_order_of_fractions cd_order_of_fractions ct_order_of_fractions oc_sign_of kV_sign_of dc_sign_of pm_sign_of cd_sign_of ct_sign_of oc_cut kV_cut dc_cut pm_cut cd_cut ct_cut oc_negated kV_negated dc_negated pm_negated cd_negated ct_negated oc_added kV_added dc_added pm_added cd_added ct_added oc_multiplied kV_multiplied dc_multiplied pm_multiplied cd_multiplied ct_multiplied oc_content kV_content dc_content pm_content cd_content ct_content oc_primitive kV_primitive dc_primitive pm_primitive cd_primitive ct_primitive oc_upright kV_upright dc_upright pm_upright cd_upright ct_upright oc_remainder kV_remainder dc_remainder pm_remainder cd_remainder ct_remainder oc_quotient kV_quotient dc_quotient pm_quotient cd_quotient ct_quotient oc_common_factor kV_common_factor dc_common_factor pm_common_factor cd_common_factor ct_common_factor oc_copied kV_copied dc_copied pm_copied cd_copied ct_copied oc_is_integer kV_is_integer dc_is_integer pm_is_integer cd_is_integer ct_is_integer oc_is_fraction kV_is_fraction dc_is_fraction pm_is_fraction cd_is_fraction ct_is_fraction oc_check_width kV_check_width dc_check_width pm_check_width cd_check_width ct_check_width oc_reduced kV_reduced dc_reduced pm_reduced cd_reduced ct_reduced oc_told_widths kV_told_widths dc_told_widths pm_told_widths cd_told_widths ct_told_widths oc_first_water kV_first_water dc_first_water pm_first_water cd_first_water ct_first_water oc_sum_of kV_sum_of dc_sum_of pm_sum_of cd_sum_of ct_sum_of oc_together kV_together dc_together pm_together cd_together ct_together oc_after kV_after dc_after pm_after cd_after ct_after oc_opened kV_opened dc_opened pm_opened cd_opened ct_opened oc_poured kV_poured dc_poured pm_poured cd_poured ct_poured oc_taken kV_taken dc_taken pm_taken cd_taken ct_taken oc_levels kV_levels dc_levels pm_levels cd_levels ct_levels oc_number_of kV_number_of dc_number_of pm_number_of cd_number_of ct_number_of oc_is_ended kV_is_ended dc_is_ended pm_is_ended cd_is_ended ct_is_ended oc_told_levels kV_told_levels dc_told_levels pm_told_levels cd_told_levels ct_told_levels oc_run_of kV_run_of dc_run_of pm_run_of cd_run_of ct_run_of oc_run kV_run dc_run pm_run cd_run ct_run oc_is_amount kV_is_amount dc_is_amount pm_is_amount cd_is_amount ct_is_amount oc_is_tank kV_is_tank dc_is_tank pm_is_tank cd_is_tank ct_is_tank oc_check_tanks kV_check_tanks dc_check_tanks pm_check_tanks cd_check_tanks ct_check_tanks oc_is_ascending kV_is_ascending dc_is_ascending pm_is_ascending cd_is_ascending ct_is_ascending oc_is_step kV_is_step dc_is_step pm_is_step cd_is_step ct_is_step oc_tanks_of kV_tanks_of dc_tanks_of pm_tanks_of cd_tanks_of ct_tanks_of oc_check_numbers kV_check_numbers dc_check_numbers pm_check_numbers cd_check_numbers ct_check_numbers oc_check_part kV_check_part dc_check_part pm_check_part cd_check_part ct_check_part oc_check_step kV_check_step dc_check_step pm_check_step cd_check_step ct_check_step oc__law_purse kV__law_purse dc__law_purse pm__law_purse cd__law_purse ct__law_purse oc__law_coin kV__law_coin dc__law_coin pm__law_coin cd__law_coin ct__law_coin oc__law_wl_divisor kV__law_wl_divisor dc__law_wl_divisor pm__law_wl_divisor cd__law_wl_divisor ct__law_wl_divisor oc__law_wl_ratio kV__law_wl_ratio dc__law_wl_ratio pm__law_wl_ratio cd__law_wl_ratio ct__law_wl_ratio oc__law_wl_plus kV__law_wl_plus dc__law_wl_plus pm__law_wl_plus cd__law_wl_plus ct__law_wl_plus oc__law_wl_times kV__law_wl_times dc__law_wl_times pm__law_wl_times cd__law_wl_times ct__law_wl_times oc__law_wl_less kV__law_wl_less dc__law_wl_less pm__law_wl_less cd__law_wl_less ct__law_wl_less oc__law_wl_new kV__law_wl_new dc__law_wl_new pm__law_wl_new cd__law_wl_new ct__law_wl_new oc__law_wl_part kV__law_wl_part dc__law_wl_part pm__law_wl_part cd__law_wl_part ct__law_wl_part oc__law_wl_two kV__law_wl_two dc__law_wl_two pm__law_wl_two cd__law_wl_two ct__law_wl_two oc__law_wl_vats kV__law_wl_vats dc__law_wl_vats pm__law_wl_vats cd__law_wl_vats ct__law_wl_vats oc__law_wl_deed kV__law_wl_deed dc__law_wl_deed pm__law_wl_deed cd__law_wl_deed ct__law_wl_deed oc__law_wl_plan kV__law_wl_plan dc__law_wl_plan pm__law_wl_plan cd__law_wl_plan ct__law_wl_plan oc__law_wl_great kV__law_wl_great dc__law_wl_great pm__law_wl_great cd__law_wl_great ct__law_wl_great oc__law_wl_width kV__law_wl_width dc__law_wl_width pm__law_wl_width cd__law_wl_width ct__law_wl_width oc__law_wl_fraction kV__law_wl_fraction dc__law_wl_fraction pm__law_wl_fraction cd__law_wl_fraction ct__law_wl_fraction oc__law_step_right kV__law_step_right dc__law_step_right pm__law_step_right cd__law_step_right ct__law_step_right oc__law_waters kV__law_waters dc__law_waters pm__law_waters cd__law_waters ct__law_waters oc__law_right kV__law_right dc__law_right pm__law_right cd__law_right ct__law_right oc_lw kV_lw dc_lw pm_lw cd_lw ct_lw oc_I kV_I dc_I pm_I cd_I ct_I oc_T kV_T dc_T pm_T cd_T ct_T oc_S kV_S dc_S pm_S cd_S ct_S : Value} {rs_T rs_S : List Value} {e_T : Array DictEntry} {n_T : Nat} {t_0 t_1 t_2 t_3 t_4 : Tok}
    (X : K.In h) (G : h.Ns mainGlobals mg) (hfa : mg "law" = some (.ref fa))
    (a_order_of_fractions : PySem.W.nsIn K mainGlobals "order_of_fractions" = some (some (.ref f_order_of_fractions)))
    (l_order_of_fractions : K.lookup f_order_of_fractions = some ⟨oc_order_of_fractions, od_order_of_fractions, .func (PySem.W.fnOf "order_of_fractions" "order_of_fractions" (defArgs s_order_of_fractions) (defBody s_order_of_fractions) (defScope s_order_of_fractions) .none kV_order_of_fractions dc_order_of_fractions pm_order_of_fractions an_order_of_fractions cd_order_of_fractions ct_order_of_fractions), sl_order_of_fractions⟩)
    (c_order_of_fractions : PySem.W.codeIn K cd_order_of_fractions "order_of_fractions" = true)
    (k_order_of_fractions : PySem.W.keepIn K (.ref f_order_of_fractions) = true)
    (a_sign_of : PySem.W.nsIn K mainGlobals "sign_of" = some (some (.ref f_sign_of)))
    (l_sign_of : K.lookup f_sign_of = some ⟨oc_sign_of, od_sign_of, .func (PySem.W.fnOf "sign_of" "sign_of" (defArgs s_sign_of) (defBody s_sign_of) (defScope s_sign_of) .none kV_sign_of dc_sign_of pm_sign_of an_sign_of cd_sign_of ct_sign_of), sl_sign_of⟩)
    (c_sign_of : PySem.W.codeIn K cd_sign_of "sign_of" = true)
    (k_sign_of : PySem.W.keepIn K (.ref f_sign_of) = true)
    (a_cut : PySem.W.nsIn K mainGlobals "cut" = some (some (.ref f_cut)))
    (l_cut : K.lookup f_cut = some ⟨oc_cut, od_cut, .func (PySem.W.fnOf "cut" "cut" (defArgs s_cut) (defBody s_cut) (defScope s_cut) .none kV_cut dc_cut pm_cut an_cut cd_cut ct_cut), sl_cut⟩)
    (c_cut : PySem.W.codeIn K cd_cut "cut" = true)
    (k_cut : PySem.W.keepIn K (.ref f_cut) = true)
    (a_negated : PySem.W.nsIn K mainGlobals "negated" = some (some (.ref f_negated)))
    (l_negated : K.lookup f_negated = some ⟨oc_negated, od_negated, .func (PySem.W.fnOf "negated" "negated" (defArgs s_negated) (defBody s_negated) (defScope s_negated) .none kV_negated dc_negated pm_negated an_negated cd_negated ct_negated), sl_negated⟩)
    (c_negated : PySem.W.codeIn K cd_negated "negated" = true)
    (k_negated : PySem.W.keepIn K (.ref f_negated) = true)
    (a_added : PySem.W.nsIn K mainGlobals "added" = some (some (.ref f_added)))
    (l_added : K.lookup f_added = some ⟨oc_added, od_added, .func (PySem.W.fnOf "added" "added" (defArgs s_added) (defBody s_added) (defScope s_added) .none kV_added dc_added pm_added an_added cd_added ct_added), sl_added⟩)
    (c_added : PySem.W.codeIn K cd_added "added" = true)
    (k_added : PySem.W.keepIn K (.ref f_added) = true)
    (a_multiplied : PySem.W.nsIn K mainGlobals "multiplied" = some (some (.ref f_multiplied)))
    (l_multiplied : K.lookup f_multiplied = some ⟨oc_multiplied, od_multiplied, .func (PySem.W.fnOf "multiplied" "multiplied" (defArgs s_multiplied) (defBody s_multiplied) (defScope s_multiplied) .none kV_multiplied dc_multiplied pm_multiplied an_multiplied cd_multiplied ct_multiplied), sl_multiplied⟩)
    (c_multiplied : PySem.W.codeIn K cd_multiplied "multiplied" = true)
    (k_multiplied : PySem.W.keepIn K (.ref f_multiplied) = true)
    (a_content : PySem.W.nsIn K mainGlobals "content" = some (some (.ref f_content)))
    (l_content : K.lookup f_content = some ⟨oc_content, od_content, .func (PySem.W.fnOf "content" "content" (defArgs s_content) (defBody s_content) (defScope s_content) .none kV_content dc_content pm_content an_content cd_content ct_content), sl_content⟩)
    (c_content : PySem.W.codeIn K cd_content "content" = true)
    (k_content : PySem.W.keepIn K (.ref f_content) = true)
    (a_primitive : PySem.W.nsIn K mainGlobals "primitive" = some (some (.ref f_primitive)))
    (l_primitive : K.lookup f_primitive = some ⟨oc_primitive, od_primitive, .func (PySem.W.fnOf "primitive" "primitive" (defArgs s_primitive) (defBody s_primitive) (defScope s_primitive) .none kV_primitive dc_primitive pm_primitive an_primitive cd_primitive ct_primitive), sl_primitive⟩)
    (c_primitive : PySem.W.codeIn K cd_primitive "primitive" = true)
    (k_primitive : PySem.W.keepIn K (.ref f_primitive) = true)
    (a_upright : PySem.W.nsIn K mainGlobals "upright" = some (some (.ref f_upright)))
    (l_upright : K.lookup f_upright = some ⟨oc_upright, od_upright, .func (PySem.W.fnOf "upright" "upright" (defArgs s_upright) (defBody s_upright) (defScope s_upright) .none kV_upright dc_upright pm_upright an_upright cd_upright ct_upright), sl_upright⟩)
    (c_upright : PySem.W.codeIn K cd_upright "upright" = true)
    (k_upright : PySem.W.keepIn K (.ref f_upright) = true)
    (a_remainder : PySem.W.nsIn K mainGlobals "remainder" = some (some (.ref f_remainder)))
    (l_remainder : K.lookup f_remainder = some ⟨oc_remainder, od_remainder, .func (PySem.W.fnOf "remainder" "remainder" (defArgs s_remainder) (defBody s_remainder) (defScope s_remainder) .none kV_remainder dc_remainder pm_remainder an_remainder cd_remainder ct_remainder), sl_remainder⟩)
    (c_remainder : PySem.W.codeIn K cd_remainder "remainder" = true)
    (k_remainder : PySem.W.keepIn K (.ref f_remainder) = true)
    (a_quotient : PySem.W.nsIn K mainGlobals "quotient" = some (some (.ref f_quotient)))
    (l_quotient : K.lookup f_quotient = some ⟨oc_quotient, od_quotient, .func (PySem.W.fnOf "quotient" "quotient" (defArgs s_quotient) (defBody s_quotient) (defScope s_quotient) .none kV_quotient dc_quotient pm_quotient an_quotient cd_quotient ct_quotient), sl_quotient⟩)
    (c_quotient : PySem.W.codeIn K cd_quotient "quotient" = true)
    (k_quotient : PySem.W.keepIn K (.ref f_quotient) = true)
    (a_common_factor : PySem.W.nsIn K mainGlobals "common_factor" = some (some (.ref f_common_factor)))
    (l_common_factor : K.lookup f_common_factor = some ⟨oc_common_factor, od_common_factor, .func (PySem.W.fnOf "common_factor" "common_factor" (defArgs s_common_factor) (defBody s_common_factor) (defScope s_common_factor) .none kV_common_factor dc_common_factor pm_common_factor an_common_factor cd_common_factor ct_common_factor), sl_common_factor⟩)
    (c_common_factor : PySem.W.codeIn K cd_common_factor "common_factor" = true)
    (k_common_factor : PySem.W.keepIn K (.ref f_common_factor) = true)
    (a_copied : PySem.W.nsIn K mainGlobals "copied" = some (some (.ref f_copied)))
    (l_copied : K.lookup f_copied = some ⟨oc_copied, od_copied, .func (PySem.W.fnOf "copied" "copied" (defArgs s_copied) (defBody s_copied) (defScope s_copied) .none kV_copied dc_copied pm_copied an_copied cd_copied ct_copied), sl_copied⟩)
    (c_copied : PySem.W.codeIn K cd_copied "copied" = true)
    (k_copied : PySem.W.keepIn K (.ref f_copied) = true)
    (a_is_integer : PySem.W.nsIn K mainGlobals "is_integer" = some (some (.ref f_is_integer)))
    (l_is_integer : K.lookup f_is_integer = some ⟨oc_is_integer, od_is_integer, .func (PySem.W.fnOf "is_integer" "is_integer" (defArgs s_is_integer) (defBody s_is_integer) (defScope s_is_integer) .none kV_is_integer dc_is_integer pm_is_integer an_is_integer cd_is_integer ct_is_integer), sl_is_integer⟩)
    (c_is_integer : PySem.W.codeIn K cd_is_integer "is_integer" = true)
    (k_is_integer : PySem.W.keepIn K (.ref f_is_integer) = true)
    (a_is_fraction : PySem.W.nsIn K mainGlobals "is_fraction" = some (some (.ref f_is_fraction)))
    (l_is_fraction : K.lookup f_is_fraction = some ⟨oc_is_fraction, od_is_fraction, .func (PySem.W.fnOf "is_fraction" "is_fraction" (defArgs s_is_fraction) (defBody s_is_fraction) (defScope s_is_fraction) .none kV_is_fraction dc_is_fraction pm_is_fraction an_is_fraction cd_is_fraction ct_is_fraction), sl_is_fraction⟩)
    (c_is_fraction : PySem.W.codeIn K cd_is_fraction "is_fraction" = true)
    (k_is_fraction : PySem.W.keepIn K (.ref f_is_fraction) = true)
    (a_check_width : PySem.W.nsIn K mainGlobals "check_width" = some (some (.ref f_check_width)))
    (l_check_width : K.lookup f_check_width = some ⟨oc_check_width, od_check_width, .func (PySem.W.fnOf "check_width" "check_width" (defArgs s_check_width) (defBody s_check_width) (defScope s_check_width) .none kV_check_width dc_check_width pm_check_width an_check_width cd_check_width ct_check_width), sl_check_width⟩)
    (c_check_width : PySem.W.codeIn K cd_check_width "check_width" = true)
    (k_check_width : PySem.W.keepIn K (.ref f_check_width) = true)
    (a_reduced : PySem.W.nsIn K mainGlobals "reduced" = some (some (.ref f_reduced)))
    (l_reduced : K.lookup f_reduced = some ⟨oc_reduced, od_reduced, .func (PySem.W.fnOf "reduced" "reduced" (defArgs s_reduced) (defBody s_reduced) (defScope s_reduced) .none kV_reduced dc_reduced pm_reduced an_reduced cd_reduced ct_reduced), sl_reduced⟩)
    (c_reduced : PySem.W.codeIn K cd_reduced "reduced" = true)
    (k_reduced : PySem.W.keepIn K (.ref f_reduced) = true)
    (a_told_widths : PySem.W.nsIn K mainGlobals "told_widths" = some (some (.ref f_told_widths)))
    (l_told_widths : K.lookup f_told_widths = some ⟨oc_told_widths, od_told_widths, .func (PySem.W.fnOf "told_widths" "told_widths" (defArgs s_told_widths) (defBody s_told_widths) (defScope s_told_widths) .none kV_told_widths dc_told_widths pm_told_widths an_told_widths cd_told_widths ct_told_widths), sl_told_widths⟩)
    (c_told_widths : PySem.W.codeIn K cd_told_widths "told_widths" = true)
    (k_told_widths : PySem.W.keepIn K (.ref f_told_widths) = true)
    (a_first_water : PySem.W.nsIn K mainGlobals "first_water" = some (some (.ref f_first_water)))
    (l_first_water : K.lookup f_first_water = some ⟨oc_first_water, od_first_water, .func (PySem.W.fnOf "first_water" "first_water" (defArgs s_first_water) (defBody s_first_water) (defScope s_first_water) .none kV_first_water dc_first_water pm_first_water an_first_water cd_first_water ct_first_water), sl_first_water⟩)
    (c_first_water : PySem.W.codeIn K cd_first_water "first_water" = true)
    (k_first_water : PySem.W.keepIn K (.ref f_first_water) = true)
    (a_sum_of : PySem.W.nsIn K mainGlobals "sum_of" = some (some (.ref f_sum_of)))
    (l_sum_of : K.lookup f_sum_of = some ⟨oc_sum_of, od_sum_of, .func (PySem.W.fnOf "sum_of" "sum_of" (defArgs s_sum_of) (defBody s_sum_of) (defScope s_sum_of) .none kV_sum_of dc_sum_of pm_sum_of an_sum_of cd_sum_of ct_sum_of), sl_sum_of⟩)
    (c_sum_of : PySem.W.codeIn K cd_sum_of "sum_of" = true)
    (k_sum_of : PySem.W.keepIn K (.ref f_sum_of) = true)
    (a_together : PySem.W.nsIn K mainGlobals "together" = some (some (.ref f_together)))
    (l_together : K.lookup f_together = some ⟨oc_together, od_together, .func (PySem.W.fnOf "together" "together" (defArgs s_together) (defBody s_together) (defScope s_together) .none kV_together dc_together pm_together an_together cd_together ct_together), sl_together⟩)
    (c_together : PySem.W.codeIn K cd_together "together" = true)
    (k_together : PySem.W.keepIn K (.ref f_together) = true)
    (a_after : PySem.W.nsIn K mainGlobals "after" = some (some (.ref f_after)))
    (l_after : K.lookup f_after = some ⟨oc_after, od_after, .func (PySem.W.fnOf "after" "after" (defArgs s_after) (defBody s_after) (defScope s_after) .none kV_after dc_after pm_after an_after cd_after ct_after), sl_after⟩)
    (c_after : PySem.W.codeIn K cd_after "after" = true)
    (k_after : PySem.W.keepIn K (.ref f_after) = true)
    (a_opened : PySem.W.nsIn K mainGlobals "opened" = some (some (.ref f_opened)))
    (l_opened : K.lookup f_opened = some ⟨oc_opened, od_opened, .func (PySem.W.fnOf "opened" "opened" (defArgs s_opened) (defBody s_opened) (defScope s_opened) .none kV_opened dc_opened pm_opened an_opened cd_opened ct_opened), sl_opened⟩)
    (c_opened : PySem.W.codeIn K cd_opened "opened" = true)
    (k_opened : PySem.W.keepIn K (.ref f_opened) = true)
    (a_poured : PySem.W.nsIn K mainGlobals "poured" = some (some (.ref f_poured)))
    (l_poured : K.lookup f_poured = some ⟨oc_poured, od_poured, .func (PySem.W.fnOf "poured" "poured" (defArgs s_poured) (defBody s_poured) (defScope s_poured) .none kV_poured dc_poured pm_poured an_poured cd_poured ct_poured), sl_poured⟩)
    (c_poured : PySem.W.codeIn K cd_poured "poured" = true)
    (k_poured : PySem.W.keepIn K (.ref f_poured) = true)
    (a_taken : PySem.W.nsIn K mainGlobals "taken" = some (some (.ref f_taken)))
    (l_taken : K.lookup f_taken = some ⟨oc_taken, od_taken, .func (PySem.W.fnOf "taken" "taken" (defArgs s_taken) (defBody s_taken) (defScope s_taken) .none kV_taken dc_taken pm_taken an_taken cd_taken ct_taken), sl_taken⟩)
    (c_taken : PySem.W.codeIn K cd_taken "taken" = true)
    (k_taken : PySem.W.keepIn K (.ref f_taken) = true)
    (a_levels : PySem.W.nsIn K mainGlobals "levels" = some (some (.ref f_levels)))
    (l_levels : K.lookup f_levels = some ⟨oc_levels, od_levels, .func (PySem.W.fnOf "levels" "levels" (defArgs s_levels) (defBody s_levels) (defScope s_levels) .none kV_levels dc_levels pm_levels an_levels cd_levels ct_levels), sl_levels⟩)
    (c_levels : PySem.W.codeIn K cd_levels "levels" = true)
    (k_levels : PySem.W.keepIn K (.ref f_levels) = true)
    (a_number_of : PySem.W.nsIn K mainGlobals "number_of" = some (some (.ref f_number_of)))
    (l_number_of : K.lookup f_number_of = some ⟨oc_number_of, od_number_of, .func (PySem.W.fnOf "number_of" "number_of" (defArgs s_number_of) (defBody s_number_of) (defScope s_number_of) .none kV_number_of dc_number_of pm_number_of an_number_of cd_number_of ct_number_of), sl_number_of⟩)
    (c_number_of : PySem.W.codeIn K cd_number_of "number_of" = true)
    (k_number_of : PySem.W.keepIn K (.ref f_number_of) = true)
    (a_is_ended : PySem.W.nsIn K mainGlobals "is_ended" = some (some (.ref f_is_ended)))
    (l_is_ended : K.lookup f_is_ended = some ⟨oc_is_ended, od_is_ended, .func (PySem.W.fnOf "is_ended" "is_ended" (defArgs s_is_ended) (defBody s_is_ended) (defScope s_is_ended) .none kV_is_ended dc_is_ended pm_is_ended an_is_ended cd_is_ended ct_is_ended), sl_is_ended⟩)
    (c_is_ended : PySem.W.codeIn K cd_is_ended "is_ended" = true)
    (k_is_ended : PySem.W.keepIn K (.ref f_is_ended) = true)
    (a_told_levels : PySem.W.nsIn K mainGlobals "told_levels" = some (some (.ref f_told_levels)))
    (l_told_levels : K.lookup f_told_levels = some ⟨oc_told_levels, od_told_levels, .func (PySem.W.fnOf "told_levels" "told_levels" (defArgs s_told_levels) (defBody s_told_levels) (defScope s_told_levels) .none kV_told_levels dc_told_levels pm_told_levels an_told_levels cd_told_levels ct_told_levels), sl_told_levels⟩)
    (c_told_levels : PySem.W.codeIn K cd_told_levels "told_levels" = true)
    (k_told_levels : PySem.W.keepIn K (.ref f_told_levels) = true)
    (a_run_of : PySem.W.nsIn K mainGlobals "run_of" = some (some (.ref f_run_of)))
    (l_run_of : K.lookup f_run_of = some ⟨oc_run_of, od_run_of, .func (PySem.W.fnOf "run_of" "run_of" (defArgs s_run_of) (defBody s_run_of) (defScope s_run_of) .none kV_run_of dc_run_of pm_run_of an_run_of cd_run_of ct_run_of), sl_run_of⟩)
    (c_run_of : PySem.W.codeIn K cd_run_of "run_of" = true)
    (k_run_of : PySem.W.keepIn K (.ref f_run_of) = true)
    (a_run : PySem.W.nsIn K mainGlobals "run" = some (some (.ref f_run)))
    (l_run : K.lookup f_run = some ⟨oc_run, od_run, .func (PySem.W.fnOf "run" "run" (defArgs s_run) (defBody s_run) (defScope s_run) .none kV_run dc_run pm_run an_run cd_run ct_run), sl_run⟩)
    (c_run : PySem.W.codeIn K cd_run "run" = true)
    (k_run : PySem.W.keepIn K (.ref f_run) = true)
    (a_is_amount : PySem.W.nsIn K mainGlobals "is_amount" = some (some (.ref f_is_amount)))
    (l_is_amount : K.lookup f_is_amount = some ⟨oc_is_amount, od_is_amount, .func (PySem.W.fnOf "is_amount" "is_amount" (defArgs s_is_amount) (defBody s_is_amount) (defScope s_is_amount) .none kV_is_amount dc_is_amount pm_is_amount an_is_amount cd_is_amount ct_is_amount), sl_is_amount⟩)
    (c_is_amount : PySem.W.codeIn K cd_is_amount "is_amount" = true)
    (k_is_amount : PySem.W.keepIn K (.ref f_is_amount) = true)
    (a_is_tank : PySem.W.nsIn K mainGlobals "is_tank" = some (some (.ref f_is_tank)))
    (l_is_tank : K.lookup f_is_tank = some ⟨oc_is_tank, od_is_tank, .func (PySem.W.fnOf "is_tank" "is_tank" (defArgs s_is_tank) (defBody s_is_tank) (defScope s_is_tank) .none kV_is_tank dc_is_tank pm_is_tank an_is_tank cd_is_tank ct_is_tank), sl_is_tank⟩)
    (c_is_tank : PySem.W.codeIn K cd_is_tank "is_tank" = true)
    (k_is_tank : PySem.W.keepIn K (.ref f_is_tank) = true)
    (a_check_tanks : PySem.W.nsIn K mainGlobals "check_tanks" = some (some (.ref f_check_tanks)))
    (l_check_tanks : K.lookup f_check_tanks = some ⟨oc_check_tanks, od_check_tanks, .func (PySem.W.fnOf "check_tanks" "check_tanks" (defArgs s_check_tanks) (defBody s_check_tanks) (defScope s_check_tanks) .none kV_check_tanks dc_check_tanks pm_check_tanks an_check_tanks cd_check_tanks ct_check_tanks), sl_check_tanks⟩)
    (c_check_tanks : PySem.W.codeIn K cd_check_tanks "check_tanks" = true)
    (k_check_tanks : PySem.W.keepIn K (.ref f_check_tanks) = true)
    (a_is_ascending : PySem.W.nsIn K mainGlobals "is_ascending" = some (some (.ref f_is_ascending)))
    (l_is_ascending : K.lookup f_is_ascending = some ⟨oc_is_ascending, od_is_ascending, .func (PySem.W.fnOf "is_ascending" "is_ascending" (defArgs s_is_ascending) (defBody s_is_ascending) (defScope s_is_ascending) .none kV_is_ascending dc_is_ascending pm_is_ascending an_is_ascending cd_is_ascending ct_is_ascending), sl_is_ascending⟩)
    (c_is_ascending : PySem.W.codeIn K cd_is_ascending "is_ascending" = true)
    (k_is_ascending : PySem.W.keepIn K (.ref f_is_ascending) = true)
    (a_is_step : PySem.W.nsIn K mainGlobals "is_step" = some (some (.ref f_is_step)))
    (l_is_step : K.lookup f_is_step = some ⟨oc_is_step, od_is_step, .func (PySem.W.fnOf "is_step" "is_step" (defArgs s_is_step) (defBody s_is_step) (defScope s_is_step) .none kV_is_step dc_is_step pm_is_step an_is_step cd_is_step ct_is_step), sl_is_step⟩)
    (c_is_step : PySem.W.codeIn K cd_is_step "is_step" = true)
    (k_is_step : PySem.W.keepIn K (.ref f_is_step) = true)
    (a_tanks_of : PySem.W.nsIn K mainGlobals "tanks_of" = some (some (.ref f_tanks_of)))
    (l_tanks_of : K.lookup f_tanks_of = some ⟨oc_tanks_of, od_tanks_of, .func (PySem.W.fnOf "tanks_of" "tanks_of" (defArgs s_tanks_of) (defBody s_tanks_of) (defScope s_tanks_of) .none kV_tanks_of dc_tanks_of pm_tanks_of an_tanks_of cd_tanks_of ct_tanks_of), sl_tanks_of⟩)
    (c_tanks_of : PySem.W.codeIn K cd_tanks_of "tanks_of" = true)
    (k_tanks_of : PySem.W.keepIn K (.ref f_tanks_of) = true)
    (a_check_numbers : PySem.W.nsIn K mainGlobals "check_numbers" = some (some (.ref f_check_numbers)))
    (l_check_numbers : K.lookup f_check_numbers = some ⟨oc_check_numbers, od_check_numbers, .func (PySem.W.fnOf "check_numbers" "check_numbers" (defArgs s_check_numbers) (defBody s_check_numbers) (defScope s_check_numbers) .none kV_check_numbers dc_check_numbers pm_check_numbers an_check_numbers cd_check_numbers ct_check_numbers), sl_check_numbers⟩)
    (c_check_numbers : PySem.W.codeIn K cd_check_numbers "check_numbers" = true)
    (k_check_numbers : PySem.W.keepIn K (.ref f_check_numbers) = true)
    (a_check_part : PySem.W.nsIn K mainGlobals "check_part" = some (some (.ref f_check_part)))
    (l_check_part : K.lookup f_check_part = some ⟨oc_check_part, od_check_part, .func (PySem.W.fnOf "check_part" "check_part" (defArgs s_check_part) (defBody s_check_part) (defScope s_check_part) .none kV_check_part dc_check_part pm_check_part an_check_part cd_check_part ct_check_part), sl_check_part⟩)
    (c_check_part : PySem.W.codeIn K cd_check_part "check_part" = true)
    (k_check_part : PySem.W.keepIn K (.ref f_check_part) = true)
    (a_check_step : PySem.W.nsIn K mainGlobals "check_step" = some (some (.ref f_check_step)))
    (l_check_step : K.lookup f_check_step = some ⟨oc_check_step, od_check_step, .func (PySem.W.fnOf "check_step" "check_step" (defArgs s_check_step) (defBody s_check_step) (defScope s_check_step) .none kV_check_step dc_check_step pm_check_step an_check_step cd_check_step ct_check_step), sl_check_step⟩)
    (c_check_step : PySem.W.codeIn K cd_check_step "check_step" = true)
    (k_check_step : PySem.W.keepIn K (.ref f_check_step) = true)
    (a__law_purse : PySem.W.nsIn K mainGlobals "_law_purse" = some (some (.ref f__law_purse)))
    (l__law_purse : K.lookup f__law_purse = some ⟨oc__law_purse, od__law_purse, .func (PySem.W.fnOf "_law_purse" "_law_purse" (defArgs s__law_purse) (defBody s__law_purse) (defScope s__law_purse) .none kV__law_purse dc__law_purse pm__law_purse an__law_purse cd__law_purse ct__law_purse), sl__law_purse⟩)
    (c__law_purse : PySem.W.codeIn K cd__law_purse "_law_purse" = true)
    (k__law_purse : PySem.W.keepIn K (.ref f__law_purse) = true)
    (a__law_coin : PySem.W.nsIn K mainGlobals "_law_coin" = some (some (.ref f__law_coin)))
    (l__law_coin : K.lookup f__law_coin = some ⟨oc__law_coin, od__law_coin, .func (PySem.W.fnOf "_law_coin" "_law_coin" (defArgs s__law_coin) (defBody s__law_coin) (defScope s__law_coin) .none kV__law_coin dc__law_coin pm__law_coin an__law_coin cd__law_coin ct__law_coin), sl__law_coin⟩)
    (c__law_coin : PySem.W.codeIn K cd__law_coin "_law_coin" = true)
    (k__law_coin : PySem.W.keepIn K (.ref f__law_coin) = true)
    (a__law_wl_divisor : PySem.W.nsIn K mainGlobals "_law_wl_divisor" = some (some (.ref f__law_wl_divisor)))
    (l__law_wl_divisor : K.lookup f__law_wl_divisor = some ⟨oc__law_wl_divisor, od__law_wl_divisor, .func (PySem.W.fnOf "_law_wl_divisor" "_law_wl_divisor" (defArgs s__law_wl_divisor) (defBody s__law_wl_divisor) (defScope s__law_wl_divisor) .none kV__law_wl_divisor dc__law_wl_divisor pm__law_wl_divisor an__law_wl_divisor cd__law_wl_divisor ct__law_wl_divisor), sl__law_wl_divisor⟩)
    (c__law_wl_divisor : PySem.W.codeIn K cd__law_wl_divisor "_law_wl_divisor" = true)
    (k__law_wl_divisor : PySem.W.keepIn K (.ref f__law_wl_divisor) = true)
    (a__law_wl_ratio : PySem.W.nsIn K mainGlobals "_law_wl_ratio" = some (some (.ref f__law_wl_ratio)))
    (l__law_wl_ratio : K.lookup f__law_wl_ratio = some ⟨oc__law_wl_ratio, od__law_wl_ratio, .func (PySem.W.fnOf "_law_wl_ratio" "_law_wl_ratio" (defArgs s__law_wl_ratio) (defBody s__law_wl_ratio) (defScope s__law_wl_ratio) .none kV__law_wl_ratio dc__law_wl_ratio pm__law_wl_ratio an__law_wl_ratio cd__law_wl_ratio ct__law_wl_ratio), sl__law_wl_ratio⟩)
    (c__law_wl_ratio : PySem.W.codeIn K cd__law_wl_ratio "_law_wl_ratio" = true)
    (k__law_wl_ratio : PySem.W.keepIn K (.ref f__law_wl_ratio) = true)
    (a__law_wl_plus : PySem.W.nsIn K mainGlobals "_law_wl_plus" = some (some (.ref f__law_wl_plus)))
    (l__law_wl_plus : K.lookup f__law_wl_plus = some ⟨oc__law_wl_plus, od__law_wl_plus, .func (PySem.W.fnOf "_law_wl_plus" "_law_wl_plus" (defArgs s__law_wl_plus) (defBody s__law_wl_plus) (defScope s__law_wl_plus) .none kV__law_wl_plus dc__law_wl_plus pm__law_wl_plus an__law_wl_plus cd__law_wl_plus ct__law_wl_plus), sl__law_wl_plus⟩)
    (c__law_wl_plus : PySem.W.codeIn K cd__law_wl_plus "_law_wl_plus" = true)
    (k__law_wl_plus : PySem.W.keepIn K (.ref f__law_wl_plus) = true)
    (a__law_wl_times : PySem.W.nsIn K mainGlobals "_law_wl_times" = some (some (.ref f__law_wl_times)))
    (l__law_wl_times : K.lookup f__law_wl_times = some ⟨oc__law_wl_times, od__law_wl_times, .func (PySem.W.fnOf "_law_wl_times" "_law_wl_times" (defArgs s__law_wl_times) (defBody s__law_wl_times) (defScope s__law_wl_times) .none kV__law_wl_times dc__law_wl_times pm__law_wl_times an__law_wl_times cd__law_wl_times ct__law_wl_times), sl__law_wl_times⟩)
    (c__law_wl_times : PySem.W.codeIn K cd__law_wl_times "_law_wl_times" = true)
    (k__law_wl_times : PySem.W.keepIn K (.ref f__law_wl_times) = true)
    (a__law_wl_less : PySem.W.nsIn K mainGlobals "_law_wl_less" = some (some (.ref f__law_wl_less)))
    (l__law_wl_less : K.lookup f__law_wl_less = some ⟨oc__law_wl_less, od__law_wl_less, .func (PySem.W.fnOf "_law_wl_less" "_law_wl_less" (defArgs s__law_wl_less) (defBody s__law_wl_less) (defScope s__law_wl_less) .none kV__law_wl_less dc__law_wl_less pm__law_wl_less an__law_wl_less cd__law_wl_less ct__law_wl_less), sl__law_wl_less⟩)
    (c__law_wl_less : PySem.W.codeIn K cd__law_wl_less "_law_wl_less" = true)
    (k__law_wl_less : PySem.W.keepIn K (.ref f__law_wl_less) = true)
    (a__law_wl_new : PySem.W.nsIn K mainGlobals "_law_wl_new" = some (some (.ref f__law_wl_new)))
    (l__law_wl_new : K.lookup f__law_wl_new = some ⟨oc__law_wl_new, od__law_wl_new, .func (PySem.W.fnOf "_law_wl_new" "_law_wl_new" (defArgs s__law_wl_new) (defBody s__law_wl_new) (defScope s__law_wl_new) .none kV__law_wl_new dc__law_wl_new pm__law_wl_new an__law_wl_new cd__law_wl_new ct__law_wl_new), sl__law_wl_new⟩)
    (c__law_wl_new : PySem.W.codeIn K cd__law_wl_new "_law_wl_new" = true)
    (k__law_wl_new : PySem.W.keepIn K (.ref f__law_wl_new) = true)
    (a__law_wl_part : PySem.W.nsIn K mainGlobals "_law_wl_part" = some (some (.ref f__law_wl_part)))
    (l__law_wl_part : K.lookup f__law_wl_part = some ⟨oc__law_wl_part, od__law_wl_part, .func (PySem.W.fnOf "_law_wl_part" "_law_wl_part" (defArgs s__law_wl_part) (defBody s__law_wl_part) (defScope s__law_wl_part) .none kV__law_wl_part dc__law_wl_part pm__law_wl_part an__law_wl_part cd__law_wl_part ct__law_wl_part), sl__law_wl_part⟩)
    (c__law_wl_part : PySem.W.codeIn K cd__law_wl_part "_law_wl_part" = true)
    (k__law_wl_part : PySem.W.keepIn K (.ref f__law_wl_part) = true)
    (a__law_wl_two : PySem.W.nsIn K mainGlobals "_law_wl_two" = some (some (.ref f__law_wl_two)))
    (l__law_wl_two : K.lookup f__law_wl_two = some ⟨oc__law_wl_two, od__law_wl_two, .func (PySem.W.fnOf "_law_wl_two" "_law_wl_two" (defArgs s__law_wl_two) (defBody s__law_wl_two) (defScope s__law_wl_two) .none kV__law_wl_two dc__law_wl_two pm__law_wl_two an__law_wl_two cd__law_wl_two ct__law_wl_two), sl__law_wl_two⟩)
    (c__law_wl_two : PySem.W.codeIn K cd__law_wl_two "_law_wl_two" = true)
    (k__law_wl_two : PySem.W.keepIn K (.ref f__law_wl_two) = true)
    (a__law_wl_vats : PySem.W.nsIn K mainGlobals "_law_wl_vats" = some (some (.ref f__law_wl_vats)))
    (l__law_wl_vats : K.lookup f__law_wl_vats = some ⟨oc__law_wl_vats, od__law_wl_vats, .func (PySem.W.fnOf "_law_wl_vats" "_law_wl_vats" (defArgs s__law_wl_vats) (defBody s__law_wl_vats) (defScope s__law_wl_vats) .none kV__law_wl_vats dc__law_wl_vats pm__law_wl_vats an__law_wl_vats cd__law_wl_vats ct__law_wl_vats), sl__law_wl_vats⟩)
    (c__law_wl_vats : PySem.W.codeIn K cd__law_wl_vats "_law_wl_vats" = true)
    (k__law_wl_vats : PySem.W.keepIn K (.ref f__law_wl_vats) = true)
    (a__law_wl_deed : PySem.W.nsIn K mainGlobals "_law_wl_deed" = some (some (.ref f__law_wl_deed)))
    (l__law_wl_deed : K.lookup f__law_wl_deed = some ⟨oc__law_wl_deed, od__law_wl_deed, .func (PySem.W.fnOf "_law_wl_deed" "_law_wl_deed" (defArgs s__law_wl_deed) (defBody s__law_wl_deed) (defScope s__law_wl_deed) .none kV__law_wl_deed dc__law_wl_deed pm__law_wl_deed an__law_wl_deed cd__law_wl_deed ct__law_wl_deed), sl__law_wl_deed⟩)
    (c__law_wl_deed : PySem.W.codeIn K cd__law_wl_deed "_law_wl_deed" = true)
    (k__law_wl_deed : PySem.W.keepIn K (.ref f__law_wl_deed) = true)
    (a__law_wl_plan : PySem.W.nsIn K mainGlobals "_law_wl_plan" = some (some (.ref f__law_wl_plan)))
    (l__law_wl_plan : K.lookup f__law_wl_plan = some ⟨oc__law_wl_plan, od__law_wl_plan, .func (PySem.W.fnOf "_law_wl_plan" "_law_wl_plan" (defArgs s__law_wl_plan) (defBody s__law_wl_plan) (defScope s__law_wl_plan) .none kV__law_wl_plan dc__law_wl_plan pm__law_wl_plan an__law_wl_plan cd__law_wl_plan ct__law_wl_plan), sl__law_wl_plan⟩)
    (c__law_wl_plan : PySem.W.codeIn K cd__law_wl_plan "_law_wl_plan" = true)
    (k__law_wl_plan : PySem.W.keepIn K (.ref f__law_wl_plan) = true)
    (a__law_wl_great : PySem.W.nsIn K mainGlobals "_law_wl_great" = some (some (.ref f__law_wl_great)))
    (l__law_wl_great : K.lookup f__law_wl_great = some ⟨oc__law_wl_great, od__law_wl_great, .func (PySem.W.fnOf "_law_wl_great" "_law_wl_great" (defArgs s__law_wl_great) (defBody s__law_wl_great) (defScope s__law_wl_great) .none kV__law_wl_great dc__law_wl_great pm__law_wl_great an__law_wl_great cd__law_wl_great ct__law_wl_great), sl__law_wl_great⟩)
    (c__law_wl_great : PySem.W.codeIn K cd__law_wl_great "_law_wl_great" = true)
    (k__law_wl_great : PySem.W.keepIn K (.ref f__law_wl_great) = true)
    (a__law_wl_width : PySem.W.nsIn K mainGlobals "_law_wl_width" = some (some (.ref f__law_wl_width)))
    (l__law_wl_width : K.lookup f__law_wl_width = some ⟨oc__law_wl_width, od__law_wl_width, .func (PySem.W.fnOf "_law_wl_width" "_law_wl_width" (defArgs s__law_wl_width) (defBody s__law_wl_width) (defScope s__law_wl_width) .none kV__law_wl_width dc__law_wl_width pm__law_wl_width an__law_wl_width cd__law_wl_width ct__law_wl_width), sl__law_wl_width⟩)
    (c__law_wl_width : PySem.W.codeIn K cd__law_wl_width "_law_wl_width" = true)
    (k__law_wl_width : PySem.W.keepIn K (.ref f__law_wl_width) = true)
    (a__law_wl_fraction : PySem.W.nsIn K mainGlobals "_law_wl_fraction" = some (some (.ref f__law_wl_fraction)))
    (l__law_wl_fraction : K.lookup f__law_wl_fraction = some ⟨oc__law_wl_fraction, od__law_wl_fraction, .func (PySem.W.fnOf "_law_wl_fraction" "_law_wl_fraction" (defArgs s__law_wl_fraction) (defBody s__law_wl_fraction) (defScope s__law_wl_fraction) .none kV__law_wl_fraction dc__law_wl_fraction pm__law_wl_fraction an__law_wl_fraction cd__law_wl_fraction ct__law_wl_fraction), sl__law_wl_fraction⟩)
    (c__law_wl_fraction : PySem.W.codeIn K cd__law_wl_fraction "_law_wl_fraction" = true)
    (k__law_wl_fraction : PySem.W.keepIn K (.ref f__law_wl_fraction) = true)
    (a__law_step_right : PySem.W.nsIn K mainGlobals "_law_step_right" = some (some (.ref f__law_step_right)))
    (l__law_step_right : K.lookup f__law_step_right = some ⟨oc__law_step_right, od__law_step_right, .func (PySem.W.fnOf "_law_step_right" "_law_step_right" (defArgs s__law_step_right) (defBody s__law_step_right) (defScope s__law_step_right) .none kV__law_step_right dc__law_step_right pm__law_step_right an__law_step_right cd__law_step_right ct__law_step_right), sl__law_step_right⟩)
    (c__law_step_right : PySem.W.codeIn K cd__law_step_right "_law_step_right" = true)
    (k__law_step_right : PySem.W.keepIn K (.ref f__law_step_right) = true)
    (a__law_waters : PySem.W.nsIn K mainGlobals "_law_waters" = some (some (.ref f__law_waters)))
    (l__law_waters : K.lookup f__law_waters = some ⟨oc__law_waters, od__law_waters, .func (PySem.W.fnOf "_law_waters" "_law_waters" (defArgs s__law_waters) (defBody s__law_waters) (defScope s__law_waters) .none kV__law_waters dc__law_waters pm__law_waters an__law_waters cd__law_waters ct__law_waters), sl__law_waters⟩)
    (c__law_waters : PySem.W.codeIn K cd__law_waters "_law_waters" = true)
    (k__law_waters : PySem.W.keepIn K (.ref f__law_waters) = true)
    (a__law_right : PySem.W.nsIn K mainGlobals "_law_right" = some (some (.ref f__law_right)))
    (l__law_right : K.lookup f__law_right = some ⟨oc__law_right, od__law_right, .func (PySem.W.fnOf "_law_right" "_law_right" (defArgs s__law_right) (defBody s__law_right) (defScope s__law_right) .none kV__law_right dc__law_right pm__law_right an__law_right cd__law_right ct__law_right), sl__law_right⟩)
    (c__law_right : PySem.W.codeIn K cd__law_right "_law_right" = true)
    (k__law_right : PySem.W.keepIn K (.ref f__law_right) = true)
    (a_lw : PySem.W.nsIn K mainGlobals "law" = some (some (.ref f_lw)))
    (l_lw : K.lookup f_lw = some ⟨oc_lw, od_lw, .func (PySem.W.fnOf "law" "law" (defArgs s_law) (defBody s_law) (defScope s_law) .none kV_lw dc_lw pm_lw an_lw cd_lw ct_lw), sl_lw⟩)
    (c_lw : PySem.W.codeIn K cd_lw "law" = true)
    (k_lw : PySem.W.keepIn K (.ref f_lw) = true)
    (g_C : PySem.W.nsIn K mainGlobals "Script" = some (some (.ref C_S)))
    (s_pg : PySem.W.plainGet K C_S Str.empty = true)
    (s_hd : PySem.W.hasDictIn K C_S = true)
    (s_po : PySem.W.plainOver K C_S = true)
    (s_sa : PySem.W.findIn K (.ref C_S) "__setattr__" = some (some (.builtin "object.__setattr__")))
    (s_n1 : PySem.W.findIn K (.ref C_S) "_tanks" = some none)
    (s_n2 : PySem.W.findIn K (.ref C_S) "_steps" = some none)
    (s_mk : PySem.W.makesIn K C_S = true)
    (s_in : PySem.W.findIn K (.ref C_S) "__init__" = some (some (.ref f_I)))
    (s_fn : PySem.W.isFn K (.ref f_I) = true)
    (s_kp : PySem.W.keepIn K (.ref C_S) = true)
    (q_T : PySem.W.findIn K (.ref C_S) "tanks" = some (some (.ref p_T)))
    (qg_T : PySem.W.specialIn K (.ref p_T) "__get__" = some (some (.builtin "property.__get__")))
    (qt_T : PySem.W.takesIn K (.ref p_T) = some true)
    (qr_T : PySem.W.recIn K p_T "property" = some (.ref f_T :: rs_T))
    (q_S : PySem.W.findIn K (.ref C_S) "steps" = some (some (.ref p_S)))
    (qg_S : PySem.W.specialIn K (.ref p_S) "__get__" = some (some (.builtin "property.__get__")))
    (qt_S : PySem.W.takesIn K (.ref p_S) = some true)
    (qr_S : PySem.W.recIn K p_S "property" = some (.ref f_S :: rs_S))
    (l_I : K.lookup f_I = some ⟨oc_I, od_I, .func (PySem.W.fnOf "__init__" "Script.__init__" (defArgs s_Sc_init) (defBody s_Sc_init) (defScope s_Sc_init) .none kV_I dc_I pm_I an_I cd_I ct_I), sl_I⟩)
    (c_I : PySem.W.codeIn K cd_I "Script.__init__" = true)
    (k_I : PySem.W.keepIn K (.ref f_I) = true)
    (l_T : K.lookup f_T = some ⟨oc_T, od_T, .func (PySem.W.fnOf "tanks" "Script.tanks" (defArgs s_Sc_tanks) (defBody s_Sc_tanks) (defScope s_Sc_tanks) .none kV_T dc_T pm_T an_T cd_T ct_T), sl_T⟩)
    (c_T : PySem.W.codeIn K cd_T "Script.tanks" = true)
    (k_T : PySem.W.keepIn K (.ref f_T) = true)
    (l_S : K.lookup f_S = some ⟨oc_S, od_S, .func (PySem.W.fnOf "steps" "Script.steps" (defArgs s_Sc_steps) (defBody s_Sc_steps) (defScope s_Sc_steps) .none kV_S dc_S pm_S an_S cd_S ct_S), sl_S⟩)
    (c_S : PySem.W.codeIn K cd_S "Script.steps" = true)
    (k_S : PySem.W.keepIn K (.ref f_S) = true)
    (d_g : PySem.W.nsIn K mainGlobals "THINGS" = some (some (.ref a_T)))
    (d_l : K.lookup a_T = some ⟨.type "dict", none, .dict e_T n_T, #[]⟩)
    (d_k : PySem.W.KeysLit w.params e_T.toList)
    (d_s : (a_T == sysModules) = false)
    (d_0 : PySem.W.nsIn K a_T "open" = some (some (.int 2 t_0)))
    (d_1 : PySem.W.nsIn K a_T "pour" = some (some (.int 3 t_1)))
    (d_2 : PySem.W.nsIn K a_T "scoop" = some (some (.int 3 t_2)))
    (d_3 : PySem.W.nsIn K a_T "move" = some (some (.int 4 t_3)))
    (d_4 : PySem.W.nsIn K a_T "unless" = some (some (.int 3 t_4)))
    (z_len : PySem.W.nsIn K mainGlobals "len" = some none)
    (z_max : PySem.W.nsIn K mainGlobals "max" = some none)
    (z_abs : PySem.W.nsIn K mainGlobals "abs" = some none)
    (z_int : PySem.W.nsIn K mainGlobals "int" = some none)
    (z_range : PySem.W.nsIn K mainGlobals "range" = some none)
    (z_list : PySem.W.nsIn K mainGlobals "list" = some none)
    (z_enumerate : PySem.W.nsIn K mainGlobals "enumerate" = some none)
    (z_isinstance : PySem.W.nsIn K mainGlobals "isinstance" = some none)
    (z_bool : PySem.W.nsIn K mainGlobals "bool" = some none)
    (z_tuple : PySem.W.nsIn K mainGlobals "tuple" = some none)
    (z_all : PySem.W.nsIn K mainGlobals "all" = some none)
    (z_min : PySem.W.nsIn K mainGlobals "min" = some none)
    (z_str : PySem.W.nsIn K mainGlobals "str" = some none)
    (z_gcd : PySem.W.nsIn K mainGlobals "gcd" = some (some (.builtin "math.gcd"))) :
    ∃ fd : FuncData, (∀ (s : Shared) (v : Value), BindsTo s fd ⟨[v], []⟩ [("script", v)]) ∧ ∀ base : Heap, K.In base → base.Ns mainGlobals mg → FnG l.prog w K mg base 11 fa fd ["script"] (spLaw K) := by
  have e := hfa.symm.trans (PySem.W.mg_of X G a_lw)
  cases e
  have T : Top K w mg C_S f_I f_T f_S p_T p_S a_T e_T n_T t_0 t_1 t_2 t_3 t_4 := {
    order_of_fractions_ := lay_mk X G a_order_of_fractions l_order_of_fractions c_order_of_fractions k_order_of_fractions fun _ _ _ _ _ _ us hl => match us, hl with | [_, _], _ => rfl
    sign_of_ := lay_mk X G a_sign_of l_sign_of c_sign_of k_sign_of fun _ _ _ _ _ _ us hl => match us, hl with | [_], _ => rfl
    cut_ := lay_mk X G a_cut l_cut c_cut k_cut fun _ _ _ _ _ _ us hl => match us, hl with | [_], _ => rfl
    negated_ := lay_mk X G a_negated l_negated c_negated k_negated fun _ _ _ _ _ _ us hl => match us, hl with | [_], _ => rfl
    added_ := lay_mk X G a_added l_added c_added k_added fun _ _ _ _ _ _ us hl => match us, hl with | [_, _], _ => rfl
    multiplied_ := lay_mk X G a_multiplied l_multiplied c_multiplied k_multiplied fun _ _ _ _ _ _ us hl => match us, hl with | [_, _], _ => rfl
    content_ := lay_mk X G a_content l_content c_content k_content fun _ _ _ _ _ _ us hl => match us, hl with | [_], _ => rfl
    primitive_ := lay_mk X G a_primitive l_primitive c_primitive k_primitive fun _ _ _ _ _ _ us hl => match us, hl with | [_], _ => rfl
    upright_ := lay_mk X G a_upright l_upright c_upright k_upright fun _ _ _ _ _ _ us hl => match us, hl with | [_], _ => rfl
    remainder_ := lay_mk X G a_remainder l_remainder c_remainder k_remainder fun _ _ _ _ _ _ us hl => match us, hl with | [_, _], _ => rfl
    quotient_ := lay_mk X G a_quotient l_quotient c_quotient k_quotient fun _ _ _ _ _ _ us hl => match us, hl with | [_, _], _ => rfl
    common_factor_ := lay_mk X G a_common_factor l_common_factor c_common_factor k_common_factor fun _ _ _ _ _ _ us hl => match us, hl with | [_, _], _ => rfl
    copied_ := lay_mk X G a_copied l_copied c_copied k_copied fun _ _ _ _ _ _ us hl => match us, hl with | [_], _ => rfl
    is_integer_ := lay_mk X G a_is_integer l_is_integer c_is_integer k_is_integer fun _ _ _ _ _ _ us hl => match us, hl with | [_], _ => rfl
    is_fraction_ := lay_mk X G a_is_fraction l_is_fraction c_is_fraction k_is_fraction fun _ _ _ _ _ _ us hl => match us, hl with | [_], _ => rfl
    check_width_ := lay_mk X G a_check_width l_check_width c_check_width k_check_width fun _ _ _ _ _ _ us hl => match us, hl with | [_], _ => rfl
    reduced_ := lay_mk X G a_reduced l_reduced c_reduced k_reduced fun _ _ _ _ _ _ us hl => match us, hl with | [_, _], _ => rfl
    told_widths_ := lay_mk X G a_told_widths l_told_widths c_told_widths k_told_widths fun _ _ _ _ _ _ us hl => match us, hl with | [_, _], _ => rfl
    first_water_ := lay_mk X G a_first_water l_first_water c_first_water k_first_water fun _ _ _ _ _ _ us hl => match us, hl with | [_], _ => rfl
    sum_of_ := lay_mk X G a_sum_of l_sum_of c_sum_of k_sum_of fun _ _ _ _ _ _ us hl => match us, hl with | [_], _ => rfl
    together_ := lay_mk X G a_together l_together c_together k_together fun _ _ _ _ _ _ us hl => match us, hl with | [_, _, _], _ => rfl
    after_ := lay_mk X G a_after l_after c_after k_after fun _ _ _ _ _ _ us hl => match us, hl with | [_, _, _], _ => rfl
    opened_ := lay_mk X G a_opened l_opened c_opened k_opened fun _ _ _ _ _ _ us hl => match us, hl with | [_, _, _], _ => rfl
    poured_ := lay_mk X G a_poured l_poured c_poured k_poured fun _ _ _ _ _ _ us hl => match us, hl with | [_, _, _], _ => rfl
    taken_ := lay_mk X G a_taken l_taken c_taken k_taken fun _ _ _ _ _ _ us hl => match us, hl with | [_, _, _, _], _ => rfl
    levels_ := lay_mk X G a_levels l_levels c_levels k_levels fun _ _ _ _ _ _ us hl => match us, hl with | [_, _, _], _ => rfl
    number_of_ := lay_mk X G a_number_of l_number_of c_number_of k_number_of fun _ _ _ _ _ _ us hl => match us, hl with | [_], _ => rfl
    is_ended_ := lay_mk X G a_is_ended l_is_ended c_is_ended k_is_ended fun _ _ _ _ _ _ us hl => match us, hl with | [_, _, _], _ => rfl
    told_levels_ := lay_mk X G a_told_levels l_told_levels c_told_levels k_told_levels fun _ _ _ _ _ _ us hl => match us, hl with | [_, _, _], _ => rfl
    run_of_ := lay_mk X G a_run_of l_run_of c_run_of k_run_of fun _ _ _ _ _ _ us hl => match us, hl with | [_, _, _], _ => rfl
    run_ := lay_mk X G a_run l_run c_run k_run fun _ _ _ _ _ _ us hl => match us, hl with | [_, _], _ => rfl
    is_amount_ := lay_mk X G a_is_amount l_is_amount c_is_amount k_is_amount fun _ _ _ _ _ _ us hl => match us, hl with | [_], _ => rfl
    is_tank_ := lay_mk X G a_is_tank l_is_tank c_is_tank k_is_tank fun _ _ _ _ _ _ us hl => match us, hl with | [_], _ => rfl
    check_tanks_ := lay_mk X G a_check_tanks l_check_tanks c_check_tanks k_check_tanks fun _ _ _ _ _ _ us hl => match us, hl with | [_], _ => rfl
    is_ascending_ := lay_mk X G a_is_ascending l_is_ascending c_is_ascending k_is_ascending fun _ _ _ _ _ _ us hl => match us, hl with | [_], _ => rfl
    is_step_ := lay_mk X G a_is_step l_is_step c_is_step k_is_step fun _ _ _ _ _ _ us hl => match us, hl with | [_], _ => rfl
    tanks_of_ := lay_mk X G a_tanks_of l_tanks_of c_tanks_of k_tanks_of fun _ _ _ _ _ _ us hl => match us, hl with | [_], _ => rfl
    check_numbers_ := lay_mk X G a_check_numbers l_check_numbers c_check_numbers k_check_numbers fun _ _ _ _ _ _ us hl => match us, hl with | [_, _], _ => rfl
    check_part_ := lay_mk X G a_check_part l_check_part c_check_part k_check_part fun _ _ _ _ _ _ us hl => match us, hl with | [_], _ => rfl
    check_step_ := lay_mk X G a_check_step l_check_step c_check_step k_check_step fun _ _ _ _ _ _ us hl => match us, hl with | [_, _], _ => rfl
    _law_purse_ := lay_mk X G a__law_purse l__law_purse c__law_purse k__law_purse fun _ _ _ _ _ _ us hl => match us, hl with | [_, _], _ => rfl
    _law_coin_ := lay_mk X G a__law_coin l__law_coin c__law_coin k__law_coin fun _ _ _ _ _ _ us hl => match us, hl with | [_, _], _ => rfl
    _law_wl_divisor_ := lay_mk X G a__law_wl_divisor l__law_wl_divisor c__law_wl_divisor k__law_wl_divisor fun _ _ _ _ _ _ us hl => match us, hl with | [_, _], _ => rfl
    _law_wl_ratio_ := lay_mk X G a__law_wl_ratio l__law_wl_ratio c__law_wl_ratio k__law_wl_ratio fun _ _ _ _ _ _ us hl => match us, hl with | [_, _], _ => rfl
    _law_wl_plus_ := lay_mk X G a__law_wl_plus l__law_wl_plus c__law_wl_plus k__law_wl_plus fun _ _ _ _ _ _ us hl => match us, hl with | [_, _], _ => rfl
    _law_wl_times_ := lay_mk X G a__law_wl_times l__law_wl_times c__law_wl_times k__law_wl_times fun _ _ _ _ _ _ us hl => match us, hl with | [_, _], _ => rfl
    _law_wl_less_ := lay_mk X G a__law_wl_less l__law_wl_less c__law_wl_less k__law_wl_less fun _ _ _ _ _ _ us hl => match us, hl with | [_, _], _ => rfl
    _law_wl_new_ := lay_mk X G a__law_wl_new l__law_wl_new c__law_wl_new k__law_wl_new fun _ _ _ _ _ _ us hl => match us, hl with | [_], _ => rfl
    _law_wl_part_ := lay_mk X G a__law_wl_part l__law_wl_part c__law_wl_part k__law_wl_part fun _ _ _ _ _ _ us hl => match us, hl with | [_, _], _ => rfl
    _law_wl_two_ := lay_mk X G a__law_wl_two l__law_wl_two c__law_wl_two k__law_wl_two fun _ _ _ _ _ _ us hl => match us, hl with | [_, _], _ => rfl
    _law_wl_vats_ := lay_mk X G a__law_wl_vats l__law_wl_vats c__law_wl_vats k__law_wl_vats fun _ _ _ _ _ _ us hl => match us, hl with | [_, _, _], _ => rfl
    _law_wl_deed_ := lay_mk X G a__law_wl_deed l__law_wl_deed c__law_wl_deed k__law_wl_deed fun _ _ _ _ _ _ us hl => match us, hl with | [_, _, _, _], _ => rfl
    _law_wl_plan_ := lay_mk X G a__law_wl_plan l__law_wl_plan c__law_wl_plan k__law_wl_plan fun _ _ _ _ _ _ us hl => match us, hl with | [_, _, _], _ => rfl
    _law_wl_great_ := lay_mk X G a__law_wl_great l__law_wl_great c__law_wl_great k__law_wl_great fun _ _ _ _ _ _ us hl => match us, hl with | [_], _ => rfl
    _law_wl_width_ := lay_mk X G a__law_wl_width l__law_wl_width c__law_wl_width k__law_wl_width fun _ _ _ _ _ _ us hl => match us, hl with | [_], _ => rfl
    _law_wl_fraction_ := lay_mk X G a__law_wl_fraction l__law_wl_fraction c__law_wl_fraction k__law_wl_fraction fun _ _ _ _ _ _ us hl => match us, hl with | [_], _ => rfl
    _law_step_right_ := lay_mk X G a__law_step_right l__law_step_right c__law_step_right k__law_step_right fun _ _ _ _ _ _ us hl => match us, hl with | [_, _, _, _], _ => rfl
    _law_waters_ := lay_mk X G a__law_waters l__law_waters c__law_waters k__law_waters fun _ _ _ _ _ _ us hl => match us, hl with | [_, _], _ => rfl
    _law_right_ := lay_mk X G a__law_right l__law_right c__law_right k__law_right fun _ _ _ _ _ _ us hl => match us, hl with | [_], _ => rfl
    Sc_init_ := ⟨_, fun_mk l_I c_I k_I, fun s us X hl => match us, hl with | [_, _, _], _ => .of_eq rfl⟩
    Sc_tanks_ := ⟨_, fun_mk l_T c_T k_T, fun s us X hl => match us, hl with | [_], _ => .of_eq rfl⟩
    Sc_steps_ := ⟨_, fun_mk l_S c_S k_S, fun s us X hl => match us, hl with | [_], _ => .of_eq rfl⟩
    sc := ⟨⟨s_pg, s_hd, s_po, s_sa⟩, s_n1, s_n2, ⟨s_mk, s_in, s_fn, s_kp⟩, ⟨q_T, qg_T, qt_T, ⟨_, qr_T⟩⟩, ⟨q_S, qg_S, qt_S, ⟨_, qr_S⟩⟩⟩
    th := ⟨PySem.W.mg_of X G d_g, ⟨d_l, d_k, d_s⟩, d_0, d_1, d_2, d_3, d_4⟩
    gC := PySem.W.mg_of X G g_C
    z_gcd := PySem.W.mg_of X G z_gcd
    z_len := PySem.W.mg_none_of X G z_len
    z_max := PySem.W.mg_none_of X G z_max
    z_abs := PySem.W.mg_none_of X G z_abs
    z_int := PySem.W.mg_none_of X G z_int
    z_range := PySem.W.mg_none_of X G z_range
    z_list := PySem.W.mg_none_of X G z_list
    z_enumerate := PySem.W.mg_none_of X G z_enumerate
    z_isinstance := PySem.W.mg_none_of X G z_isinstance
    z_bool := PySem.W.mg_none_of X G z_bool
    z_tuple := PySem.W.mg_none_of X G z_tuple
    z_all := PySem.W.mg_none_of X G z_all
    z_min := PySem.W.mg_none_of X G z_min
    z_str := PySem.W.mg_none_of X G z_str
  }
  exact ⟨_, fun s v => .of_eq rfl, fun base _ _ => whole T (fun_mk (st := s_law) l_lw c_lw k_lw)⟩
end V2


open PyProof.Rows PySem.W PySem in
set_option maxRecDepth 99000 in
set_option maxHeartbeats 0 in
theorem PySem.Challenge.cw_valvelevels_k16_water_is_kept_holds : PySem.Challenge.rw_valvelevels_k16_water_is_kept.Holds := by
  w_on
  o_law
  k_head
  (case hw => w_witness2)
  k_fill
  refine V2.walk_G (l := PySem.Challenge.rw_valvelevels_k16_water_is_kept) (n := 63) (k := 11) (x := "script") (sp := V2.spLaw) rfl (by decide) rfl ⟨rfl, by decide, by decide⟩ (fun w h Y => PySem.W.kIn_of Y) ?F (fun K H a ns hl _ hS => ⟨a, ns, rfl, hS, hl, fun _ => rfl⟩)
  case F =>
    intro w mg fa h KX G hmg
    refine' V2.all_mk KX G hmg ?a_order_of_fractions ?l_order_of_fractions ?c_order_of_fractions ?k_order_of_fractions ?a_sign_of ?l_sign_of ?c_sign_of ?k_sign_of ?a_cut ?l_cut ?c_cut ?k_cut ?a_negated ?l_negated ?c_negated ?k_negated ?a_added ?l_added ?c_added ?k_added ?a_multiplied ?l_multiplied ?c_multiplied ?k_multiplied ?a_content ?l_content ?c_content ?k_content ?a_primitive ?l_primitive ?c_primitive ?k_primitive ?a_upright ?l_upright ?c_upright ?k_upright ?a_remainder ?l_remainder ?c_remainder ?k_remainder ?a_quotient ?l_quotient ?c_quotient ?k_quotient ?a_common_factor ?l_common_factor ?c_common_factor ?k_common_factor ?a_copied ?l_copied ?c_copied ?k_copied ?a_is_integer ?l_is_integer ?c_is_integer ?k_is_integer ?a_is_fraction ?l_is_fraction ?c_is_fraction ?k_is_fraction ?a_check_width ?l_check_width ?c_check_width ?k_check_width ?a_reduced ?l_reduced ?c_reduced ?k_reduced ?a_told_widths ?l_told_widths ?c_told_widths ?k_told_widths ?a_first_water ?l_first_water ?c_first_water ?k_first_water ?a_sum_of ?l_sum_of ?c_sum_of ?k_sum_of ?a_together ?l_together ?c_together ?k_together ?a_after ?l_after ?c_after ?k_after ?a_opened ?l_opened ?c_opened ?k_opened ?a_poured ?l_poured ?c_poured ?k_poured ?a_taken ?l_taken ?c_taken ?k_taken ?a_levels ?l_levels ?c_levels ?k_levels ?a_number_of ?l_number_of ?c_number_of ?k_number_of ?a_is_ended ?l_is_ended ?c_is_ended ?k_is_ended ?a_told_levels ?l_told_levels ?c_told_levels ?k_told_levels ?a_run_of ?l_run_of ?c_run_of ?k_run_of ?a_run ?l_run ?c_run ?k_run ?a_is_amount ?l_is_amount ?c_is_amount ?k_is_amount ?a_is_tank ?l_is_tank ?c_is_tank ?k_is_tank ?a_check_tanks ?l_check_tanks ?c_check_tanks ?k_check_tanks ?a_is_ascending ?l_is_ascending ?c_is_ascending ?k_is_ascending ?a_is_step ?l_is_step ?c_is_step ?k_is_step ?a_tanks_of ?l_tanks_of ?c_tanks_of ?k_tanks_of ?a_check_numbers ?l_check_numbers ?c_check_numbers ?k_check_numbers ?a_check_part ?l_check_part ?c_check_part ?k_check_part ?a_check_step ?l_check_step ?c_check_step ?k_check_step ?a__law_purse ?l__law_purse ?c__law_purse ?k__law_purse ?a__law_coin ?l__law_coin ?c__law_coin ?k__law_coin ?a__law_wl_divisor ?l__law_wl_divisor ?c__law_wl_divisor ?k__law_wl_divisor ?a__law_wl_ratio ?l__law_wl_ratio ?c__law_wl_ratio ?k__law_wl_ratio ?a__law_wl_plus ?l__law_wl_plus ?c__law_wl_plus ?k__law_wl_plus ?a__law_wl_times ?l__law_wl_times ?c__law_wl_times ?k__law_wl_times ?a__law_wl_less ?l__law_wl_less ?c__law_wl_less ?k__law_wl_less ?a__law_wl_new ?l__law_wl_new ?c__law_wl_new ?k__law_wl_new ?a__law_wl_part ?l__law_wl_part ?c__law_wl_part ?k__law_wl_part ?a__law_wl_two ?l__law_wl_two ?c__law_wl_two ?k__law_wl_two ?a__law_wl_vats ?l__law_wl_vats ?c__law_wl_vats ?k__law_wl_vats ?a__law_wl_deed ?l__law_wl_deed ?c__law_wl_deed ?k__law_wl_deed ?a__law_wl_plan ?l__law_wl_plan ?c__law_wl_plan ?k__law_wl_plan ?a__law_wl_great ?l__law_wl_great ?c__law_wl_great ?k__law_wl_great ?a__law_wl_width ?l__law_wl_width ?c__law_wl_width ?k__law_wl_width ?a__law_wl_fraction ?l__law_wl_fraction ?c__law_wl_fraction ?k__law_wl_fraction ?a__law_step_right ?l__law_step_right ?c__law_step_right ?k__law_step_right ?a__law_waters ?l__law_waters ?c__law_waters ?k__law_waters ?a__law_right ?l__law_right ?c__law_right ?k__law_right ?a_lw ?l_lw ?c_lw ?k_lw ?g_C ?s_pg ?s_hd ?s_po ?s_sa ?s_n1 ?s_n2 ?s_mk ?s_in ?s_fn ?s_kp ?q_T ?qg_T ?qt_T ?qr_T ?q_S ?qg_S ?qt_S ?qr_S ?l_I ?c_I ?k_I ?l_T ?c_T ?k_T ?l_S ?c_S ?k_S ?d_g ?d_l ?d_k ?d_s ?d_0 ?d_1 ?d_2 ?d_3 ?d_4 ?z_len ?z_max ?z_abs ?z_int ?z_range ?z_list ?z_enumerate ?z_isinstance ?z_bool ?z_tuple ?z_all ?z_min ?z_str ?z_gcd
    (case a_order_of_fractions => k_is)
    (case l_order_of_fractions => k_is)
    (case c_order_of_fractions => k_is)
    (case k_order_of_fractions => k_is)
    (case a_sign_of => k_is)
    (case l_sign_of => k_is)
    (case c_sign_of => k_is)
    (case k_sign_of => k_is)
    (case a_cut => k_is)
    (case l_cut => k_is)
    (case c_cut => k_is)
    (case k_cut => k_is)
    (case a_negated => k_is)
    (case l_negated => k_is)
    (case c_negated => k_is)
    (case k_negated => k_is)
    (case a_added => k_is)
    (case l_added => k_is)
    (case c_added => k_is)
    (case k_added => k_is)
    (case a_multiplied => k_is)
    (case l_multiplied => k_is)
    (case c_multiplied => k_is)
    (case k_multiplied => k_is)
    (case a_content => k_is)
    (case l_content => k_is)
    (case c_content => k_is)
    (case k_content => k_is)
    (case a_primitive => k_is)
    (case l_primitive => k_is)
    (case c_primitive => k_is)
    (case k_primitive => k_is)
    (case a_upright => k_is)
    (case l_upright => k_is)
    (case c_upright => k_is)
    (case k_upright => k_is)
    (case a_remainder => k_is)
    (case l_remainder => k_is)
    (case c_remainder => k_is)
    (case k_remainder => k_is)
    (case a_quotient => k_is)
    (case l_quotient => k_is)
    (case c_quotient => k_is)
    (case k_quotient => k_is)
    (case a_common_factor => k_is)
    (case l_common_factor => k_is)
    (case c_common_factor => k_is)
    (case k_common_factor => k_is)
    (case a_copied => k_is)
    (case l_copied => k_is)
    (case c_copied => k_is)
    (case k_copied => k_is)
    (case a_is_integer => k_is)
    (case l_is_integer => k_is)
    (case c_is_integer => k_is)
    (case k_is_integer => k_is)
    (case a_is_fraction => k_is)
    (case l_is_fraction => k_is)
    (case c_is_fraction => k_is)
    (case k_is_fraction => k_is)
    (case a_check_width => k_is)
    (case l_check_width => k_is)
    (case c_check_width => k_is)
    (case k_check_width => k_is)
    (case a_reduced => k_is)
    (case l_reduced => k_is)
    (case c_reduced => k_is)
    (case k_reduced => k_is)
    (case a_told_widths => k_is)
    (case l_told_widths => k_is)
    (case c_told_widths => k_is)
    (case k_told_widths => k_is)
    (case a_first_water => k_is)
    (case l_first_water => k_is)
    (case c_first_water => k_is)
    (case k_first_water => k_is)
    (case a_sum_of => k_is)
    (case l_sum_of => k_is)
    (case c_sum_of => k_is)
    (case k_sum_of => k_is)
    (case a_together => k_is)
    (case l_together => k_is)
    (case c_together => k_is)
    (case k_together => k_is)
    (case a_after => k_is)
    (case l_after => k_is)
    (case c_after => k_is)
    (case k_after => k_is)
    (case a_opened => k_is)
    (case l_opened => k_is)
    (case c_opened => k_is)
    (case k_opened => k_is)
    (case a_poured => k_is)
    (case l_poured => k_is)
    (case c_poured => k_is)
    (case k_poured => k_is)
    (case a_taken => k_is)
    (case l_taken => k_is)
    (case c_taken => k_is)
    (case k_taken => k_is)
    (case a_levels => k_is)
    (case l_levels => k_is)
    (case c_levels => k_is)
    (case k_levels => k_is)
    (case a_number_of => k_is)
    (case l_number_of => k_is)
    (case c_number_of => k_is)
    (case k_number_of => k_is)
    (case a_is_ended => k_is)
    (case l_is_ended => k_is)
    (case c_is_ended => k_is)
    (case k_is_ended => k_is)
    (case a_told_levels => k_is)
    (case l_told_levels => k_is)
    (case c_told_levels => k_is)
    (case k_told_levels => k_is)
    (case a_run_of => k_is)
    (case l_run_of => k_is)
    (case c_run_of => k_is)
    (case k_run_of => k_is)
    (case a_run => k_is)
    (case l_run => k_is)
    (case c_run => k_is)
    (case k_run => k_is)
    (case a_is_amount => k_is)
    (case l_is_amount => k_is)
    (case c_is_amount => k_is)
    (case k_is_amount => k_is)
    (case a_is_tank => k_is)
    (case l_is_tank => k_is)
    (case c_is_tank => k_is)
    (case k_is_tank => k_is)
    (case a_check_tanks => k_is)
    (case l_check_tanks => k_is)
    (case c_check_tanks => k_is)
    (case k_check_tanks => k_is)
    (case a_is_ascending => k_is)
    (case l_is_ascending => k_is)
    (case c_is_ascending => k_is)
    (case k_is_ascending => k_is)
    (case a_is_step => k_is)
    (case l_is_step => k_is)
    (case c_is_step => k_is)
    (case k_is_step => k_is)
    (case a_tanks_of => k_is)
    (case l_tanks_of => k_is)
    (case c_tanks_of => k_is)
    (case k_tanks_of => k_is)
    (case a_check_numbers => k_is)
    (case l_check_numbers => k_is)
    (case c_check_numbers => k_is)
    (case k_check_numbers => k_is)
    (case a_check_part => k_is)
    (case l_check_part => k_is)
    (case c_check_part => k_is)
    (case k_check_part => k_is)
    (case a_check_step => k_is)
    (case l_check_step => k_is)
    (case c_check_step => k_is)
    (case k_check_step => k_is)
    (case a__law_purse => k_is)
    (case l__law_purse => k_is)
    (case c__law_purse => k_is)
    (case k__law_purse => k_is)
    (case a__law_coin => k_is)
    (case l__law_coin => k_is)
    (case c__law_coin => k_is)
    (case k__law_coin => k_is)
    (case a__law_wl_divisor => k_is)
    (case l__law_wl_divisor => k_is)
    (case c__law_wl_divisor => k_is)
    (case k__law_wl_divisor => k_is)
    (case a__law_wl_ratio => k_is)
    (case l__law_wl_ratio => k_is)
    (case c__law_wl_ratio => k_is)
    (case k__law_wl_ratio => k_is)
    (case a__law_wl_plus => k_is)
    (case l__law_wl_plus => k_is)
    (case c__law_wl_plus => k_is)
    (case k__law_wl_plus => k_is)
    (case a__law_wl_times => k_is)
    (case l__law_wl_times => k_is)
    (case c__law_wl_times => k_is)
    (case k__law_wl_times => k_is)
    (case a__law_wl_less => k_is)
    (case l__law_wl_less => k_is)
    (case c__law_wl_less => k_is)
    (case k__law_wl_less => k_is)
    (case a__law_wl_new => k_is)
    (case l__law_wl_new => k_is)
    (case c__law_wl_new => k_is)
    (case k__law_wl_new => k_is)
    (case a__law_wl_part => k_is)
    (case l__law_wl_part => k_is)
    (case c__law_wl_part => k_is)
    (case k__law_wl_part => k_is)
    (case a__law_wl_two => k_is)
    (case l__law_wl_two => k_is)
    (case c__law_wl_two => k_is)
    (case k__law_wl_two => k_is)
    (case a__law_wl_vats => k_is)
    (case l__law_wl_vats => k_is)
    (case c__law_wl_vats => k_is)
    (case k__law_wl_vats => k_is)
    (case a__law_wl_deed => k_is)
    (case l__law_wl_deed => k_is)
    (case c__law_wl_deed => k_is)
    (case k__law_wl_deed => k_is)
    (case a__law_wl_plan => k_is)
    (case l__law_wl_plan => k_is)
    (case c__law_wl_plan => k_is)
    (case k__law_wl_plan => k_is)
    (case a__law_wl_great => k_is)
    (case l__law_wl_great => k_is)
    (case c__law_wl_great => k_is)
    (case k__law_wl_great => k_is)
    (case a__law_wl_width => k_is)
    (case l__law_wl_width => k_is)
    (case c__law_wl_width => k_is)
    (case k__law_wl_width => k_is)
    (case a__law_wl_fraction => k_is)
    (case l__law_wl_fraction => k_is)
    (case c__law_wl_fraction => k_is)
    (case k__law_wl_fraction => k_is)
    (case a__law_step_right => k_is)
    (case l__law_step_right => k_is)
    (case c__law_step_right => k_is)
    (case k__law_step_right => k_is)
    (case a__law_waters => k_is)
    (case l__law_waters => k_is)
    (case c__law_waters => k_is)
    (case k__law_waters => k_is)
    (case a__law_right => k_is)
    (case l__law_right => k_is)
    (case c__law_right => k_is)
    (case k__law_right => k_is)
    (case a_lw => k_is)
    (case l_lw => k_is)
    (case c_lw => k_is)
    (case k_lw => k_is)
    (case g_C => k_is)
    (case s_pg => k_is)
    (case s_hd => k_is)
    (case s_po => k_is)
    (case s_sa => k_is)
    (case s_n1 => k_is)
    (case s_n2 => k_is)
    (case s_mk => k_is)
    (case s_in => k_is)
    (case s_fn => k_is)
    (case s_kp => k_is)
    (case q_T => k_is)
    (case qg_T => k_is)
    (case qt_T => k_is)
    (case qr_T => k_is)
    (case q_S => k_is)
    (case qg_S => k_is)
    (case qt_S => k_is)
    (case qr_S => k_is)
    (case l_I => k_is)
    (case c_I => k_is)
    (case k_I => k_is)
    (case l_T => k_is)
    (case c_T => k_is)
    (case k_T => k_is)
    (case l_S => k_is)
    (case c_S => k_is)
    (case k_S => k_is)
    (case d_g => k_is)
    (case d_l => k_is)
    (case d_k => exact ⟨⟨_, _, rfl, rfl⟩, ⟨_, _, rfl, rfl⟩, ⟨_, _, rfl, rfl⟩, ⟨_, _, rfl, rfl⟩, ⟨_, _, rfl, rfl⟩, trivial⟩)
    (case d_s => first | rfl | decide)
    (case d_0 => k_is)
    (case d_1 => k_is)
    (case d_2 => k_is)
    (case d_3 => k_is)
    (case d_4 => k_is)
    (case z_len => k_is)
    (case z_max => k_is)
    (case z_abs => k_is)
    (case z_int => k_is)
    (case z_range => k_is)
    (case z_list => k_is)
    (case z_enumerate => k_is)
    (case z_isinstance => k_is)
    (case z_bool => k_is)
    (case z_tuple => k_is)
    (case z_all => k_is)
    (case z_min => k_is)
    (case z_str => k_is)
    (case z_gcd => k_is)


