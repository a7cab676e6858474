import PyProof.Rows.All
import Wide.All
import OpenK.AllK
import Wide.FinOn
import HandS.ForMost
import HandS.ForExc
import HandS.Wide
import HandS.Gcd
import HandS.IsInst
import HandS.Defaults
import HandS.Flow
import HandS.EndBits
import HandS.Walk
import HandS.Style
import HandS.Exc
import HandS.ExcInit
import HandS.ExcField
import HandS.ExcIs
import HandS.ExcCtx
import HandS.TryOnly
import KE.KExcIs
import PySem.Challenge.RW_valvelevels_k01_errors
import HandS.Evl
import HandS.Steps
import HandS.HotCalls
import HandS.WordsExc
import HandS.ExcOwn
import PyProof.ReprRoads
import HandS.Dict
import HandS.Deep
import HandS.Flt
import PyProof.P3Eq
import KE.RegKIsAll
set_option Elab.async false
set_option linter.all false
set_option maxRecDepth 100000
set_option maxHeartbeats 20000000
set_option exponentiation.threshold 100000
namespace V2
open PySem L2
/-! the text by its places -/
def topS (i : Nat) : Stmt := PySem.Challenge.pw_valvelevels_k01_errors.main.body.getD i (.Pass ⟨0, 0, 0, 0⟩)
abbrev s_l_sack : Stmt := topS 14
abbrev n_l_sack : List Str := ["script", "rank", "cell"]
abbrev p_l_sack : List Str := ["script", "rank"]
theorem sc_l_sack : FnScope n_l_sack p_l_sack (defScope s_l_sack) := ⟨rfl, rfl, rfl, by decide +kernel, rfl, by decide +kernel, by decide +kernel⟩
abbrev s_l_coin : Stmt := topS 15
abbrev n_l_coin : List Str := ["sack", "many", "drawn", "stirred"]
abbrev p_l_coin : List Str := ["sack", "many"]
theorem sc_l_coin : FnScope n_l_coin p_l_coin (defScope s_l_coin) := ⟨rfl, rfl, rfl, by decide +kernel, rfl, by decide +kernel, by decide +kernel⟩
abbrev s_l_thing : Stmt := topS 16
abbrev n_l_thing : List Str := ["sack", "menu"]
abbrev p_l_thing : List Str := ["sack"]
theorem sc_l_thing : FnScope n_l_thing p_l_thing (defScope s_l_thing) := ⟨rfl, rfl, rfl, by decide +kernel, rfl, by decide +kernel, by decide +kernel⟩
abbrev s_l_kinds : Stmt := topS 17
abbrev n_l_kinds : List Str := ["found", "first"]
abbrev p_l_kinds : List Str := ["found"]
theorem sc_l_kinds : FnScope n_l_kinds p_l_kinds (defScope s_l_kinds) := ⟨rfl, rfl, rfl, by decide +kernel, rfl, by decide +kernel, by decide +kernel⟩
abbrev s_l_made : Stmt := topS 18
abbrev n_l_made : List Str := ["thing", "first"]
abbrev p_l_made : List Str := ["thing"]
theorem sc_l_made : FnScope n_l_made p_l_made (defScope s_l_made) := ⟨rfl, rfl, rfl, by decide +kernel, rfl, by decide +kernel, by decide +kernel⟩
abbrev s_l_named : Stmt := topS 19
abbrev n_l_named : List Str := ["thing", "first"]
abbrev p_l_named : List Str := ["thing"]
theorem sc_l_named : FnScope n_l_named p_l_named (defScope s_l_named) := ⟨rfl, rfl, rfl, by decide +kernel, rfl, by decide +kernel, by decide +kernel⟩
abbrev s_l_throw : Stmt := topS 20
abbrev n_l_throw : List Str := ["rank", "thing"]
abbrev p_l_throw : List Str := ["rank", "thing"]
theorem sc_l_throw : FnScope n_l_throw p_l_throw (defScope s_l_throw) := ⟨rfl, rfl, rfl, by decide +kernel, rfl, by decide +kernel, by decide +kernel⟩
abbrev s_l_caught : Stmt := topS 21
abbrev n_l_caught : List Str := ["rank", "thing", "found", "e"]
abbrev p_l_caught : List Str := ["rank", "thing"]
theorem sc_l_caught : FnScope n_l_caught p_l_caught (defScope s_l_caught) := ⟨rfl, rfl, rfl, by decide +kernel, rfl, by decide +kernel, by decide +kernel⟩
abbrev s_l_checked : Stmt := topS 22
abbrev n_l_checked : List Str := ["sack", "thing", "found", "rank", "due", "kept", "k"]
abbrev p_l_checked : List Str := ["sack"]
theorem sc_l_checked : FnScope n_l_checked p_l_checked (defScope s_l_checked) := ⟨rfl, rfl, rfl, by decide +kernel, rfl, by decide +kernel, by decide +kernel⟩
abbrev s_law : Stmt := topS 23
abbrev n_law : List Str := ["script", "rank", "sack", "turn"]
abbrev p_law : List Str := ["script"]
theorem sc_law : FnScope n_law p_law (defScope s_law) := ⟨rfl, rfl, rfl, by decide +kernel, rfl, by decide +kernel, by decide +kernel⟩
/-- a def in a class's body -/
def inClass (st : Stmt) (i : Nat) : Stmt := match st with
  | .ClassDef _ _ _ body _ _ _ _ _ _ _ => body.getD i (.Pass ⟨0, 0, 0, 0⟩)
  | _ => .Pass ⟨0, 0, 0, 0⟩
abbrev s_TE_init : Stmt := inClass (topS 1) 0
abbrev n_TE_init : List Str := ["self", "value"]
abbrev p_TE_init : List Str := ["self", "value"]
theorem sc_TE_init : FnScope n_TE_init p_TE_init (defScope s_TE_init) := ⟨rfl, rfl, rfl, by decide +kernel, rfl, by decide +kernel, by decide +kernel⟩
end V2


/-! an own class of errors called by keywords alone -/
namespace PySem
namespace HandSPX
open PySem PySem.W PySem.Calls PyProof.Rows
section
variable {M : Model} {A : Around} {E : Value → Shared → Prop} {h : Heap} {g : Array GenState} {d : Drawn} {t : Nat} {os : OsState}
variable {nm q : Str} {C N : Addr} {bs bm bmB : List Value} {hdct : Bool} {sn : List Str} {sub : List Value} {ab : Bool} {col : Option Bool} {dd : Option Addr} {k0 k1 k2 k3 k5 : Option Value} {B newId initId : String}
theorem check_new_ownK (F : ExcBaseFacts B newId initId bmB) (hT : ∀ X : String, bm.contains (.type X) = bmB.contains (.type X)) {kw : List (Str × Value)} {Q : Unit → Shared → Prop}
    (hC : h.get? C = some (excClassObj nm q C N bs bm hdct sn sub ab col dd k0 k1 k2 k3 k5 newId)) (hq : Q () ⟨h, g, d, t, os⟩) : wpAny M A (checkBuiltinCall newId ⟨[.ref C], kw⟩) Q E ⟨h, g, d, t, os⟩ := by
  have hcont : (Value.ref C :: bm).contains (.type B) = true := by rw [List.contains_cons, hT, F.hasB, Bool.or_true]
  have hstar := F.noStar
  simp only [checkBuiltinCall, F.newKind, F.newSplit, F.newRow]
  repeat (first | refine wpAny_loadPart_at hC ?_ | (refine wpAny_isSubtype_exc hC ?_; rw [hcont]) | refine wpAny_staticBase_exc hC ?_ | refine wpAny_madeBy_exc hC ?_ | simp only [bne_self_eq_false, Bool.false_eq_true, if_false] | wp_step)
  exact hq
theorem check_tcK {kw : List (Str × Value)} {Q : Unit → Shared → Prop} (hC : h.get? C = some (excClassObj nm q C N bs bm hdct sn sub ab col dd k0 k1 k2 k3 k5 newId))
    (hq : Q () ⟨h, g, d, t, os⟩) : wpAny M A (checkBuiltinCall "type.__call__" ⟨[.ref C], kw⟩) Q E ⟨h, g, d, t, os⟩ := by
  have f3 := tc_sub
  have hT : (⟨h, g, d, t, os⟩ : Shared).TypeIs (.ref C) "type" := ⟨_, hC, rfl⟩
  simp only [checkBuiltinCall, tc_kind, tc_split]
  repeat (any_goals (first | assumption | with_reducible refine wpAny_loadPart_at hC ?_ | with_reducible refine wpAny_onRaise ?_ | with_reducible refine wpAny_map ?_ | wp_step))
end
section
variable {prog : Program} {w : World} {A : Around} {E : Value → Shared → Prop} {R : Result → Shared → Prop} {h : Heap} {g : Array GenState} {d : Drawn} {t : Nat} {os : OsState}
variable {nm q : Str} {C N : Addr} {bs bm bmB : List Value} {hdct : Bool} {sn : List Str} {sub : List Value} {ab : Bool} {col : Option Bool} {dd : Option Addr} {k0 k1 k2 k3 k5 : Option Value} {B newId initId : String}
theorem new_ownK (F : ExcBaseFacts B newId initId bmB) (hT : ∀ X : String, bm.contains (.type X) = bmB.contains (.type X)) {x : Str} {u : Value}
    (hC : h.get? C = some (excClassObj nm q C N bs bm hdct sn sub ab col dd k0 k1 k2 k3 k5 newId))
    (hq : R (.ok (.ret (.ref (h.objs.size + 1)))) ⟨(h.push { cls := .type "tuple", data := .seq (#[] : Array Value) }).push
      { cls := .ref C, data := .fields #[.ref h.objs.size, .none, .none, .none, .bool false, .none] }, g, d, t, os⟩) :
    codeAny (model prog w) A (.builtin newId ⟨[.ref C], [(x, u)]⟩) R ⟨h, g, d, t, os⟩ := by
  have hends := F.ends
  have hcB : (Value.ref C :: bm).contains (.type B) = true := by rw [List.contains_cons, hT, F.hasB, Bool.or_true]
  have hcA : (Value.ref C :: bm).contains (.type "AttributeError") = false := by rw [List.contains_cons, hT, F.noAttr]; rfl
  have hcN : (Value.ref C :: bm).contains (.type "NameError") = false := by rw [List.contains_cons, hT, F.noName]; rfl
  refine codeAny_builtinAt F.entry ?_
  unfold Builtin.«BaseException.__new__»
  refine wpAt_bind ?_
  show wpAt _ _ _ (stack >>= _) _ _ _
  refine wpAt_bind (wpAt_stack fun p below => wpAt_of_wpAny ?_)
  wp_walk
  refine wpAt_of_wpAny ?_
  rw [F.owner]
  have hrest : ([] : List Value).length ≤ sizeLine := Nat.zero_le _
  repeat (first | with_reducible refine wpAny_madeHere_exc F.canon hC ?_ | with_reducible refine wpAny_loadPart_at hC ?_ | (with_reducible refine wpAny_isSubtype_exc hC ?_; first | rw [hcB] | rw [hcA] | rw [hcN]) | wp_step)
  show R _ _
  rw [Heap.size_push]
  exact hq
theorem type_call_ownK (F : ExcBaseFacts B newId initId bmB) (hT : ∀ X : String, bm.contains (.type X) = bmB.contains (.type X)) {x : Str} {u : Value} {fI : Addr} {Q : Fin → Shared → Prop}
    (hC : h.get? C = some (excClassObj nm q C N bs bm hdct sn sub ab col dd k0 k1 k2 k3 k5 newId))
    (hi : W.Looks (model prog w) h (typeLookup (.ref C) "__init__") (some (.ref fI))) (hb : ∀ self, W.Looks (model prog w) h (bindSpecial (.ref fI) self) (.ref fI, [self]))
    (hq : codeAny (model prog w) A (.call (.ref fI) ⟨[.ref (h.objs.size + 1)], [(x, u)]⟩)
      (fun r s' => match r with | .ok (.ret v) => v = .none ∧ Q (.done (.ret (.ref (h.objs.size + 1)))) s' | .ok _ => False | .error e => E e s')
      ⟨(h.push (W.kdv_tup [])).push (excO C h.objs.size), g, d, t, os⟩) :
    wpAny (model prog w) A (Builtin.«type.__call__» ⟨[.ref C], [(x, u)]⟩) Q E ⟨h, g, d, t, os⟩ := by
  repeat (first | with_reducible refine wpAny_loadPart_at hC ?_ | with_reducible refine wpAny_madeBy_exc hC ?_ | wp_step)
  refine codeAny_call_builtin_code (Code.quiet_builtin _ F.quiet) (check_new_ownK F hT hC ?_)
  refine new_ownK F hT hC ?_
  show wpAny _ _ _ _ _ _
  have k : ∀ b o, h.get? b = some o → ((h.push (W.kdv_tup [])).push (excO C h.objs.size)).get? b = some o := fun b o e => Heap.get?_push_of_some _ (Heap.get?_push_of_some _ e)
  have hC₁ := k _ _ hC
  have hget : ((h.push (W.kdv_tup [])).push (excO C h.objs.size)).get? (h.objs.size + 1) = some (excO C h.objs.size) := by heap_get
  have hcC : (Value.ref C :: bm).contains (.ref C) = true := by simp
  have i1 := hi.keeps k
  have b1 := (hb (.ref (h.objs.size + 1))).keeps k
  unfold isInstance
  repeat (first | with_reducible refine wpAny_loadPart_at hget ?_ | (with_reducible refine wpAny_isSubtype_exc hC₁ ?_; rw [hcC]) | wp_step)
  show wpAny _ _ (typeLookup (.ref C) _) _ _ _
  refine i1.at ?_
  refine wpAny_holding (wpAny_bind (b1.at ?_))
  refine wpAny_bind (wpAny_call (codeAny_mono hq fun r s' z => ?_))
  rcases r with e | (v | _ | _ | _) <;> first | exact z | exact z.elim | skip
  obtain ⟨rfl, z⟩ := z
  first
    | exact wpAny_pure (wpAny_pure z)
    | (wp_walk; exact z)
theorem call_ownK (F : ExcBaseFacts B newId initId bmB) (hT : ∀ X : String, bm.contains (.type X) = bmB.contains (.type X)) {x : Str} {u : Value} {fI : Addr}
    (hC : h.get? C = some (excClassObj nm q C N bs bm hdct sn sub ab col dd k0 k1 k2 k3 k5 newId))
    (hi : W.Looks (model prog w) h (typeLookup (.ref C) "__init__") (some (.ref fI))) (hb : ∀ self, W.Looks (model prog w) h (bindSpecial (.ref fI) self) (.ref fI, [self]))
    (hq : codeAny (model prog w) (A.under (.builtin "type.__call__" ⟨[.ref C], [(x, u)]⟩)) (.call (.ref fI) ⟨[.ref (h.objs.size + 1)], [(x, u)]⟩) (W.InitBack (h.objs.size + 1) R)
      ⟨(h.push (W.kdv_tup [])).push (excO C h.objs.size), g, d, t, os⟩) :
    codeAny (model prog w) A (.call (.ref C) ⟨[], [(x, u)]⟩) R ⟨h, g, d, t, os⟩ := by
  have f1 := tc_lookup
  have f2 := tc_bind (.ref C)
  have hTy : (⟨h, g, d, t, os⟩ : Shared).TypeIs (.ref C) "type" := ⟨_, hC, rfl⟩
  refine codeAny_of_tree ?_
  show wpAny _ _ (callAny (.ref C) _) _ _ _
  repeat (any_goals (first | assumption | with_reducible refine wpAny_loadPart_at hC ?_ | wp_step))
  refine ⟨rfl, ?_⟩
  refine codeAny_call_builtin_at (Code.quiet_builtin _ (by decide +kernel)) entry_typeCall (check_tcK hC (type_call_ownK F hT hC hi hb ?_))
  refine codeAny_mono hq fun r s' z => ?_
  rcases r with e | (v | _ | _ | _) <;> exact z
end
end HandSPX
end PySem


namespace V2
open PySem L2
open PySem.Spec PyProof.Rows
/-! ## own errors as values: made, asked for their class, read -/
/-- what the written part says of an own class of errors, whose __init__ is fI's -/
structure EC (K : PySem.W.Frag) (C fI : Addr) : Prop where
  ox : OexC K C
  noV : PySem.W.findIn K (.ref C) "value" = some none
  iC : PySem.W.findIn K (.ref C) "__init__" = some (some (.ref fI))
  xf : XfC K C
  hcl : (PySem.W.clsIn K C).isSome = true
  ha : PySem.W.findIn K (.ref C) "__class__" = some (some (.builtin "object.__class__"))
  hm : PySem.W.mroIn K C (.type "object") = some true
/-- what is said for all of them -/
structure EG (K : PySem.W.Frag) (fI : Addr) : Prop where
  tI : PySem.W.typeIn K (.ref fI) = some (.type "function")
  hn : PySem.W.specialIn K (.builtin "object.__class__") "__get__" = some (some (.builtin "getset_descriptor.__get__"))
  ht : PySem.W.takesIn K (.builtin "object.__class__") = some true
/-- an error of the class at C, made with v, stands at e with its dict at d -/
structure Er (H : Hp) (e C d : Addr) (v : V) : Prop where
  at_ : H e = some (exo e C (some d))
  dict : H d = some (exd d [("value", v)])
theorem Er.ex {H H' : Hp} {e C d : Addr} {v : V} (h : Er H e C d v) (x : Evl.Ex H H') : Er H' e C d v := ⟨x _ _ h.at_, x _ _ h.dict⟩
def spInit (K : PySem.W.Frag) : Sp := fun vs H Q _ => ∃ (a C : Addr) (y : V), vs = [.ref a, y] ∧ OexC K C ∧ PySem.W.findIn K (.ref C) "value" = some none ∧ H a = some (exo a C none) ∧
  ∀ dx, H dx = none → dx ≠ a → Q .non (upd (upd H dx (exd dx [("value", y)])) a (exo a C (some dx)))
section
variable {base : Heap} {mg : Str → Option Value} {K : PySem.W.Frag} {w : World} {P : Program}
theorem ok_TE_init {f : Addr} {fd : FuncData} (F : Fun K "__init__" "TankError.__init__" s_TE_init f fd) : FnOk P w K mg base CX0 1 f fd p_TE_init (spInit K) := by
  refine F.ok sc_TE_init (fun vs H Q E h => ?_) (fun cdv A outer s H vs Q E hr h => ?_)
  · obtain ⟨a, C, y, rfl, _⟩ := h
    rfl
  · obtain ⟨a, C, y, rfl, T, hno, ha, k⟩ := h
    have nd := sc_TE_init.nd
    refine ⟨_, pss_one (ps_ost (pv 0) (pv 1)), ?_⟩
    exact ⟨_, rfl, _, rfl, a, C, rfl, T, hno, .inl ⟨ha, fun dx hd hn => k dx hd hn⟩⟩
end
/-- C(e) as a value -/
def tExV (C : Addr) (ta : TA) : TE := fun σ H Q => ta σ H fun vs H1 => ∃ y, vs = [y] ∧ ∀ (a d : Addr) (H2 : Hp), H1 a = none → H1 d = none → d ≠ a → Evl.Ex H1 H2 → Er H2 a C d y → Q (.ref a) H2
theorem exv_heap {H1 : Hp} {a d C : Addr} {y : V} (ha : H1 a = none) (hd : H1 d = none) (hn : d ≠ a) :
    Evl.Ex H1 (upd (upd (upd H1 a (exo a C none)) d (exd d [("value", y)])) a (exo a C (some d))) ∧ Er (upd (upd (upd H1 a (exo a C none)) d (exd d [("value", y)])) a (exo a C (some d))) a C d y := by
  refine ⟨fun b o h => ?_, ⟨upd_same, ?_⟩⟩
  · rw [upd_ne (ne_of_none h ha), upd_ne (ne_of_none h hd), upd_ne (ne_of_none h ha)]
    exact h
  · rw [upd_ne hn, upd_same]
section
variable {X : Cx} {x : Str} {C fI : Addr} {k : Nat} {fd : FuncData} {e : Expr} {ta : TA} {p pos : Pos}
theorem run_exv {pins : List (Addr × Obj)} {σ : L2.St} {H1 : Hp} {s1 : Shared} {Q : VK} {us : List Value} {u : Value} {y : V} {args : Args} {hp2 : Heap} {A' : Around}
    (T : EC X.K C fI) (F1 : FnOk X.prog X.w X.K X.mg X.base CX0 k fI fd ["self", "value"] (spInit X.K)) (I1 : Inv X pins σ H1 s1) (ry : RelV y u) (hr : Room k A')
    (e2 : hp2 = (s1.heap.push (PySem.W.kdv_tup us)).push (PySem.HandSPX.excO C s1.heap.objs.size))
    (hE : ∀ (I2 : Inv X pins σ (upd H1 (s1.heap.objs.size + 1) (exo (s1.heap.objs.size + 1) C none)) { s1 with heap := hp2 }), Env0 X.prog X.w X.K X.mg X.base A' X.stack { s1 with heap := hp2 } (upd H1 (s1.heap.objs.size + 1) (exo (s1.heap.objs.size + 1) C none)))
    (hB : X.K.In hp2 → BindsTo { s1 with heap := hp2 } fd args ((["self", "value"] : List Str).zip [Value.ref (s1.heap.objs.size + 1), u]))
    (q : ∀ (a d : Addr) (H2 : Hp), H1 a = none → H1 d = none → d ≠ a → Evl.Ex H1 H2 → Er H2 a C d y → Q (.ref a) H2) :
    codeAny (model X.prog X.w) A' (.call (.ref fI) args) (PySem.W.InitBack (s1.heap.objs.size + 1) fun r s' => match r with | .ok (.ret v) => EP X pins σ Q v s' | _ => False) { s1 with heap := hp2 } := by
  obtain ⟨hp, g, dr, tk, os⟩ := s1
  subst e2
  have hsz : hp.objs.size ≤ hp.objs.size + 1 := Nat.le_succ _
  have hn : H1 (hp.objs.size + 1) = none := I1.hok.fresh hsz
  have kk : ∀ b o, hp.get? b = some o → ((hp.push (PySem.W.kdv_tup us)).push (PySem.HandSPX.excO C hp.objs.size)).get? b = some o := fun b o e => Heap.get?_push_of_some _ (Heap.get?_push_of_some _ e)
  have hget : ((hp.push (PySem.W.kdv_tup us)).push (PySem.HandSPX.excO C hp.objs.size)).get? (hp.objs.size + 1) = some (PySem.HandSPX.excO C hp.objs.size) := by heap_get
  have I2 : Inv X pins σ (upd H1 (hp.objs.size + 1) (exo (hp.objs.size + 1) C none)) ⟨(hp.push (PySem.W.kdv_tup us)).push (PySem.HandSPX.excO C hp.objs.size), g, dr, tk, os⟩ :=
    I1.laid (t' := tk) (a := hp.objs.size + 1) (o := exo (hp.objs.size + 1) C none) (h' := (hp.push (PySem.W.kdv_tup us)).push (PySem.HandSPX.excO C hp.objs.size)) kk hsz (exo_ok hget)
  have r2 : Vals [V.ref (hp.objs.size + 1), y] [Value.ref (hp.objs.size + 1), u] := .cons rfl (.cons ry .nil)
  have hq : spInit X.K [V.ref (hp.objs.size + 1), y] (upd H1 (hp.objs.size + 1) (exo (hp.objs.size + 1) C none)) (fun v H2 => v = .non ∧ Q (.ref (hp.objs.size + 1)) H2) E0 := by
    refine ⟨_, C, y, rfl, T.ox, T.noV, upd_same, fun dx hd hne => ⟨rfl, ?_⟩⟩
    rw [upd_ne hne] at hd
    obtain ⟨z1, z2⟩ := exv_heap (C := C) (y := y) hn hd hne
    exact q _ dx _ hn hd hne z1 z2
  refine codeAny_mono (F1.run _ X.stack _ _ args [Value.ref (hp.objs.size + 1), u] _ _ E0 hr (hE I2) (hB I2.kIn) r2 hq) fun r s' hq' => ?_
  cases r with
  | error er => exact hq'.elim
  | ok fl =>
    cases fl with
    | ret u' =>
      obtain ⟨v, H2, os2, bare2, un2, hok2, rv, ev, q2⟩ := hq'
      subst ev
      refine ⟨rv, ⟨.ref (hp.objs.size + 1), H2, ?_, rfl, q2⟩⟩
      exact I1.call' (ch := []) os2 ((Un.laid kk hsz hn).trans un2) hok2 bare2 (fun b z => absurd z (by simp))
    | next => exact hq'.elim
    | brk => exact hq'.elim
    | cont => exact hq'.elim
theorem pe_exv (T : EC X.K C fI) (G : EG X.K fI) (F1 : FnOk X.prog X.w X.K X.mg X.base CX0 k fI fd ["self", "value"] (spInit X.K)) (hr : Room (k + 1) X.A) (hb : Binds X.K fd ["self", "value"] []) (hg : Gl X x) (hm : X.mg x = some (.ref C)) (ha : PA X [e] ta)
    (hdb : (x == ("__debug__" : Str)) = false := by decide) (he : starEach [e] X.env = (false, eval e X.env) :: starEach [] X.env := by rfl) (hpl : (backTo pos (starEach [] X.env)).any (·.1) = false := by rfl) :
    PE X (.Call (.Name x p) [e] [] pos) (tExV C ta) := by
  refine ⟨fun pins s σ H Q I h => ?_⟩
  obtain ⟨nm, q, N, bs, bm, sn, sub, ab, col, dd, k0, k1, k2, k3, k5, hC, hbm⟩ := T.ox.cls
  refine wpAny_Call_Name_kw (ld_glob I hg hm ?_ hdb)
  refine PySem.W.callWith_K (h₀ := X.base) I.ok.mod.kin T.ox.kC (thn (ha.run pos pins s σ H _ I h) fun us s1 ⟨vs, H1, I1, r1, y, ev, q1⟩ => ⟨I1.kIn, ?_⟩) he hpl
  subst ev
  obtain ⟨u, rfl, ry⟩ : ∃ u, us = [u] ∧ RelV y u := by
    cases r1 with
    | cons ra rb =>
      cases rb
      exact ⟨_, rfl, ra⟩
  · show wpAny _ _ (call (.ref C) [u]) _ _ _
    obtain ⟨hp, g, dr, tk, os⟩ := s1
    have one : [u].length ≤ sizeLine := by show 1 ≤ sizeLine; decide
    refine wpAny_call (PySem.HandSPX.call_own F.excBase_ValueError (fun Y => PySem.HandSPX.refsVE_contains Y bm hbm) (I1.kIn _ _ hC) (PySem.W.looks_findIn I1.kIn T.iC) (fun self => PySem.W.bind_fn I1.kIn self G.tI) one
      (codeAny_mono (run_exv (us := [u]) T F1 I1 ry (hr.make C [u] []) rfl (fun I2 => I2.env0.make C [u] []) (fun Xk => hb _ [Value.ref (hp.objs.size + 1), u] Xk rfl) q1) fun r s' hq' => ?_))
    cases r with
    | error er => exact hq'.elim
    | ok fl =>
      cases fl with
      | ret u' => exact hq'
      | next => exact hq'.elim
      | brk => exact hq'.elim
      | cont => exact hq'.elim
theorem pe_exk {kws : List Keyword} (T : EC X.K C fI) (G : EG X.K fI) (F1 : FnOk X.prog X.w X.K X.mg X.base CX0 k fI fd ["self", "value"] (spInit X.K)) (hr : Room (k + 1) X.A) (hb : KBn X.K fd ["self", "value"] 1 ["value"] (fun us ws => us ++ ws) (fun vs zs => vs ++ zs)) (hg : Gl X x) (hm : X.mg x = some (.ref C)) (hkw : PK X kws ta)
    (hdb : (x == ("__debug__" : Str)) = false := by decide) (hall : (backToKw pos (keywordEach kws X.env)).all (fun b => b.1.isSome) = true := by rfl) (hks : (backToKw pos (keywordEach kws X.env)).filterMap (fun b => b.1) = (["value"] : List Str) := by rfl)
    (hpl : ((backTo pos (starEach [] X.env)).any (fun b => b.1) || (backToKw pos (keywordEach kws X.env)).any (fun b => b.1.isNone)) = false := by rfl) :
    PE X (.Call (.Name x p) [] kws pos) (tExV C ta) := by
  refine ⟨fun pins s σ H Q I h => ?_⟩
  obtain ⟨nm, q, N, bs, bm, sn, sub, ab, col, dd, k0, k1, k2, k3, k5, hC, hbm⟩ := T.ox.cls
  refine wpAny_Call_Name_kw (ld_glob I hg hm ?_ hdb)
  refine PySem.W.callWith_KW0 (h₀ := X.base) I.ok.mod.kin T.ox.kC hall (thn (hkw.run pos pins s σ H _ I h) fun us s1 ⟨vs, H1, I1, r1, y, ev, q1⟩ => ?_) hpl
  subst ev
  rw [hks]
  refine ⟨I1.kIn, ?_⟩
  obtain ⟨u, rfl, ry⟩ : ∃ u, us = [u] ∧ RelV y u := by
    cases r1 with
    | cons ra rb =>
      cases rb
      exact ⟨_, rfl, ra⟩
  · show wpAny _ _ (call (.ref C) [] [("value", u)]) _ _ _
    obtain ⟨hp, g, dr, tk, os⟩ := s1
    refine wpAny_call (PySem.HandSPX.call_ownK F.excBase_ValueError (fun Y => PySem.HandSPX.refsVE_contains Y bm hbm) (I1.kIn _ _ hC) (PySem.W.looks_findIn I1.kIn T.iC) (fun self => PySem.W.bind_fn I1.kIn self G.tI)
      (codeAny_mono (run_exv (us := []) T F1 I1 ry (hr.make C [] [("value", u)]) rfl (fun I2 => I2.env0.make C [] [("value", u)]) (fun Xk => hb.to _ [Value.ref (hp.objs.size + 1)] [u] Xk rfl rfl) q1) fun r s' hq' => ?_))
    cases r with
    | error er => exact hq'.elim
    | ok fl =>
      cases fl with
      | ret u' => exact hq'
      | next => exact hq'.elim
      | brk => exact hq'.elim
      | cont => exact hq'.elim
/-- where an error stands in the heap -/
theorem Er.inst {P : Program} {w : World} {H : Hp} {h : Heap} {a C d : Addr} {v : V} (hok : HOk P w H h) (E : Er H a C d v) : ∃ oe od mA, PySem.W.InstAt h a oe C (some od) ∧ h.get? d = some od ∧ h.Ns1 d mA ∧ (∀ f, RelO (([(("value" : Str), v)]).lookup f) (mA f)) := by
  obtain ⟨t1, ho⟩ := exo_at hok E.at_
  obtain ⟨mA, hns, hr⟩ := exd_at hok E.dict
  obtain ⟨o, es, ep, e1, e2⟩ := id hns
  exact ⟨_, o, mA, ⟨ho, rfl, rfl, e1⟩, e1, hns, hr⟩
/-- isinstance(e, c) -/
def rIsX (K : PySem.W.Frag) (fI : Addr) : List V → Hp → VK → Prop := fun xs H Q => ∃ (a C d : Addr) (v : V) (c : V) (cv : Value) (b : Bool), xs = [.ref a, c] ∧ Er H a C d v ∧ EC K C fI ∧ (∀ u, RelV c u → u = cv) ∧ PySem.W.kitOne K (.ref C) cv = some b ∧ Q (.bl b) H
theorem call_isX (G : EG X.K fI) : CallR X (.builtin "isinstance") (rIsX X.K fI) := by
  intro pins s σ H xs us Q I r h
  obtain ⟨a, C, d, v, c, cv, b, rfl, hE, T, hcv, e, q⟩ := h
  cases r with
  | cons rx rr =>
    cases rr with
    | cons rt rr =>
      cases rr
      cases rx
      have ec := hcv _ rt
      subst ec
      obtain ⟨oe, od, mA, J, _⟩ := hE.inst I.hok
      exact PySem.W.kia_one (PySem.W.kitx_exc T.hcl T.xf.ga T.xf.gg T.xf.exC T.ha G.hn G.ht T.hm) I.kIn J e (fun z => nomatch z) fun tk => ⟨.bl b, H, I.kept (t' := tk) fun _ _ z => z, rfl, q⟩
/-- e.value -/
def tXv (K : PySem.W.Frag) (fI : Addr) (te : TE) : TE := fun σ H Q => te σ H fun x H1 => ∃ (a C d : Addr) (v : V), x = .ref a ∧ Er H1 a C d v ∧ EC K C fI ∧ Q v H1
theorem pe_xv {te : TE} (he : PE X e te) (hb : attributeBase e "value" X.env (eval e X.env) = eval e X.env := by rfl) : PE X (.Attribute e "value" pos) (tXv X.K fI te) := by
  refine ⟨fun pins s σ H Q I h => ?_⟩
  refine attr_of hb (thn (he.run pins s σ H _ I h) fun u s1 hh => ?_)
  obtain ⟨x, H1, I1, rx, a, C, d, v, ex, hE, T, q⟩ := hh
  subst ex
  obtain rfl : u = Value.ref a := rx
  obtain ⟨oe, od, mA, J, hod, hns, hr⟩ := hE.inst I1.hok
  obtain ⟨od', ho, hl⟩ := lookIn_ns hns
  have eo : od' = od := Option.some.inj (ho.symm.trans hod)
  subst eo
  obtain ⟨u, hu, ru⟩ := RelO.some_of (v := v) (o := mA "value") (by have z := hr "value"; exact z)
  exact HandSPX.exc_get I1.kIn J T.xf.ga T.xf.gg T.xf.exC (PySem.W.findObj_own T.xf.hdC T.noV rfl (by rw [hl, hu])) (handed_of ru) ⟨v, H1, I1.tok _, ru, q⟩
end
end V2


namespace V2
open PySem L2 L2H
open PySem.Spec PyProof.Rows
/-! ## a def called with the error that is handled -/
structure FnP (P : Program) (w : World) (K : PySem.W.Frag) (mg : Str → Option Value) (base : Heap) (k : Nat) (f : Addr) (fd : FuncData) (ps : List Str) (sp : Addr × Obj → Sp) : Prop where
  len : ∀ p vs H Q E, sp p vs H Q E → vs.length = ps.length
  run : ∀ (A : Around) (outer : List Env) (s : Shared) (H : Hp) (args : Args) (us : List Value) (vs : List V) (Q : VK) (E : XK) (p : Addr × Obj), RoomH k A → PinOk outer H s p → Env0 P w K mg base A outer s H → BindsTo s fd args (ps.zip us) → Vals vs us → sp p vs H Q E →
    codeAny (model P w) A (.call (.ref f) args) (CR CX0 outer P w H s Q E) s
theorem fn_ofP {P : Program} {w : World} {K : PySem.W.Frag} {mg : Str → Option Value} {base : Heap} {k : Nat} {f : Addr} {name qual : Str} {params : Arguments} {body : List Stmt} {scope : Scope} {dV kV doc pm cdv ct oc : Value} {an od : Option Addr}
    {osl : Array (Option Value)} {N ps : List Str} {sp : Addr × Obj → Sp} (lk : K.lookup f = some ⟨oc, od, .func (PySem.W.fnOf name qual params body scope dV kV doc pm an cdv ct), osl⟩) (hcd : PySem.W.codeIn K cdv qual = true) (S : FnScope N ps scope)
    (len : ∀ p vs H Q E, sp p vs H Q E → vs.length = ps.length)
    (hbody : ∀ (A : Around) (outer : List Env) (s : Shared) (H : Hp) (vs : List V) (Q : VK) (E : XK) (p : Addr × Obj), RoomH k (A.deeper (envOfC qual scope s.heap.objs.size f cdv)) → sp p vs H Q E →
      ∃ t, PSs (cxH CX0 P w K mg base N qual scope f cdv A outer s H E p) body t ∧ t { nx := fun _ H' => Q .non H', rt := Q } (L2.start N vs) H) :
    FnP P w K mg base (k + 1) f (PySem.W.fnOf name qual params body scope dV kV doc pm an cdv ct) ps sp := by
  refine ⟨len, fun A outer s H args us vs Q E p hr hpin e0 hb r hsp => ?_⟩
  have hl := len _ _ _ _ _ hsp
  have KX : K.In s.heap := e0.mod.kin.keeps fun b o e => (e0.bs b o e).1
  have lim : s.heap.NoLimit := e0.mod.nolimit.keeps fun b o e => (e0.bs b o e).1
  have hkind : ∀ y ∈ ps.zip us, scope.names.lookup y.1 = some .local ∨ (scope.names.lookup y.1 = some .cell ∧ ((cellsFrom (s.heap.objs.size + 1) scope.names []).lookup y.1).isSome = true) := fun ⟨n, v⟩ hy => by
    rcases S.par n (List.of_mem_zip hy).1 with q | q
    · exact .inl q
    · exact .inr ⟨q, PySem.W.cellsFrom_some _ _ _ (.inl q)⟩
  refine codeAny_call_function hr.depth (KX _ _ lk) rfl S.co S.gen rfl (PySem.W.codeRec_of KX hcd) (hb _ _ _ _ ?_)
  refine wpAny_newFunctionEnv_cells S.kind hkind fun env he s1 x => ?_
  subst he
  refine ⟨lim.keeps x.toInCall.keep, codeAny_func ?_⟩
  obtain ⟨t, ht, hq⟩ := hbody A outer s H vs Q E p (hr.deeper _) hsp
  have I : Inv (cxH CX0 P w K mg base N qual scope f cdv A outer s H E p) [] (L2.start N vs) H s1 := inv_startH S hpin e0 hl r x
  refine wpAny_mono (ht.run [] s1 (L2.start N vs) H _ I hq) (fun fl s' hs => ?_) fun e s' hs => hs
  have fin : ∀ {σ' : L2.St} {H' : Hp} {v : V} {u : Value}, Inv (cxH CX0 P w K mg base N qual scope f cdv A outer s H E p) [] σ' H' s' → RelV v u → Q v H' → CE outer P w H s Q u s' :=
    fun {σ' H' v u} J rv q => ⟨v, H', J.os, J.bare, J.base, J.hok, rv, q⟩
  cases fl with
  | ret u =>
    obtain ⟨v, σ', H', J, rv, q⟩ := hs
    exact fin J rv q
  | next =>
    obtain ⟨σ', H', J, q⟩ := hs
    exact fin (v := V.non) (u := Value.none) J rfl q
  | brk =>
    obtain ⟨_, _, _, q⟩ := hs
    exact False.elim q
  | cont =>
    obtain ⟨_, _, _, q⟩ := hs
    exact False.elim q
def CalP (P : Program) (w : World) (K : PySem.W.Frag) (mg : Str → Option Value) (base : Heap) (k : Nat) (x : Str) (ps : List Str) (sp : Addr × Obj → Sp) : Prop :=
  ∃ (f : Addr) (fd : FuncData), FnP P w K mg base k f fd ps sp ∧ mg x = some (.ref f) ∧ PySem.W.keepIn K (.ref f) = true ∧ Binds K fd ps []
theorem pe_cp {X : Cx} {k : Nat} {x : Str} {ps : List Str} {sp : Addr × Obj → Sp} {p : Addr × Obj} {e : Expr} {es : List Expr} {t : TA} {q pos : Pos} (c : CalP X.prog X.w X.K X.mg X.base k x ps sp) (hp : p ∈ X.pn) (hr : RoomH k X.A) (ha : PA X (e :: es) t) (hg : Gl X x := by rfl)
    (hdb : (x == ("__debug__" : Str)) = false := by decide) (he : starEach (e :: es) X.env = (false, eval e X.env) :: starEach es X.env := by rfl) (hpl : (backTo pos (starEach es X.env)).any (·.1) = false := by rfl) :
    PE X (.Call (.Name x q) (e :: es) [] pos) (tCall (sp p) [] E0 t) := by
  obtain ⟨f, fd, F, hm, hk, hb⟩ := c
  refine ⟨fun pins s σ H Q I h => ?_⟩
  refine wpAny_Call_Name_kw (ld_glob I hg hm ?_ hdb)
  refine PySem.W.callWith_K (h₀ := X.base) I.ok.mod.kin hk (thn (ha.run pos pins s σ H _ I h) fun us s1 ⟨vs, H1, I1, r, z⟩ => ⟨I1.kIn, ?_⟩) he hpl
  have z : sp p (vs ++ []) H1 Q E0 := z
  rw [List.append_nil] at z
  show wpAny _ _ (call (.ref f) us) _ _ _
  have hl : us.length = ps.length := by rw [← r.length]; exact F.len _ _ _ _ _ z
  have b := hb s1 us I1.kIn (by rw [List.append_nil]; exact hl)
  rw [List.append_nil] at b
  have P1 := I1.pin p (List.mem_append_left _ hp)
  have hpin : PinOk X.stack H1 s1 p := ⟨P1.1, P1.2.1, fun hm => (List.mem_cons.mp (I1.stkSub p.1 hm)).elim P1.2.2.1 P1.2.2.2.1, P1.2.2.2.2⟩
  refine wpAny_call (codeAny_mono (F.run X.A X.stack s1 H1 ⟨us, []⟩ us vs Q E0 p hr hpin I1.env0 b r z) fun r s' hq => ?_)
  cases r with
  | error e => exact hq.elim
  | ok fl =>
    cases fl with
    | ret u => exact I1.after hq
    | next => exact False.elim hq
    | brk => exact False.elim hq
    | cont => exact False.elim hq
/-- isinstance(e, c), e the error that is handled -/
def rIsP (K : PySem.W.Frag) (p : Addr × Obj) (C fI : Addr) : List V → Hp → VK → Prop := fun xs H Q => ∃ (d : Addr) (fs : List (Str × V)) (c : V) (cv : Value) (b : Bool), xs = [.ref p.1, c] ∧ p.2.dict = some d ∧ H d = some (.xd fs) ∧ EC K C fI ∧ (∀ u, RelV c u → u = cv) ∧ PySem.W.kitOne K (.ref C) cv = some b ∧ Q (.bl b) H
theorem inst_pin {P : Program} {w : World} {H : Hp} {h : Heap} {p : Addr × Obj} {C d : Addr} {fs : List (Str × V)} (hok : HOk P w H h) (hg : h.get? p.1 = some p.2) (hc : p.2.cls = .ref C) (hf : ∃ vs, p.2.data = .fields vs) (hd : p.2.dict = some d) (hx : H d = some (.xd fs)) : ∃ od, PySem.W.InstAt h p.1 p.2 C (some od) := by
  have z : ObjOk P w H h d (.xd fs) := hok d _ hx
  obtain ⟨mA, ⟨o, es, ep, e1, e2⟩, hr⟩ := z
  obtain ⟨vs, hv⟩ := hf
  exact ⟨o, hg, hc, by unfold PySem.W.notCls; rw [hv] <;> rfl, by rw [hd]; exact e1⟩
theorem call_isP {X : Cx} {p : Addr × Obj} {C fI : Addr} (G : EG X.K fI) (hp : p ∈ X.pn) (hc : p.2.cls = .ref C) (hf : ∃ vs, p.2.data = .fields vs) : CallR X (.builtin "isinstance") (rIsP X.K p C fI) := by
  intro pins s σ H xs us Q I r h
  obtain ⟨d, fs, c, cv, b, rfl, hd, hx, T, hcv, e, q⟩ := h
  cases r with
  | cons rx rr =>
    cases rr with
    | cons rt rr =>
      cases rr
      cases rx
      have ec := hcv _ rt
      subst ec
      obtain ⟨od, J⟩ := inst_pin I.hok (I.pin p (List.mem_append_left _ hp)).1 hc hf hd hx
      exact PySem.W.kia_one (PySem.W.kitx_exc T.hcl T.xf.ga T.xf.gg T.xf.exC T.ha G.hn G.ht T.hm) I.kIn J e (fun z => nomatch z) fun tk => ⟨.bl b, H, I.kept (t' := tk) fun _ _ z => z, rfl, q⟩
end V2


namespace V2
open PySem L2 L2H
open PySem.Spec PyProof.Rows
/-! ## the twelve classes -/
/-- the answer of kinds: which of the eleven it is -/
def kd (i : Nat) : List V := (List.range 11).map fun k => V.bl (decide (k = i))
structure Cs (K : PySem.W.Frag) (mg : Str → Option Value) (cs : Nat → Addr) (fI : Addr) : Prop where
  isi : mg "isinstance" = none
  G : EG K fI
  n0 : mg "InvalidTank" = some (.ref (cs 0))
  n1 : mg "InvalidStep" = some (.ref (cs 1))
  n2 : mg "UnknownTank" = some (.ref (cs 2))
  n3 : mg "UnknownStep" = some (.ref (cs 3))
  n4 : mg "InvalidFraction" = some (.ref (cs 4))
  n5 : mg "InvalidPolynomial" = some (.ref (cs 5))
  n6 : mg "InvalidPlace" = some (.ref (cs 6))
  n7 : mg "InvalidRange" = some (.ref (cs 7))
  n8 : mg "InvalidClaim" = some (.ref (cs 8))
  n9 : mg "NothingToUndo" = some (.ref (cs 9))
  n10 : mg "Unreadable" = some (.ref (cs 10))
  n11 : mg "TankError" = some (.ref (cs 11))
  ec : ∀ i, i < 12 → EC K (cs i) fI
  is : ∀ i, i < 12 → ∀ j, j < 12 → PySem.W.kitOne K (.ref (cs i)) (.ref (cs j)) = some (decide (j = i) || decide (j = 11))
  sb : ∀ i, i < 12 → PySem.W.subIn K (.ref (cs i)) (.ref (cs 11)) = some true
  vErr : mg "ValueError" = none
  iv : ∀ i, i < 12 → PySem.W.kitOne K (.ref (cs i)) (.type "ValueError") = some true
theorem Cs.is' {K : PySem.W.Frag} {mg : Str → Option Value} {cs : Nat → Addr} {fI : Addr} (c : Cs K mg cs fI) {i j : Nat} (hi : i < 12) (hj : j < 11) : PySem.W.kitOne K (.ref (cs i)) (.ref (cs j)) = some (decide (j = i)) := by
  rw [c.is i hi j (by omega), decide_eq_false (show ¬ j = 11 by omega), Bool.or_false]
theorem relV_ref {a : Addr} : ∀ u, RelV (.ref a) u → u = .ref a := fun u h => h
def spKinds (cs : Nat → Addr) : Sp := fun vs H Q _ => ∃ (a d : Addr) (i : Nat) (v : V), vs = [.ref a] ∧ i < 12 ∧ Er H a (cs i) d v ∧ Evl.RetL (kd i) H Q
def spKindsP (cs : Nat → Addr) (p : Addr × Obj) : Sp := fun vs H Q _ => ∃ (d : Addr) (fs : List (Str × V)) (i : Nat), vs = [.ref p.1] ∧ i < 12 ∧ p.2.cls = .ref (cs i) ∧ (∃ vs, p.2.data = .fields vs) ∧ p.2.dict = some d ∧ H d = some (.xd fs) ∧ Evl.RetL (kd i) H Q
section
variable {base : Heap} {mg : Str → Option Value} {K : PySem.W.Frag} {w : World} {P : Program} {cs : Nat → Addr} {fI : Addr}
theorem ok_kinds {f : Addr} {fd : FuncData} (F : Fun K "_law_pv_kinds" "_law_pv_kinds" s_l_kinds f fd) (c : Cs K mg cs fI) : FnOk P w K mg base CX0 1 f fd p_l_kinds (spKinds cs) := by
  refine F.ok sc_l_kinds (fun vs H Q E h => ?_) (fun cdv A outer s H vs Q E hr h => ?_)
  · obtain ⟨a, d, i, v, rfl, _⟩ := h
    rfl
  · obtain ⟨a, d, i, v, rfl, hi, hE, k⟩ := h
    have nd := sc_l_kinds.nd
    have T := c.ec i hi
    refine ⟨_, pss_cons (ps_set (i := 1) nd rfl (Or.inl rfl) (pe_lst (pa_cons (pe_callB (call_isX c.G) (by rfl) c.isi (by decide +kernel) (pa_cons (pv 0) (pa_cons (pe_glob (v := .ref (cs 0)) (by rfl) c.n0 rfl) pa_nil))) (pa_cons (pe_callB (call_isX c.G) (by rfl) c.isi (by decide +kernel) (pa_cons (pv 0) (pa_cons (pe_glob (v := .ref (cs 1)) (by rfl) c.n1 rfl) pa_nil))) (pa_cons (pe_callB (call_isX c.G) (by rfl) c.isi (by decide +kernel) (pa_cons (pv 0) (pa_cons (pe_glob (v := .ref (cs 2)) (by rfl) c.n2 rfl) pa_nil))) pa_nil))))) (pss_cons (ps_set (i := 1) nd rfl (Or.inl rfl) (pe_op op_cat (pv 1) (pe_lst (pa_cons (pe_callB (call_isX c.G) (by rfl) c.isi (by decide +kernel) (pa_cons (pv 0) (pa_cons (pe_glob (v := .ref (cs 3)) (by rfl) c.n3 rfl) pa_nil))) (pa_cons (pe_callB (call_isX c.G) (by rfl) c.isi (by decide +kernel) (pa_cons (pv 0) (pa_cons (pe_glob (v := .ref (cs 4)) (by rfl) c.n4 rfl) pa_nil))) pa_nil))))) (pss_cons (ps_set (i := 1) nd rfl (Or.inl rfl) (pe_op op_cat (pv 1) (pe_lst (pa_cons (pe_callB (call_isX c.G) (by rfl) c.isi (by decide +kernel) (pa_cons (pv 0) (pa_cons (pe_glob (v := .ref (cs 5)) (by rfl) c.n5 rfl) pa_nil))) (pa_cons (pe_callB (call_isX c.G) (by rfl) c.isi (by decide +kernel) (pa_cons (pv 0) (pa_cons (pe_glob (v := .ref (cs 6)) (by rfl) c.n6 rfl) pa_nil))) pa_nil))))) (pss_cons (ps_set (i := 1) nd rfl (Or.inl rfl) (pe_op op_cat (pv 1) (pe_lst (pa_cons (pe_callB (call_isX c.G) (by rfl) c.isi (by decide +kernel) (pa_cons (pv 0) (pa_cons (pe_glob (v := .ref (cs 7)) (by rfl) c.n7 rfl) pa_nil))) (pa_cons (pe_callB (call_isX c.G) (by rfl) c.isi (by decide +kernel) (pa_cons (pv 0) (pa_cons (pe_glob (v := .ref (cs 8)) (by rfl) c.n8 rfl) pa_nil))) pa_nil))))) (pss_one (ps_ret (pe_op op_cat (pv 1) (pe_lst (pa_cons (pe_callB (call_isX c.G) (by rfl) c.isi (by decide +kernel) (pa_cons (pv 0) (pa_cons (pe_glob (v := .ref (cs 9)) (by rfl) c.n9 rfl) pa_nil))) (pa_cons (pe_callB (call_isX c.G) (by rfl) c.isi (by decide +kernel) (pa_cons (pv 0) (pa_cons (pe_glob (v := .ref (cs 10)) (by rfl) c.n10 rfl) pa_nil))) pa_nil))))))))), ?_⟩
    have e0 := Evl.Ex.refl H
    refine ⟨_, rfl, a, cs i, d, v, .ref (cs 0), .ref (cs 0), decide (0 = i), rfl, hE.ex e0, T, relV_ref, c.is' hi (by decide), ⟨_, rfl, a, cs i, d, v, .ref (cs 1), .ref (cs 1), decide (1 = i), rfl, hE.ex e0, T, relV_ref, c.is' hi (by decide), ⟨_, rfl, a, cs i, d, v, .ref (cs 2), .ref (cs 2), decide (2 = i), rfl, hE.ex e0, T, relV_ref, c.is' hi (by decide), by show 3 ≤ sizeLine; decide, fun l0 h0 => ?_⟩⟩⟩
    have e1 := e0.trans (Evl.Ex.new (o := .lst [.bl (decide (0 = i)), .bl (decide (1 = i)), .bl (decide (2 = i))]) h0)
    have u1 : upd H l0 (.lst [.bl (decide (0 = i)), .bl (decide (1 = i)), .bl (decide (2 = i))]) l0 = _ := upd_same
    generalize upd H l0 (.lst [.bl (decide (0 = i)), .bl (decide (1 = i)), .bl (decide (2 = i))]) = H1 at e1 u1
    refine ⟨_, rfl, ⟨_, rfl, a, cs i, d, v, .ref (cs 3), .ref (cs 3), decide (3 = i), rfl, hE.ex e1, T, relV_ref, c.is' hi (by decide), ⟨_, rfl, a, cs i, d, v, .ref (cs 4), .ref (cs 4), decide (4 = i), rfl, hE.ex e1, T, relV_ref, c.is' hi (by decide), by show 2 ≤ sizeLine; decide, fun z1 y1 => ⟨_, z1, _, _, rfl, rfl, Evl.Ex.new y1 _ _ u1, upd_same, by show 5 ≤ sizeLine; decide, fun l1 h1 => ?_⟩⟩⟩⟩
    have f1 := e1.trans (Evl.Ex.new (o := .lst [.bl (decide (3 = i)), .bl (decide (4 = i))]) y1)
    have e2 := f1.trans (Evl.Ex.new (o := .lst [.bl (decide (0 = i)), .bl (decide (1 = i)), .bl (decide (2 = i)), .bl (decide (3 = i)), .bl (decide (4 = i))]) h1)
    have u2 : upd (upd H1 z1 (.lst [.bl (decide (3 = i)), .bl (decide (4 = i))])) l1 (.lst [.bl (decide (0 = i)), .bl (decide (1 = i)), .bl (decide (2 = i)), .bl (decide (3 = i)), .bl (decide (4 = i))]) l1 = _ := upd_same
    generalize hG1 : upd (upd H1 z1 (.lst [.bl (decide (3 = i)), .bl (decide (4 = i))])) l1 (.lst [.bl (decide (0 = i)), .bl (decide (1 = i)), .bl (decide (2 = i)), .bl (decide (3 = i)), .bl (decide (4 = i))]) = H2 at e2 u2
    simp only [List.cons_append, List.nil_append]
    rw [hG1]
    refine ⟨_, rfl, ⟨_, rfl, a, cs i, d, v, .ref (cs 5), .ref (cs 5), decide (5 = i), rfl, hE.ex e2, T, relV_ref, c.is' hi (by decide), ⟨_, rfl, a, cs i, d, v, .ref (cs 6), .ref (cs 6), decide (6 = i), rfl, hE.ex e2, T, relV_ref, c.is' hi (by decide), by show 2 ≤ sizeLine; decide, fun z2 y2 => ⟨_, z2, _, _, rfl, rfl, Evl.Ex.new y2 _ _ u2, upd_same, by show 7 ≤ sizeLine; decide, fun l2 h2 => ?_⟩⟩⟩⟩
    have f2 := e2.trans (Evl.Ex.new (o := .lst [.bl (decide (5 = i)), .bl (decide (6 = i))]) y2)
    have e3 := f2.trans (Evl.Ex.new (o := .lst [.bl (decide (0 = i)), .bl (decide (1 = i)), .bl (decide (2 = i)), .bl (decide (3 = i)), .bl (decide (4 = i)), .bl (decide (5 = i)), .bl (decide (6 = i))]) h2)
    have u3 : upd (upd H2 z2 (.lst [.bl (decide (5 = i)), .bl (decide (6 = i))])) l2 (.lst [.bl (decide (0 = i)), .bl (decide (1 = i)), .bl (decide (2 = i)), .bl (decide (3 = i)), .bl (decide (4 = i)), .bl (decide (5 = i)), .bl (decide (6 = i))]) l2 = _ := upd_same
    generalize hG2 : upd (upd H2 z2 (.lst [.bl (decide (5 = i)), .bl (decide (6 = i))])) l2 (.lst [.bl (decide (0 = i)), .bl (decide (1 = i)), .bl (decide (2 = i)), .bl (decide (3 = i)), .bl (decide (4 = i)), .bl (decide (5 = i)), .bl (decide (6 = i))]) = H3 at e3 u3
    simp only [List.cons_append, List.nil_append]
    rw [hG2]
    refine ⟨_, rfl, ⟨_, rfl, a, cs i, d, v, .ref (cs 7), .ref (cs 7), decide (7 = i), rfl, hE.ex e3, T, relV_ref, c.is' hi (by decide), ⟨_, rfl, a, cs i, d, v, .ref (cs 8), .ref (cs 8), decide (8 = i), rfl, hE.ex e3, T, relV_ref, c.is' hi (by decide), by show 2 ≤ sizeLine; decide, fun z3 y3 => ⟨_, z3, _, _, rfl, rfl, Evl.Ex.new y3 _ _ u3, upd_same, by show 9 ≤ sizeLine; decide, fun l3 h3 => ?_⟩⟩⟩⟩
    have f3 := e3.trans (Evl.Ex.new (o := .lst [.bl (decide (7 = i)), .bl (decide (8 = i))]) y3)
    have e4 := f3.trans (Evl.Ex.new (o := .lst [.bl (decide (0 = i)), .bl (decide (1 = i)), .bl (decide (2 = i)), .bl (decide (3 = i)), .bl (decide (4 = i)), .bl (decide (5 = i)), .bl (decide (6 = i)), .bl (decide (7 = i)), .bl (decide (8 = i))]) h3)
    have u4 : upd (upd H3 z3 (.lst [.bl (decide (7 = i)), .bl (decide (8 = i))])) l3 (.lst [.bl (decide (0 = i)), .bl (decide (1 = i)), .bl (decide (2 = i)), .bl (decide (3 = i)), .bl (decide (4 = i)), .bl (decide (5 = i)), .bl (decide (6 = i)), .bl (decide (7 = i)), .bl (decide (8 = i))]) l3 = _ := upd_same
    generalize hG3 : upd (upd H3 z3 (.lst [.bl (decide (7 = i)), .bl (decide (8 = i))])) l3 (.lst [.bl (decide (0 = i)), .bl (decide (1 = i)), .bl (decide (2 = i)), .bl (decide (3 = i)), .bl (decide (4 = i)), .bl (decide (5 = i)), .bl (decide (6 = i)), .bl (decide (7 = i)), .bl (decide (8 = i))]) = H4 at e4 u4
    simp only [List.cons_append, List.nil_append]
    rw [hG3]
    refine ⟨_, rfl, ⟨_, rfl, a, cs i, d, v, .ref (cs 9), .ref (cs 9), decide (9 = i), rfl, hE.ex e4, T, relV_ref, c.is' hi (by decide), ⟨_, rfl, a, cs i, d, v, .ref (cs 10), .ref (cs 10), decide (10 = i), rfl, hE.ex e4, T, relV_ref, c.is' hi (by decide), by show 2 ≤ sizeLine; decide, fun z4 y4 => ⟨_, z4, _, _, rfl, rfl, Evl.Ex.new y4 _ _ u4, upd_same, by show 11 ≤ sizeLine; decide, fun l4 h4 => ?_⟩⟩⟩⟩
    have f4 := e4.trans (Evl.Ex.new (o := .lst [.bl (decide (9 = i)), .bl (decide (10 = i))]) y4)
    exact k l4 _ (Evl.fresh_back f4 h4) (f4.trans (Evl.Ex.new h4)) (upd_same)
/-- the same, the error being handled -/
theorem ok_kindsP {f : Addr} {oc dV kV doc pm cdv ct : Value} {an od : Option Addr} {osl : Array (Option Value)}
    (lk : K.lookup f = some ⟨oc, od, .func (PySem.W.fnOf "_law_pv_kinds" "_law_pv_kinds" (defArgs s_l_kinds) (defBody s_l_kinds) (defScope s_l_kinds) dV kV doc pm an cdv ct), osl⟩) (hcd : PySem.W.codeIn K cdv "_law_pv_kinds" = true) (c : Cs K mg cs fI) :
    FnP P w K mg base 1 f (PySem.W.fnOf "_law_pv_kinds" "_law_pv_kinds" (defArgs s_l_kinds) (defBody s_l_kinds) (defScope s_l_kinds) dV kV doc pm an cdv ct) p_l_kinds (spKindsP cs) := by
  refine fn_ofP (k := 0) lk hcd sc_l_kinds (fun p vs H Q E h => ?_) (fun A outer s H vs Q E p hr h => ?_)
  · obtain ⟨d, fs, i, rfl, _⟩ := h
    rfl
  · obtain ⟨d, fs, i, rfl, hi, hc, hf, hd, hx, k⟩ := h
    have nd := sc_l_kinds.nd
    have T := c.ec i hi
    have hp : ∀ cd, p ∈ (cxH CX0 P w K mg base n_l_kinds "_law_pv_kinds" (defScope s_l_kinds) f cd A outer s H E p).pn := fun cd => List.mem_cons_self
    refine ⟨_, pss_cons (ps_set (i := 1) nd rfl (Or.inl rfl) (pe_lst (pa_cons (pe_callB (call_isP c.G (hp _) hc hf) (by rfl) c.isi (by decide +kernel) (pa_cons (pv 0) (pa_cons (pe_glob (v := .ref (cs 0)) (by rfl) c.n0 rfl) pa_nil))) (pa_cons (pe_callB (call_isP c.G (hp _) hc hf) (by rfl) c.isi (by decide +kernel) (pa_cons (pv 0) (pa_cons (pe_glob (v := .ref (cs 1)) (by rfl) c.n1 rfl) pa_nil))) (pa_cons (pe_callB (call_isP c.G (hp _) hc hf) (by rfl) c.isi (by decide +kernel) (pa_cons (pv 0) (pa_cons (pe_glob (v := .ref (cs 2)) (by rfl) c.n2 rfl) pa_nil))) pa_nil))))) (pss_cons (ps_set (i := 1) nd rfl (Or.inl rfl) (pe_op op_cat (pv 1) (pe_lst (pa_cons (pe_callB (call_isP c.G (hp _) hc hf) (by rfl) c.isi (by decide +kernel) (pa_cons (pv 0) (pa_cons (pe_glob (v := .ref (cs 3)) (by rfl) c.n3 rfl) pa_nil))) (pa_cons (pe_callB (call_isP c.G (hp _) hc hf) (by rfl) c.isi (by decide +kernel) (pa_cons (pv 0) (pa_cons (pe_glob (v := .ref (cs 4)) (by rfl) c.n4 rfl) pa_nil))) pa_nil))))) (pss_cons (ps_set (i := 1) nd rfl (Or.inl rfl) (pe_op op_cat (pv 1) (pe_lst (pa_cons (pe_callB (call_isP c.G (hp _) hc hf) (by rfl) c.isi (by decide +kernel) (pa_cons (pv 0) (pa_cons (pe_glob (v := .ref (cs 5)) (by rfl) c.n5 rfl) pa_nil))) (pa_cons (pe_callB (call_isP c.G (hp _) hc hf) (by rfl) c.isi (by decide +kernel) (pa_cons (pv 0) (pa_cons (pe_glob (v := .ref (cs 6)) (by rfl) c.n6 rfl) pa_nil))) pa_nil))))) (pss_cons (ps_set (i := 1) nd rfl (Or.inl rfl) (pe_op op_cat (pv 1) (pe_lst (pa_cons (pe_callB (call_isP c.G (hp _) hc hf) (by rfl) c.isi (by decide +kernel) (pa_cons (pv 0) (pa_cons (pe_glob (v := .ref (cs 7)) (by rfl) c.n7 rfl) pa_nil))) (pa_cons (pe_callB (call_isP c.G (hp _) hc hf) (by rfl) c.isi (by decide +kernel) (pa_cons (pv 0) (pa_cons (pe_glob (v := .ref (cs 8)) (by rfl) c.n8 rfl) pa_nil))) pa_nil))))) (pss_one (ps_ret (pe_op op_cat (pv 1) (pe_lst (pa_cons (pe_callB (call_isP c.G (hp _) hc hf) (by rfl) c.isi (by decide +kernel) (pa_cons (pv 0) (pa_cons (pe_glob (v := .ref (cs 9)) (by rfl) c.n9 rfl) pa_nil))) (pa_cons (pe_callB (call_isP c.G (hp _) hc hf) (by rfl) c.isi (by decide +kernel) (pa_cons (pv 0) (pa_cons (pe_glob (v := .ref (cs 10)) (by rfl) c.n10 rfl) pa_nil))) pa_nil))))))))), ?_⟩
    have e0 := Evl.Ex.refl H
    refine ⟨_, rfl, d, fs, .ref (cs 0), .ref (cs 0), decide (0 = i), rfl, hd, e0 _ _ hx, T, relV_ref, c.is' hi (by decide), ⟨_, rfl, d, fs, .ref (cs 1), .ref (cs 1), decide (1 = i), rfl, hd, e0 _ _ hx, T, relV_ref, c.is' hi (by decide), ⟨_, rfl, d, fs, .ref (cs 2), .ref (cs 2), decide (2 = i), rfl, hd, e0 _ _ hx, T, relV_ref, c.is' hi (by decide), by show 3 ≤ sizeLine; decide, fun l0 h0 => ?_⟩⟩⟩
    have e1 := e0.trans (Evl.Ex.new (o := .lst [.bl (decide (0 = i)), .bl (decide (1 = i)), .bl (decide (2 = i))]) h0)
    have u1 : upd H l0 (.lst [.bl (decide (0 = i)), .bl (decide (1 = i)), .bl (decide (2 = i))]) l0 = _ := upd_same
    generalize upd H l0 (.lst [.bl (decide (0 = i)), .bl (decide (1 = i)), .bl (decide (2 = i))]) = H1 at e1 u1
    refine ⟨_, rfl, ⟨_, rfl, d, fs, .ref (cs 3), .ref (cs 3), decide (3 = i), rfl, hd, e1 _ _ hx, T, relV_ref, c.is' hi (by decide), ⟨_, rfl, d, fs, .ref (cs 4), .ref (cs 4), decide (4 = i), rfl, hd, e1 _ _ hx, T, relV_ref, c.is' hi (by decide), by show 2 ≤ sizeLine; decide, fun z1 y1 => ⟨_, z1, _, _, rfl, rfl, Evl.Ex.new y1 _ _ u1, upd_same, by show 5 ≤ sizeLine; decide, fun l1 h1 => ?_⟩⟩⟩⟩
    have f1 := e1.trans (Evl.Ex.new (o := .lst [.bl (decide (3 = i)), .bl (decide (4 = i))]) y1)
    have e2 := f1.trans (Evl.Ex.new (o := .lst [.bl (decide (0 = i)), .bl (decide (1 = i)), .bl (decide (2 = i)), .bl (decide (3 = i)), .bl (decide (4 = i))]) h1)
    have u2 : upd (upd H1 z1 (.lst [.bl (decide (3 = i)), .bl (decide (4 = i))])) l1 (.lst [.bl (decide (0 = i)), .bl (decide (1 = i)), .bl (decide (2 = i)), .bl (decide (3 = i)), .bl (decide (4 = i))]) l1 = _ := upd_same
    generalize hG1 : upd (upd H1 z1 (.lst [.bl (decide (3 = i)), .bl (decide (4 = i))])) l1 (.lst [.bl (decide (0 = i)), .bl (decide (1 = i)), .bl (decide (2 = i)), .bl (decide (3 = i)), .bl (decide (4 = i))]) = H2 at e2 u2
    simp only [List.cons_append, List.nil_append]
    rw [hG1]
    refine ⟨_, rfl, ⟨_, rfl, d, fs, .ref (cs 5), .ref (cs 5), decide (5 = i), rfl, hd, e2 _ _ hx, T, relV_ref, c.is' hi (by decide), ⟨_, rfl, d, fs, .ref (cs 6), .ref (cs 6), decide (6 = i), rfl, hd, e2 _ _ hx, T, relV_ref, c.is' hi (by decide), by show 2 ≤ sizeLine; decide, fun z2 y2 => ⟨_, z2, _, _, rfl, rfl, Evl.Ex.new y2 _ _ u2, upd_same, by show 7 ≤ sizeLine; decide, fun l2 h2 => ?_⟩⟩⟩⟩
    have f2 := e2.trans (Evl.Ex.new (o := .lst [.bl (decide (5 = i)), .bl (decide (6 = i))]) y2)
    have e3 := f2.trans (Evl.Ex.new (o := .lst [.bl (decide (0 = i)), .bl (decide (1 = i)), .bl (decide (2 = i)), .bl (decide (3 = i)), .bl (decide (4 = i)), .bl (decide (5 = i)), .bl (decide (6 = i))]) h2)
    have u3 : upd (upd H2 z2 (.lst [.bl (decide (5 = i)), .bl (decide (6 = i))])) l2 (.lst [.bl (decide (0 = i)), .bl (decide (1 = i)), .bl (decide (2 = i)), .bl (decide (3 = i)), .bl (decide (4 = i)), .bl (decide (5 = i)), .bl (decide (6 = i))]) l2 = _ := upd_same
    generalize hG2 : upd (upd H2 z2 (.lst [.bl (decide (5 = i)), .bl (decide (6 = i))])) l2 (.lst [.bl (decide (0 = i)), .bl (decide (1 = i)), .bl (decide (2 = i)), .bl (decide (3 = i)), .bl (decide (4 = i)), .bl (decide (5 = i)), .bl (decide (6 = i))]) = H3 at e3 u3
    simp only [List.cons_append, List.nil_append]
    rw [hG2]
    refine ⟨_, rfl, ⟨_, rfl, d, fs, .ref (cs 7), .ref (cs 7), decide (7 = i), rfl, hd, e3 _ _ hx, T, relV_ref, c.is' hi (by decide), ⟨_, rfl, d, fs, .ref (cs 8), .ref (cs 8), decide (8 = i), rfl, hd, e3 _ _ hx, T, relV_ref, c.is' hi (by decide), by show 2 ≤ sizeLine; decide, fun z3 y3 => ⟨_, z3, _, _, rfl, rfl, Evl.Ex.new y3 _ _ u3, upd_same, by show 9 ≤ sizeLine; decide, fun l3 h3 => ?_⟩⟩⟩⟩
    have f3 := e3.trans (Evl.Ex.new (o := .lst [.bl (decide (7 = i)), .bl (decide (8 = i))]) y3)
    have e4 := f3.trans (Evl.Ex.new (o := .lst [.bl (decide (0 = i)), .bl (decide (1 = i)), .bl (decide (2 = i)), .bl (decide (3 = i)), .bl (decide (4 = i)), .bl (decide (5 = i)), .bl (decide (6 = i)), .bl (decide (7 = i)), .bl (decide (8 = i))]) h3)
    have u4 : upd (upd H3 z3 (.lst [.bl (decide (7 = i)), .bl (decide (8 = i))])) l3 (.lst [.bl (decide (0 = i)), .bl (decide (1 = i)), .bl (decide (2 = i)), .bl (decide (3 = i)), .bl (decide (4 = i)), .bl (decide (5 = i)), .bl (decide (6 = i)), .bl (decide (7 = i)), .bl (decide (8 = i))]) l3 = _ := upd_same
    generalize hG3 : upd (upd H3 z3 (.lst [.bl (decide (7 = i)), .bl (decide (8 = i))])) l3 (.lst [.bl (decide (0 = i)), .bl (decide (1 = i)), .bl (decide (2 = i)), .bl (decide (3 = i)), .bl (decide (4 = i)), .bl (decide (5 = i)), .bl (decide (6 = i)), .bl (decide (7 = i)), .bl (decide (8 = i))]) = H4 at e4 u4
    simp only [List.cons_append, List.nil_append]
    rw [hG3]
    refine ⟨_, rfl, ⟨_, rfl, d, fs, .ref (cs 9), .ref (cs 9), decide (9 = i), rfl, hd, e4 _ _ hx, T, relV_ref, c.is' hi (by decide), ⟨_, rfl, d, fs, .ref (cs 10), .ref (cs 10), decide (10 = i), rfl, hd, e4 _ _ hx, T, relV_ref, c.is' hi (by decide), by show 2 ≤ sizeLine; decide, fun z4 y4 => ⟨_, z4, _, _, rfl, rfl, Evl.Ex.new y4 _ _ u4, upd_same, by show 11 ≤ sizeLine; decide, fun l4 h4 => ?_⟩⟩⟩⟩
    have f4 := e4.trans (Evl.Ex.new (o := .lst [.bl (decide (9 = i)), .bl (decide (10 = i))]) y4)
    exact k l4 _ (Evl.fresh_back f4 h4) (f4.trans (Evl.Ex.new h4)) (upd_same)
end
end V2


namespace V2
open PySem L2 L2H
open PySem.Spec PyProof.Rows
/-! ## one of each class made -/
structure Mi (P : Program) (w : World) (K : PySem.W.Frag) (mg : Str → Option Value) (base : Heap) (fI : Addr) : Prop where
  run : ∃ fd, FnOk P w K mg base CX0 1 fI fd ["self", "value"] (spInit K) ∧ Binds K fd ["self", "value"] [] ∧ KBn K fd ["self", "value"] 1 ["value"] (fun us ws => us ++ ws) (fun vs zs => vs ++ zs)
def spMade (cs : Nat → Addr) : Sp := fun vs H Q _ => ∃ (y : V), vs = [y] ∧ ∀ (l : Addr) (as : List Addr) (H' : Hp), H l = none → Evl.Ex H H' → H' l = some (.lst (as.map V.ref)) → as.length = 12 → (∀ i a, as[i]? = some a → ∃ d, Er H' a (cs i) d y) → Q (.ref l) H'
theorem get12 {cs : Nat → Addr} {H : Hp} {y : V} {a0 a1 a2 a3 a4 a5 a6 a7 a8 a9 a10 a11 d0 d1 d2 d3 d4 d5 d6 d7 d8 d9 d10 d11 : Addr}
    (r0 : Er H a0 (cs 0) d0 y) (r1 : Er H a1 (cs 1) d1 y) (r2 : Er H a2 (cs 2) d2 y) (r3 : Er H a3 (cs 3) d3 y) (r4 : Er H a4 (cs 4) d4 y) (r5 : Er H a5 (cs 5) d5 y) (r6 : Er H a6 (cs 6) d6 y) (r7 : Er H a7 (cs 7) d7 y) (r8 : Er H a8 (cs 8) d8 y) (r9 : Er H a9 (cs 9) d9 y) (r10 : Er H a10 (cs 10) d10 y) (r11 : Er H a11 (cs 11) d11 y)
    : ∀ i a, [a0, a1, a2, a3, a4, a5, a6, a7, a8, a9, a10, a11][i]? = some a → ∃ d, Er H a (cs i) d y := by
  intro i a h
  match i, h with
  | 0, h => exact ⟨d0, by cases h; exact r0⟩
  | 1, h => exact ⟨d1, by cases h; exact r1⟩
  | 2, h => exact ⟨d2, by cases h; exact r2⟩
  | 3, h => exact ⟨d3, by cases h; exact r3⟩
  | 4, h => exact ⟨d4, by cases h; exact r4⟩
  | 5, h => exact ⟨d5, by cases h; exact r5⟩
  | 6, h => exact ⟨d6, by cases h; exact r6⟩
  | 7, h => exact ⟨d7, by cases h; exact r7⟩
  | 8, h => exact ⟨d8, by cases h; exact r8⟩
  | 9, h => exact ⟨d9, by cases h; exact r9⟩
  | 10, h => exact ⟨d10, by cases h; exact r10⟩
  | 11, h => exact ⟨d11, by cases h; exact r11⟩
  | (n + 12), h => cases h
section
variable {base : Heap} {mg : Str → Option Value} {K : PySem.W.Frag} {w : World} {P : Program} {cs : Nat → Addr} {fI : Addr}
theorem ok_made {f : Addr} {fd : FuncData} (F : Fun K "_law_pv_made" "_law_pv_made" s_l_made f fd) (c : Cs K mg cs fI) (m : Mi P w K mg base fI) : FnOk P w K mg base CX0 3 f fd p_l_made (spMade cs) := by
  refine F.ok sc_l_made (fun vs H Q E h => ?_) (fun cdv A outer s H vs Q E hr h => ?_)
  · obtain ⟨y, rfl, _⟩ := h
    rfl
  · obtain ⟨y, rfl, k⟩ := h
    obtain ⟨fdI, F1, hb, hk⟩ := m.run
    have nd := sc_l_made.nd
    refine ⟨_, pss_cons (ps_set (i := 1) nd rfl (Or.inl rfl) (pe_lst (pa_cons (pe_exv (c.ec 0 (by decide)) c.G F1 hr hb (by rfl) c.n0 (pa_cons (pv 0) pa_nil)) (pa_cons (pe_exv (c.ec 1 (by decide)) c.G F1 hr hb (by rfl) c.n1 (pa_cons (pv 0) pa_nil)) (pa_cons (pe_exv (c.ec 2 (by decide)) c.G F1 hr hb (by rfl) c.n2 (pa_cons (pv 0) pa_nil)) (pa_cons (pe_exv (c.ec 3 (by decide)) c.G F1 hr hb (by rfl) c.n3 (pa_cons (pv 0) pa_nil)) (pa_cons (pe_exv (c.ec 4 (by decide)) c.G F1 hr hb (by rfl) c.n4 (pa_cons (pv 0) pa_nil)) pa_nil))))))) (pss_cons (ps_set (i := 1) nd rfl (Or.inl rfl) (pe_op op_cat (pv 1) (pe_lst (pa_cons (pe_exv (c.ec 5 (by decide)) c.G F1 hr hb (by rfl) c.n5 (pa_cons (pv 0) pa_nil)) (pa_cons (pe_exv (c.ec 6 (by decide)) c.G F1 hr hb (by rfl) c.n6 (pa_cons (pv 0) pa_nil)) (pa_cons (pe_exv (c.ec 7 (by decide)) c.G F1 hr hb (by rfl) c.n7 (pa_cons (pv 0) pa_nil)) (pa_cons (pe_exv (c.ec 8 (by decide)) c.G F1 hr hb (by rfl) c.n8 (pa_cons (pv 0) pa_nil)) pa_nil))))))) (pss_one (ps_ret (pe_op op_cat (pv 1) (pe_lst (pa_cons (pe_exv (c.ec 9 (by decide)) c.G F1 hr hb (by rfl) c.n9 (pa_cons (pv 0) pa_nil)) (pa_cons (pe_exv (c.ec 10 (by decide)) c.G F1 hr hb (by rfl) c.n10 (pa_cons (pv 0) pa_nil)) (pa_cons (pe_exv (c.ec 11 (by decide)) c.G F1 hr hb (by rfl) c.n11 (pa_cons (pv 0) pa_nil)) pa_nil)))))))), ?_⟩
    have e0 := Evl.Ex.refl H
    refine ⟨_, rfl, y, rfl, fun a0 d0 G0 ha0 hd0 hn0 x0 r0 => ?_⟩
    replace e0 := e0.trans x0
    refine ⟨_, rfl, y, rfl, fun a1 d1 G1 ha1 hd1 hn1 x1 r1 => ?_⟩
    replace e0 := e0.trans x1
    replace r0 := r0.ex x1
    refine ⟨_, rfl, y, rfl, fun a2 d2 G2 ha2 hd2 hn2 x2 r2 => ?_⟩
    replace e0 := e0.trans x2
    replace r0 := r0.ex x2
    replace r1 := r1.ex x2
    refine ⟨_, rfl, y, rfl, fun a3 d3 G3 ha3 hd3 hn3 x3 r3 => ?_⟩
    replace e0 := e0.trans x3
    replace r0 := r0.ex x3
    replace r1 := r1.ex x3
    replace r2 := r2.ex x3
    refine ⟨_, rfl, y, rfl, fun a4 d4 G4 ha4 hd4 hn4 x4 r4 => ?_⟩
    replace e0 := e0.trans x4
    replace r0 := r0.ex x4
    replace r1 := r1.ex x4
    replace r2 := r2.ex x4
    replace r3 := r3.ex x4
    refine ⟨by show 5 ≤ sizeLine; decide, fun l0 h0 => ?_⟩
    have w0 := Evl.Ex.new (o := .lst [.ref a0, .ref a1, .ref a2, .ref a3, .ref a4]) h0
    have u : upd G4 l0 (.lst [.ref a0, .ref a1, .ref a2, .ref a3, .ref a4]) l0 = _ := upd_same
    replace e0 := e0.trans w0
    replace r0 := r0.ex w0
    replace r1 := r1.ex w0
    replace r2 := r2.ex w0
    replace r3 := r3.ex w0
    replace r4 := r4.ex w0
    generalize upd G4 l0 (.lst [.ref a0, .ref a1, .ref a2, .ref a3, .ref a4]) = K0 at e0 u r0 r1 r2 r3 r4
    clear w0
    refine ⟨_, rfl, _, rfl, y, rfl, fun a5 d5 G5 ha5 hd5 hn5 x5 r5 => ?_⟩
    replace e0 := e0.trans x5
    replace r0 := r0.ex x5
    replace r1 := r1.ex x5
    replace r2 := r2.ex x5
    replace r3 := r3.ex x5
    replace r4 := r4.ex x5
    replace u := x5 _ _ u
    refine ⟨_, rfl, y, rfl, fun a6 d6 G6 ha6 hd6 hn6 x6 r6 => ?_⟩
    replace e0 := e0.trans x6
    replace r0 := r0.ex x6
    replace r1 := r1.ex x6
    replace r2 := r2.ex x6
    replace r3 := r3.ex x6
    replace r4 := r4.ex x6
    replace r5 := r5.ex x6
    replace u := x6 _ _ u
    refine ⟨_, rfl, y, rfl, fun a7 d7 G7 ha7 hd7 hn7 x7 r7 => ?_⟩
    replace e0 := e0.trans x7
    replace r0 := r0.ex x7
    replace r1 := r1.ex x7
    replace r2 := r2.ex x7
    replace r3 := r3.ex x7
    replace r4 := r4.ex x7
    replace r5 := r5.ex x7
    replace r6 := r6.ex x7
    replace u := x7 _ _ u
    refine ⟨_, rfl, y, rfl, fun a8 d8 G8 ha8 hd8 hn8 x8 r8 => ?_⟩
    replace e0 := e0.trans x8
    replace r0 := r0.ex x8
    replace r1 := r1.ex x8
    replace r2 := r2.ex x8
    replace r3 := r3.ex x8
    replace r4 := r4.ex x8
    replace r5 := r5.ex x8
    replace r6 := r6.ex x8
    replace r7 := r7.ex x8
    replace u := x8 _ _ u
    refine ⟨by show 4 ≤ sizeLine; decide, fun z1 y1 => ⟨_, z1, _, _, rfl, rfl, Evl.Ex.new y1 _ _ u, upd_same, by show 9 ≤ sizeLine; decide, fun l1 h1 => ?_⟩⟩
    have w1 := (Evl.Ex.new (o := .lst [.ref a5, .ref a6, .ref a7, .ref a8]) y1).trans (Evl.Ex.new (o := .lst [.ref a0, .ref a1, .ref a2, .ref a3, .ref a4, .ref a5, .ref a6, .ref a7, .ref a8]) h1)
    replace r0 := r0.ex w1
    replace r1 := r1.ex w1
    replace r2 := r2.ex w1
    replace r3 := r3.ex w1
    replace r4 := r4.ex w1
    replace r5 := r5.ex w1
    replace r6 := r6.ex w1
    replace r7 := r7.ex w1
    replace r8 := r8.ex w1
    replace e0 := e0.trans w1
    replace u : upd (upd G8 z1 (.lst [.ref a5, .ref a6, .ref a7, .ref a8])) l1 (.lst [.ref a0, .ref a1, .ref a2, .ref a3, .ref a4, .ref a5, .ref a6, .ref a7, .ref a8]) l1 = _ := upd_same
    generalize hG1 : upd (upd G8 z1 (.lst [.ref a5, .ref a6, .ref a7, .ref a8])) l1 (.lst [.ref a0, .ref a1, .ref a2, .ref a3, .ref a4, .ref a5, .ref a6, .ref a7, .ref a8]) = K1 at e0 u r0 r1 r2 r3 r4 r5 r6 r7 r8
    simp only [List.cons_append, List.nil_append]
    rw [hG1]
    clear w1 hG1
    refine ⟨_, rfl, _, rfl, y, rfl, fun a9 d9 G9 ha9 hd9 hn9 x9 r9 => ?_⟩
    replace e0 := e0.trans x9
    replace r0 := r0.ex x9
    replace r1 := r1.ex x9
    replace r2 := r2.ex x9
    replace r3 := r3.ex x9
    replace r4 := r4.ex x9
    replace r5 := r5.ex x9
    replace r6 := r6.ex x9
    replace r7 := r7.ex x9
    replace r8 := r8.ex x9
    replace u := x9 _ _ u
    refine ⟨_, rfl, y, rfl, fun a10 d10 G10 ha10 hd10 hn10 x10 r10 => ?_⟩
    replace e0 := e0.trans x10
    replace r0 := r0.ex x10
    replace r1 := r1.ex x10
    replace r2 := r2.ex x10
    replace r3 := r3.ex x10
    replace r4 := r4.ex x10
    replace r5 := r5.ex x10
    replace r6 := r6.ex x10
    replace r7 := r7.ex x10
    replace r8 := r8.ex x10
    replace r9 := r9.ex x10
    replace u := x10 _ _ u
    refine ⟨_, rfl, y, rfl, fun a11 d11 G11 ha11 hd11 hn11 x11 r11 => ?_⟩
    replace e0 := e0.trans x11
    replace r0 := r0.ex x11
    replace r1 := r1.ex x11
    replace r2 := r2.ex x11
    replace r3 := r3.ex x11
    replace r4 := r4.ex x11
    replace r5 := r5.ex x11
    replace r6 := r6.ex x11
    replace r7 := r7.ex x11
    replace r8 := r8.ex x11
    replace r9 := r9.ex x11
    replace r10 := r10.ex x11
    replace u := x11 _ _ u
    refine ⟨by show 3 ≤ sizeLine; decide, fun z2 y2 => ⟨_, z2, _, _, rfl, rfl, Evl.Ex.new y2 _ _ u, upd_same, by show 12 ≤ sizeLine; decide, fun l2 h2 => ?_⟩⟩
    have w2 := (Evl.Ex.new (o := .lst [.ref a9, .ref a10, .ref a11]) y2).trans (Evl.Ex.new (o := .lst [.ref a0, .ref a1, .ref a2, .ref a3, .ref a4, .ref a5, .ref a6, .ref a7, .ref a8, .ref a9, .ref a10, .ref a11]) h2)
    replace r0 := r0.ex w2
    replace r1 := r1.ex w2
    replace r2 := r2.ex w2
    replace r3 := r3.ex w2
    replace r4 := r4.ex w2
    replace r5 := r5.ex w2
    replace r6 := r6.ex w2
    replace r7 := r7.ex w2
    replace r8 := r8.ex w2
    replace r9 := r9.ex w2
    replace r10 := r10.ex w2
    replace r11 := r11.ex w2
    exact k l2 [a0, a1, a2, a3, a4, a5, a6, a7, a8, a9, a10, a11] _ (Evl.fresh_back (e0.trans (Evl.Ex.new y2)) h2) (e0.trans w2) upd_same rfl (get12 r0 r1 r2 r3 r4 r5 r6 r7 r8 r9 r10 r11)
theorem ok_named {f : Addr} {fd : FuncData} (F : Fun K "_law_pv_named" "_law_pv_named" s_l_named f fd) (c : Cs K mg cs fI) (m : Mi P w K mg base fI) : FnOk P w K mg base CX0 3 f fd p_l_named (spMade cs) := by
  refine F.ok sc_l_named (fun vs H Q E h => ?_) (fun cdv A outer s H vs Q E hr h => ?_)
  · obtain ⟨y, rfl, _⟩ := h
    rfl
  · obtain ⟨y, rfl, k⟩ := h
    obtain ⟨fdI, F1, hb, hk⟩ := m.run
    have nd := sc_l_named.nd
    refine ⟨_, pss_cons (ps_set (i := 1) nd rfl (Or.inl rfl) (pe_lst (pa_cons (pe_exk (c.ec 0 (by decide)) c.G F1 hr hk (by rfl) c.n0 (pk_cons (pv 0) pk_nil)) (pa_cons (pe_exk (c.ec 1 (by decide)) c.G F1 hr hk (by rfl) c.n1 (pk_cons (pv 0) pk_nil)) (pa_cons (pe_exk (c.ec 2 (by decide)) c.G F1 hr hk (by rfl) c.n2 (pk_cons (pv 0) pk_nil)) pa_nil))))) (pss_cons (ps_set (i := 1) nd rfl (Or.inl rfl) (pe_op op_cat (pv 1) (pe_lst (pa_cons (pe_exk (c.ec 3 (by decide)) c.G F1 hr hk (by rfl) c.n3 (pk_cons (pv 0) pk_nil)) (pa_cons (pe_exk (c.ec 4 (by decide)) c.G F1 hr hk (by rfl) c.n4 (pk_cons (pv 0) pk_nil)) (pa_cons (pe_exk (c.ec 5 (by decide)) c.G F1 hr hk (by rfl) c.n5 (pk_cons (pv 0) pk_nil)) pa_nil)))))) (pss_cons (ps_set (i := 1) nd rfl (Or.inl rfl) (pe_op op_cat (pv 1) (pe_lst (pa_cons (pe_exk (c.ec 6 (by decide)) c.G F1 hr hk (by rfl) c.n6 (pk_cons (pv 0) pk_nil)) (pa_cons (pe_exk (c.ec 7 (by decide)) c.G F1 hr hk (by rfl) c.n7 (pk_cons (pv 0) pk_nil)) (pa_cons (pe_exk (c.ec 8 (by decide)) c.G F1 hr hk (by rfl) c.n8 (pk_cons (pv 0) pk_nil)) pa_nil)))))) (pss_one (ps_ret (pe_op op_cat (pv 1) (pe_lst (pa_cons (pe_exk (c.ec 9 (by decide)) c.G F1 hr hk (by rfl) c.n9 (pk_cons (pv 0) pk_nil)) (pa_cons (pe_exk (c.ec 10 (by decide)) c.G F1 hr hk (by rfl) c.n10 (pk_cons (pv 0) pk_nil)) (pa_cons (pe_exk (c.ec 11 (by decide)) c.G F1 hr hk (by rfl) c.n11 (pk_cons (pv 0) pk_nil)) pa_nil))))))))), ?_⟩
    have e0 := Evl.Ex.refl H
    refine ⟨_, rfl, y, rfl, fun a0 d0 G0 ha0 hd0 hn0 x0 r0 => ?_⟩
    replace e0 := e0.trans x0
    refine ⟨_, rfl, y, rfl, fun a1 d1 G1 ha1 hd1 hn1 x1 r1 => ?_⟩
    replace e0 := e0.trans x1
    replace r0 := r0.ex x1
    refine ⟨_, rfl, y, rfl, fun a2 d2 G2 ha2 hd2 hn2 x2 r2 => ?_⟩
    replace e0 := e0.trans x2
    replace r0 := r0.ex x2
    replace r1 := r1.ex x2
    refine ⟨by show 3 ≤ sizeLine; decide, fun l0 h0 => ?_⟩
    have w0 := Evl.Ex.new (o := .lst [.ref a0, .ref a1, .ref a2]) h0
    have u : upd G2 l0 (.lst [.ref a0, .ref a1, .ref a2]) l0 = _ := upd_same
    replace e0 := e0.trans w0
    replace r0 := r0.ex w0
    replace r1 := r1.ex w0
    replace r2 := r2.ex w0
    generalize upd G2 l0 (.lst [.ref a0, .ref a1, .ref a2]) = K0 at e0 u r0 r1 r2
    clear w0
    refine ⟨_, rfl, _, rfl, y, rfl, fun a3 d3 G3 ha3 hd3 hn3 x3 r3 => ?_⟩
    replace e0 := e0.trans x3
    replace r0 := r0.ex x3
    replace r1 := r1.ex x3
    replace r2 := r2.ex x3
    replace u := x3 _ _ u
    refine ⟨_, rfl, y, rfl, fun a4 d4 G4 ha4 hd4 hn4 x4 r4 => ?_⟩
    replace e0 := e0.trans x4
    replace r0 := r0.ex x4
    replace r1 := r1.ex x4
    replace r2 := r2.ex x4
    replace r3 := r3.ex x4
    replace u := x4 _ _ u
    refine ⟨_, rfl, y, rfl, fun a5 d5 G5 ha5 hd5 hn5 x5 r5 => ?_⟩
    replace e0 := e0.trans x5
    replace r0 := r0.ex x5
    replace r1 := r1.ex x5
    replace r2 := r2.ex x5
    replace r3 := r3.ex x5
    replace r4 := r4.ex x5
    replace u := x5 _ _ u
    refine ⟨by show 3 ≤ sizeLine; decide, fun z1 y1 => ⟨_, z1, _, _, rfl, rfl, Evl.Ex.new y1 _ _ u, upd_same, by show 6 ≤ sizeLine; decide, fun l1 h1 => ?_⟩⟩
    have w1 := (Evl.Ex.new (o := .lst [.ref a3, .ref a4, .ref a5]) y1).trans (Evl.Ex.new (o := .lst [.ref a0, .ref a1, .ref a2, .ref a3, .ref a4, .ref a5]) h1)
    replace r0 := r0.ex w1
    replace r1 := r1.ex w1
    replace r2 := r2.ex w1
    replace r3 := r3.ex w1
    replace r4 := r4.ex w1
    replace r5 := r5.ex w1
    replace e0 := e0.trans w1
    replace u : upd (upd G5 z1 (.lst [.ref a3, .ref a4, .ref a5])) l1 (.lst [.ref a0, .ref a1, .ref a2, .ref a3, .ref a4, .ref a5]) l1 = _ := upd_same
    generalize hG1 : upd (upd G5 z1 (.lst [.ref a3, .ref a4, .ref a5])) l1 (.lst [.ref a0, .ref a1, .ref a2, .ref a3, .ref a4, .ref a5]) = K1 at e0 u r0 r1 r2 r3 r4 r5
    simp only [List.cons_append, List.nil_append]
    rw [hG1]
    clear w1 hG1
    refine ⟨_, rfl, _, rfl, y, rfl, fun a6 d6 G6 ha6 hd6 hn6 x6 r6 => ?_⟩
    replace e0 := e0.trans x6
    replace r0 := r0.ex x6
    replace r1 := r1.ex x6
    replace r2 := r2.ex x6
    replace r3 := r3.ex x6
    replace r4 := r4.ex x6
    replace r5 := r5.ex x6
    replace u := x6 _ _ u
    refine ⟨_, rfl, y, rfl, fun a7 d7 G7 ha7 hd7 hn7 x7 r7 => ?_⟩
    replace e0 := e0.trans x7
    replace r0 := r0.ex x7
    replace r1 := r1.ex x7
    replace r2 := r2.ex x7
    replace r3 := r3.ex x7
    replace r4 := r4.ex x7
    replace r5 := r5.ex x7
    replace r6 := r6.ex x7
    replace u := x7 _ _ u
    refine ⟨_, rfl, y, rfl, fun a8 d8 G8 ha8 hd8 hn8 x8 r8 => ?_⟩
    replace e0 := e0.trans x8
    replace r0 := r0.ex x8
    replace r1 := r1.ex x8
    replace r2 := r2.ex x8
    replace r3 := r3.ex x8
    replace r4 := r4.ex x8
    replace r5 := r5.ex x8
    replace r6 := r6.ex x8
    replace r7 := r7.ex x8
    replace u := x8 _ _ u
    refine ⟨by show 3 ≤ sizeLine; decide, fun z2 y2 => ⟨_, z2, _, _, rfl, rfl, Evl.Ex.new y2 _ _ u, upd_same, by show 9 ≤ sizeLine; decide, fun l2 h2 => ?_⟩⟩
    have w2 := (Evl.Ex.new (o := .lst [.ref a6, .ref a7, .ref a8]) y2).trans (Evl.Ex.new (o := .lst [.ref a0, .ref a1, .ref a2, .ref a3, .ref a4, .ref a5, .ref a6, .ref a7, .ref a8]) h2)
    replace r0 := r0.ex w2
    replace r1 := r1.ex w2
    replace r2 := r2.ex w2
    replace r3 := r3.ex w2
    replace r4 := r4.ex w2
    replace r5 := r5.ex w2
    replace r6 := r6.ex w2
    replace r7 := r7.ex w2
    replace r8 := r8.ex w2
    replace e0 := e0.trans w2
    replace u : upd (upd G8 z2 (.lst [.ref a6, .ref a7, .ref a8])) l2 (.lst [.ref a0, .ref a1, .ref a2, .ref a3, .ref a4, .ref a5, .ref a6, .ref a7, .ref a8]) l2 = _ := upd_same
    generalize hG2 : upd (upd G8 z2 (.lst [.ref a6, .ref a7, .ref a8])) l2 (.lst [.ref a0, .ref a1, .ref a2, .ref a3, .ref a4, .ref a5, .ref a6, .ref a7, .ref a8]) = K2 at e0 u r0 r1 r2 r3 r4 r5 r6 r7 r8
    simp only [List.cons_append, List.nil_append]
    rw [hG2]
    clear w2 hG2
    refine ⟨_, rfl, _, rfl, y, rfl, fun a9 d9 G9 ha9 hd9 hn9 x9 r9 => ?_⟩
    replace e0 := e0.trans x9
    replace r0 := r0.ex x9
    replace r1 := r1.ex x9
    replace r2 := r2.ex x9
    replace r3 := r3.ex x9
    replace r4 := r4.ex x9
    replace r5 := r5.ex x9
    replace r6 := r6.ex x9
    replace r7 := r7.ex x9
    replace r8 := r8.ex x9
    replace u := x9 _ _ u
    refine ⟨_, rfl, y, rfl, fun a10 d10 G10 ha10 hd10 hn10 x10 r10 => ?_⟩
    replace e0 := e0.trans x10
    replace r0 := r0.ex x10
    replace r1 := r1.ex x10
    replace r2 := r2.ex x10
    replace r3 := r3.ex x10
    replace r4 := r4.ex x10
    replace r5 := r5.ex x10
    replace r6 := r6.ex x10
    replace r7 := r7.ex x10
    replace r8 := r8.ex x10
    replace r9 := r9.ex x10
    replace u := x10 _ _ u
    refine ⟨_, rfl, y, rfl, fun a11 d11 G11 ha11 hd11 hn11 x11 r11 => ?_⟩
    replace e0 := e0.trans x11
    replace r0 := r0.ex x11
    replace r1 := r1.ex x11
    replace r2 := r2.ex x11
    replace r3 := r3.ex x11
    replace r4 := r4.ex x11
    replace r5 := r5.ex x11
    replace r6 := r6.ex x11
    replace r7 := r7.ex x11
    replace r8 := r8.ex x11
    replace r9 := r9.ex x11
    replace r10 := r10.ex x11
    replace u := x11 _ _ u
    refine ⟨by show 3 ≤ sizeLine; decide, fun z3 y3 => ⟨_, z3, _, _, rfl, rfl, Evl.Ex.new y3 _ _ u, upd_same, by show 12 ≤ sizeLine; decide, fun l3 h3 => ?_⟩⟩
    have w3 := (Evl.Ex.new (o := .lst [.ref a9, .ref a10, .ref a11]) y3).trans (Evl.Ex.new (o := .lst [.ref a0, .ref a1, .ref a2, .ref a3, .ref a4, .ref a5, .ref a6, .ref a7, .ref a8, .ref a9, .ref a10, .ref a11]) h3)
    replace r0 := r0.ex w3
    replace r1 := r1.ex w3
    replace r2 := r2.ex w3
    replace r3 := r3.ex w3
    replace r4 := r4.ex w3
    replace r5 := r5.ex w3
    replace r6 := r6.ex w3
    replace r7 := r7.ex w3
    replace r8 := r8.ex w3
    replace r9 := r9.ex w3
    replace r10 := r10.ex w3
    replace r11 := r11.ex w3
    exact k l3 [a0, a1, a2, a3, a4, a5, a6, a7, a8, a9, a10, a11] _ (Evl.fresh_back (e0.trans (Evl.Ex.new y3)) h3) (e0.trans w3) upd_same rfl (get12 r0 r1 r2 r3 r4 r5 r6 r7 r8 r9 r10 r11)
end
end V2


namespace V2
open PySem L2 L2H
open PySem.Spec PyProof.Rows
/-! ## raised and caught -/
theorem pe_mono {X : Cx} {e : Expr} {t t' : TE} (he : PE X e t) (h : ∀ σ H Q, t' σ H Q → t σ H Q) : PE X e t' := ⟨fun pins s σ H Q I z => he.run pins s σ H Q I (h σ H Q z)⟩
/-- the class of rank r -/
def rk (r : Int) : Nat := if r < 11 then r.toNat else 11
def spThrow (cs : Nat → Addr) : Sp := fun vs H _ E => ∃ (r : Int) (y : V), vs = [.int r, y] ∧ 0 ≤ r ∧ ∀ d H', H d = none → Evl.Ex H H' → H' d = some (.xd [("value", y)]) → E (.ref (cs (rk r))) (some d) H'
/-- the reading of raise C(thing) holds -/
theorem raise_ok {K : PySem.W.Frag} {C fI : Addr} {σ : L2.St} {H : Hp} {y : V} {Q : XK} (T : EC K C fI) (h1 : σ[1]? = some (some y)) (q : ∀ d H', H d = none → Evl.Ex H H' → H' d = some (.xd [("value", y)]) → Q (.ref C) (some d) H') :
    tMkO C (spInit K) [] (tCons (tVar 1) tNil) σ H Q := by
  refine ⟨y, h1, by show 1 ≤ 1000; decide, fun a ha => ⟨a, C, y, rfl, T.ox, T.noV, upd_same, fun dx hd hne => ⟨rfl, dx, [("value", y)], upd_same, ?_, ?_, ?_⟩⟩⟩
  · rw [upd_ne hne, upd_same]
  · rw [upd_ne hne] at hd
    exact hd
  · rw [upd_ne hne] at hd
    refine q dx _ hd (fun b o hb => ?_) upd_same
    rw [upd_ne (ne_of_none hb hd), del_ne (ne_of_none hb ha), upd_ne (ne_of_none hb ha), upd_ne (ne_of_none hb hd), upd_ne (ne_of_none hb ha)]
    exact hb
section
variable {base : Heap} {mg : Str → Option Value} {K : PySem.W.Frag} {w : World} {P : Program} {cs : Nat → Addr} {fI : Addr}
theorem ok_throw {f : Addr} {fd : FuncData} (F : Fun K "_law_pv_throw" "_law_pv_throw" s_l_throw f fd) (c : Cs K mg cs fI) (m : Mi P w K mg base fI) : FnOk P w K mg base (L2.CX P w) 3 f fd p_l_throw (spThrow cs) := by
  refine F.okX sc_l_throw (fun vs H Q E h => ?_) (fun cdv A outer s H vs Q E hr h => ?_)
  · obtain ⟨r, y, rfl, _⟩ := h
    rfl
  · obtain ⟨r, y, rfl, h0, k⟩ := h
    obtain ⟨fdI, F1, hb, hk⟩ := m.run
    have nd := sc_l_throw.nd
    refine ⟨_, pss_cons (ps_if (pt_cmpR op_eq (pv 0) pe_int (nomark _)) (pss_one (ps_raise rfl (takes_of rfl rfl rfl rfl) (pmk_oex (k := 1) (c.ec 0 (by decide)).ox (c.ec 0 (by decide)).iC c.G.tI F1 hr hb .nil pass0 (by rfl) c.n0 (pa_cons (pv 1) pa_nil)))) pss_nil) (pss_cons (ps_if (pt_cmpR op_eq (pv 0) pe_int (nomark _)) (pss_one (ps_raise rfl (takes_of rfl rfl rfl rfl) (pmk_oex (k := 1) (c.ec 1 (by decide)).ox (c.ec 1 (by decide)).iC c.G.tI F1 hr hb .nil pass0 (by rfl) c.n1 (pa_cons (pv 1) pa_nil)))) pss_nil) (pss_cons (ps_if (pt_cmpR op_eq (pv 0) pe_int (nomark _)) (pss_one (ps_raise rfl (takes_of rfl rfl rfl rfl) (pmk_oex (k := 1) (c.ec 2 (by decide)).ox (c.ec 2 (by decide)).iC c.G.tI F1 hr hb .nil pass0 (by rfl) c.n2 (pa_cons (pv 1) pa_nil)))) pss_nil) (pss_cons (ps_if (pt_cmpR op_eq (pv 0) pe_int (nomark _)) (pss_one (ps_raise rfl (takes_of rfl rfl rfl rfl) (pmk_oex (k := 1) (c.ec 3 (by decide)).ox (c.ec 3 (by decide)).iC c.G.tI F1 hr hb .nil pass0 (by rfl) c.n3 (pa_cons (pv 1) pa_nil)))) pss_nil) (pss_cons (ps_if (pt_cmpR op_eq (pv 0) pe_int (nomark _)) (pss_one (ps_raise rfl (takes_of rfl rfl rfl rfl) (pmk_oex (k := 1) (c.ec 4 (by decide)).ox (c.ec 4 (by decide)).iC c.G.tI F1 hr hb .nil pass0 (by rfl) c.n4 (pa_cons (pv 1) pa_nil)))) pss_nil) (pss_cons (ps_if (pt_cmpR op_eq (pv 0) pe_int (nomark _)) (pss_one (ps_raise rfl (takes_of rfl rfl rfl rfl) (pmk_oex (k := 1) (c.ec 5 (by decide)).ox (c.ec 5 (by decide)).iC c.G.tI F1 hr hb .nil pass0 (by rfl) c.n5 (pa_cons (pv 1) pa_nil)))) pss_nil) (pss_cons (ps_if (pt_cmpR op_eq (pv 0) pe_int (nomark _)) (pss_one (ps_raise rfl (takes_of rfl rfl rfl rfl) (pmk_oex (k := 1) (c.ec 6 (by decide)).ox (c.ec 6 (by decide)).iC c.G.tI F1 hr hb .nil pass0 (by rfl) c.n6 (pa_cons (pv 1) pa_nil)))) pss_nil) (pss_cons (ps_if (pt_cmpR op_eq (pv 0) pe_int (nomark _)) (pss_one (ps_raise rfl (takes_of rfl rfl rfl rfl) (pmk_oex (k := 1) (c.ec 7 (by decide)).ox (c.ec 7 (by decide)).iC c.G.tI F1 hr hb .nil pass0 (by rfl) c.n7 (pa_cons (pv 1) pa_nil)))) pss_nil) (pss_cons (ps_if (pt_cmpR op_eq (pv 0) pe_int (nomark _)) (pss_one (ps_raise rfl (takes_of rfl rfl rfl rfl) (pmk_oex (k := 1) (c.ec 8 (by decide)).ox (c.ec 8 (by decide)).iC c.G.tI F1 hr hb .nil pass0 (by rfl) c.n8 (pa_cons (pv 1) pa_nil)))) pss_nil) (pss_cons (ps_if (pt_cmpR op_eq (pv 0) pe_int (nomark _)) (pss_one (ps_raise rfl (takes_of rfl rfl rfl rfl) (pmk_oex (k := 1) (c.ec 9 (by decide)).ox (c.ec 9 (by decide)).iC c.G.tI F1 hr hb .nil pass0 (by rfl) c.n9 (pa_cons (pv 1) pa_nil)))) pss_nil) (pss_cons (ps_if (pt_cmpR op_eq (pv 0) pe_int (nomark _)) (pss_one (ps_raise rfl (takes_of rfl rfl rfl rfl) (pmk_oex (k := 1) (c.ec 10 (by decide)).ox (c.ec 10 (by decide)).iC c.G.tI F1 hr hb .nil pass0 (by rfl) c.n10 (pa_cons (pv 1) pa_nil)))) pss_nil) ((pss_one (ps_raise rfl (takes_of rfl rfl rfl rfl) (pmk_oex (k := 1) (c.ec 11 (by decide)).ox (c.ec 11 (by decide)).iC c.G.tI F1 hr hb .nil pass0 (by rfl) c.n11 (pa_cons (pv 1) pa_nil))))))))))))))), ?_⟩
    refine ⟨_, rfl, rfl, _, rfl, ?_⟩
    refine ite2 (fun q => ?_) (fun q0 => ?_)
    · have e : r = 0 := by simpa using q
      subst e
      exact raise_ok (c.ec 0 (by decide)) rfl k
    refine ⟨_, rfl, rfl, _, rfl, ?_⟩
    refine ite2 (fun q => ?_) (fun q1 => ?_)
    · have e : r = 1 := by simpa using q
      subst e
      exact raise_ok (c.ec 1 (by decide)) rfl k
    refine ⟨_, rfl, rfl, _, rfl, ?_⟩
    refine ite2 (fun q => ?_) (fun q2 => ?_)
    · have e : r = 2 := by simpa using q
      subst e
      exact raise_ok (c.ec 2 (by decide)) rfl k
    refine ⟨_, rfl, rfl, _, rfl, ?_⟩
    refine ite2 (fun q => ?_) (fun q3 => ?_)
    · have e : r = 3 := by simpa using q
      subst e
      exact raise_ok (c.ec 3 (by decide)) rfl k
    refine ⟨_, rfl, rfl, _, rfl, ?_⟩
    refine ite2 (fun q => ?_) (fun q4 => ?_)
    · have e : r = 4 := by simpa using q
      subst e
      exact raise_ok (c.ec 4 (by decide)) rfl k
    refine ⟨_, rfl, rfl, _, rfl, ?_⟩
    refine ite2 (fun q => ?_) (fun q5 => ?_)
    · have e : r = 5 := by simpa using q
      subst e
      exact raise_ok (c.ec 5 (by decide)) rfl k
    refine ⟨_, rfl, rfl, _, rfl, ?_⟩
    refine ite2 (fun q => ?_) (fun q6 => ?_)
    · have e : r = 6 := by simpa using q
      subst e
      exact raise_ok (c.ec 6 (by decide)) rfl k
    refine ⟨_, rfl, rfl, _, rfl, ?_⟩
    refine ite2 (fun q => ?_) (fun q7 => ?_)
    · have e : r = 7 := by simpa using q
      subst e
      exact raise_ok (c.ec 7 (by decide)) rfl k
    refine ⟨_, rfl, rfl, _, rfl, ?_⟩
    refine ite2 (fun q => ?_) (fun q8 => ?_)
    · have e : r = 8 := by simpa using q
      subst e
      exact raise_ok (c.ec 8 (by decide)) rfl k
    refine ⟨_, rfl, rfl, _, rfl, ?_⟩
    refine ite2 (fun q => ?_) (fun q9 => ?_)
    · have e : r = 9 := by simpa using q
      subst e
      exact raise_ok (c.ec 9 (by decide)) rfl k
    refine ⟨_, rfl, rfl, _, rfl, ?_⟩
    refine ite2 (fun q => ?_) (fun q10 => ?_)
    · have e : r = 10 := by simpa using q
      subst e
      exact raise_ok (c.ec 10 (by decide)) rfl k
    have e : rk r = 11 := by
      unfold rk
      rw [if_neg]
      simp only [decide_eq_true_eq, V.int.injEq] at q0 q1 q2 q3 q4 q5 q6 q7 q8 q9 q10
      omega
    rw [e] at k
    exact raise_ok (c.ec 11 (by decide)) rfl k
/-! ### the suite -/
def tKE (cs : Nat → Addr) (a : Addr) (cls : Value) (d : Option Addr) (n : Nat) : TE := fun σ H Q => ∃ (dd : Addr) (fs : List (Str × V)) (i : Nat), σ[n]? = some (some (.ref a)) ∧ i < 12 ∧ cls = .ref (cs i) ∧ d = some dd ∧ H dd = some (.xd fs) ∧ Evl.RetL (kd i) H Q
def tIE (cs : Nat → Addr) (a : Addr) (cls : Value) (d : Option Addr) (n : Nat) : TE := fun σ H Q => ∃ (dd : Addr) (fs : List (Str × V)) (i : Nat), σ[n]? = some (some (.ref a)) ∧ i < 12 ∧ cls = .ref (cs i) ∧ d = some dd ∧ H dd = some (.xd fs) ∧ Q (.bl true) H
def tVE (cs : Nat → Addr) (a : Addr) (cls : Value) (d : Option Addr) (n : Nat) : TE := fun σ H Q => ∃ (dd : Addr) (fs : List (Str × V)) (i : Nat) (v : V), σ[n]? = some (some (.ref a)) ∧ i < 12 ∧ cls = .ref (cs i) ∧ d = some dd ∧ H dd = some (.xd fs) ∧ fs.lookup ("value" : Str) = some v ∧ Q v H
end
section
variable {X : Cx} {cs : Nat → Addr} {fI a : Addr} {oe : Obj} {cls : Value} {d : Option Addr} {pn : List (Addr × Obj)} {n : Nat} {x : Str} {p1 p2 p3 pos : Pos}
theorem pe_kE (c : CalP X.prog X.w X.K X.mg X.base 1 "_law_pv_kinds" p_l_kinds (spKindsP cs)) (hr : RoomH 1 X.A) (hz : Zc cls d oe) (hf : ∃ vs, oe.data = .fields vs) (he : PE (X.suite a ((a, oe) :: pn)) (.Name x p1) (tVar n)) (hg : Gl (X.suite a ((a, oe) :: pn)) "_law_pv_kinds" := by rfl) :
    PE (X.suite a ((a, oe) :: pn)) (.Call (.Name "_law_pv_kinds" p2) [.Name x p1] [] pos) (tKE cs a cls d n) := by
  have cc : CalP (X.suite a ((a, oe) :: pn)).prog (X.suite a ((a, oe) :: pn)).w (X.suite a ((a, oe) :: pn)).K (X.suite a ((a, oe) :: pn)).mg (X.suite a ((a, oe) :: pn)).base 1 "_law_pv_kinds" p_l_kinds (spKindsP cs) := c
  have rr : RoomH 1 (X.suite a ((a, oe) :: pn)).A := ⟨hr.dp, hr.un⟩
  refine pe_mono (pe_cp (p := (a, oe)) cc List.mem_cons_self rr (pa_cons he pa_nil) hg) fun σ H Q h => ?_
  obtain ⟨dd, fs, i, h3, hi, e1, e2, hx, k⟩ := h
  exact ⟨_, h3, dd, fs, i, rfl, hi, hz.1.trans e1, hf, hz.2.trans e2, hx, k⟩
theorem pe_iE {K : PySem.W.Frag} {mg : Str → Option Value} (hK : X.K = K) (hmg : X.mg = mg) (c : Cs K mg cs fI) (hcls : ∀ C, cls = .ref C → True) (hz : Zc cls d oe) (hf : ∃ vs, oe.data = .fields vs) (he : PE (X.suite a ((a, oe) :: pn)) (.Name x p1) (tVar n))
    (hg : Gl (X.suite a ((a, oe) :: pn)) "isinstance" := by rfl) (hg2 : Gl (X.suite a ((a, oe) :: pn)) "ValueError" := by rfl) :
    PE (X.suite a ((a, oe) :: pn)) (.Call (.Name "isinstance" p2) [.Name x p1, .Name "ValueError" p3] [] pos) (tIE cs a cls d n) := by
  subst hK hmg
  refine ⟨fun pins s σ H Q I h => ?_⟩
  obtain ⟨dd, fs, i, h3, hi, e1, e2, hx, q⟩ := h
  have hc : (a, oe).2.cls = .ref (cs i) := hz.1.trans e1
  have z := pe_callB (X := X.suite a ((a, oe) :: pn)) (p := p2) (pos := pos) (call_isP (p := (a, oe)) (C := cs i) c.G List.mem_cons_self hc hf) hg c.isi (by decide +kernel) (pa_cons he (pa_cons (pe_bltn (pos := p3) (v := .ty "ValueError") hg2 c.vErr (by decide +kernel) rfl) pa_nil))
  exact z.run pins s σ H Q I ⟨_, h3, dd, fs, .ty "ValueError", .type "ValueError", true, rfl, hz.2.trans e2, hx, c.ec i hi, fun u h => h, c.iv i hi, q⟩
theorem pe_vE (T : ∀ i, i < 12 → EC X.K (cs i) fI) (hz : Zc cls d oe) (hf : ∃ vs, oe.data = .fields vs) (he : PE (X.suite a ((a, oe) :: pn)) (.Name x p1) (tVar n))
    (hb : attributeBase (.Name x p1) "value" (X.suite a ((a, oe) :: pn)).env (eval (.Name x p1) (X.suite a ((a, oe) :: pn)).env) = eval (.Name x p1) (X.suite a ((a, oe) :: pn)).env := by rfl) :
    PE (X.suite a ((a, oe) :: pn)) (.Attribute (.Name x p1) "value" pos) (tVE cs a cls d n) := by
  refine ⟨fun pins s σ H Q I h => ?_⟩
  obtain ⟨dd, fs, i, v, h3, hi, e1, e2, hx, hv, q⟩ := h
  have z := pe_xf (X := X) (a := a) (C := cs i) (oe := oe) (cls := cls) (d := d) (pn := pn) (pos := pos) (n := "value") (T i hi).xf (T i hi).noV hz hf he hb
  exact z.run pins s σ H Q I ⟨_, h3, rfl, e1, dd, fs, v, e2, hx, hv, q⟩
end
/-- the suite: found = [kinds(e), isinstance(e, ValueError), e.value] -/
def t_suite (cs : Nat → Addr) : Addr → Value → Option Addr → TS := fun a cls d => tAsg (tLst (tCons (tKE cs a cls d 3) (tCons (tIE cs a cls d 3) (tCons (tVE cs a cls d 3) tNil)))) (gName 2)
def spCaught (cs : Nat → Addr) : Sp := fun vs H Q _ => ∃ (r : Int) (y : V), vs = [.int r, y] ∧ 0 ≤ r ∧ ∀ l q H', H l = none → H q = none → l ≠ q → Evl.Ex H H' → H' l = some (.lst (kd (rk r))) → H' q = some (.lst [.ref l, .bl true, y]) → Q (.ref q) H'
theorem rk_lt {r : Int} (h : 0 ≤ r) : rk r < 12 := by
  unfold rk
  split <;> omega
section
variable {base : Heap} {mg : Str → Option Value} {K : PySem.W.Frag} {w : World} {P : Program} {cs : Nat → Addr} {fI : Addr}
theorem ok_caught {f fT : Addr} {fd fdT : FuncData} (F : Fun K "_law_pv_caught" "_law_pv_caught" s_l_caught f fd) (c : Cs K mg cs fI) (GT : FnOk P w K mg base (L2.CX P w) 3 fT fdT p_l_throw (spThrow cs)) (gT : mg "_law_pv_throw" = some (.ref fT)) (kT : PySem.W.keepIn K (.ref fT) = true) (bT : Binds K fdT p_l_throw [])
    (cK : CalP P w K mg base 1 "_law_pv_kinds" p_l_kinds (spKindsP cs)) : FnOk P w K mg base CX0 4 f fd p_l_caught (spCaught cs) := by
  refine F.ok sc_l_caught (fun vs H Q E h => ?_) (fun cdv A outer s H vs Q E hr h => ?_)
  · obtain ⟨r, y, rfl, _⟩ := h
    rfl
  · obtain ⟨r, y, rfl, h0, k⟩ := h
    have nd := sc_l_caught.nd
    refine ⟨_, pss_cons (ps_set (i := 2) nd rfl (Or.inl rfl) (pe_lst pa_nil))
      (pss_cons (ps_try_as (i := 3) (tb := fun W => tDrop (tCallS (spThrow cs) (WE W) (tCons (tVar 0) (tCons (tVar 1) tNil)))) (ts := t_suite cs) (Wout := fun _ _ _ _ => False) rfl rfl nd rfl rfl ⟨rfl, by decide, Or.inl c.n11⟩ takes0
          (fun W pn xe tk _ => pss_one (ps_expr (by exact (pe_callS GT hr (by rfl) gT kT bT (fun σ => passAt tk σ) (by exact (pa_cons (pv 0) (pa_cons (pv 1) pa_nil)))))))
          (fun a oe cls d pn hz hf => pss_one (ps_set (i := 2) nd rfl (Or.inl rfl) (pe_lst (pa_cons (pe_kE cK (roomH_of (hr.mono (by decide))) hz hf (pv 3)) (pa_cons (pe_iE rfl rfl c (fun _ _ => trivial) hz hf (pv 3)) (pa_cons (pe_vE c.ec hz hf (pv 3)) pa_nil)))))))
      (pss_one (ps_ret (pv 2)))), ?_⟩
    refine ⟨Nat.zero_le _, fun l0 hl0 => ?_⟩
    have e0 := Evl.Ex.new (o := .lst []) hl0
    generalize upd H l0 (.lst []) = H0 at e0
    have hi := rk_lt h0
    have T11 := c.ec 11 (by decide)
    refine ⟨_, rfl, _, rfl, r, y, rfl, h0, fun d H1 hd e1 hx => ⟨true, PySem.W.exm_ref T11.xf.exC T11.xf.hdC T11.ox.tyC (c.sb _ hi), fun _ a ha => ?_, fun z => Bool.noConfusion z⟩⟩
    refine ⟨d, _, rk r, rfl, hi, rfl, rfl, hx, fun l H2 hl e2 h2 => ?_⟩
    refine ⟨d, _, rk r, rfl, hi, rfl, rfl, e2 _ _ hx, ?_⟩
    refine ⟨d, _, rk r, y, rfl, hi, rfl, rfl, e2 _ _ hx, rfl, by show 3 ≤ sizeLine; decide, fun q hq => ?_⟩
    refine ⟨_, rfl, ?_⟩
    have e3 := Evl.Ex.new (o := .lst [.ref l, .bl true, y]) hq
    exact k l q _ (Evl.fresh_back (e0.trans e1) hl) (Evl.fresh_back ((e0.trans e1).trans e2) hq) (ne_of_none h2 hq) (((e0.trans e1).trans e2).trans e3) (e3 _ _ h2) upd_same
end
end V2


namespace V2
open PySem L2
open PySem.Spec PyProof.Rows
/-! ## rules of our own -/
def CPowX (i j : Int) : Prop := 0 ≤ j ∧ (Builtin.Int.intBits i : Int) * j ≤ 2 ^ 27
theorem op_powX {X : Cx} : OpR X (binaryOp .Pow) (rI CPowX fun i j => .int (i ^ j.toNat)) :=
  opI fun _ _ _ _ _ _ _ hc q => pow_int hc.1 hc.2 q
theorem pow_ok {i : Int} {k n : Nat} (hi : i.natAbs < 2 ^ k) (h : k * n ≤ 134217728) : CPowX i (n : Int) := by
  (refine ⟨Int.natCast_nonneg _, ?_⟩)
  have h1 := intBits_le hi
  have h2 : Builtin.Int.intBits i * n ≤ k * n := Nat.mul_le_mul_right n h1
  have h3 : ((Builtin.Int.intBits i * n : Nat) : Int) ≤ 134217728 := by omega
  have e : (2 : Int) ^ 27 = 134217728 := (by decide)
  rw [e, ← Int.natCast_mul]
  exact h3
/-- all but the list at p is as it was (and there may be new things) -/
def But (p : Addr) (H H' : Hp) : Prop := ∀ b o, b ≠ p → H b = some o → H' b = some o
theorem But.refl (p : Addr) (H : Hp) : But p H H := fun _ _ _ h => h
theorem But.trans {p : Addr} {H H1 H2 : Hp} (a : But p H H1) (b : But p H1 H2) : But p H H2 := fun c o n h => b c o n (a c o n h)
theorem But.of_ex {p : Addr} {H H' : Hp} (e : Evl.Ex H H') : But p H H' := fun b o _ h => e b o h
theorem But.upd {p : Addr} {H : Hp} {o : HO} : But p H (upd H p o) := fun b u n h => by
  rw [upd_ne n]; exact h
/-- the law's sack at p: three ints, at most m draws so far -/
def Sk (H : Hp) (p : Addr) (m : Nat) : Prop := ∃ a b c : Int, H p = some (.lst [.int a, .int b, .int c]) ∧ 0 ≤ a ∧ 0 ≤ b ∧ b < 2 ^ 80 ∧ 0 ≤ c ∧ c ≤ m
theorem Sk.le {H : Hp} {p : Addr} {m n : Nat} (h : Sk H p m) (l : m ≤ n) : Sk H p n := by
  obtain ⟨a, b, c, h1, h2, h3, h4, h5, h6⟩ := h
  exact ⟨a, b, c, h1, h2, h3, h4, h5, by omega⟩
theorem Sk.ex {H H' : Hp} {p : Addr} {m : Nat} (h : Sk H p m) (e : Evl.Ex H H') : Sk H' p m := by
  obtain ⟨a, b, c, h1, h2⟩ := h
  exact ⟨a, b, c, e _ _ h1, h2⟩
/-- a draw: any number below many, the sack goes on -/
def spCoin : Sp := fun vs H Q _ => ∃ (p : Addr) (many : Int) (m : Nat), vs = [.ref p, .int many] ∧ Sk H p m ∧ m ≤ 100000 ∧ 0 < many ∧ many.natAbs < 2 ^ 200 ∧
  ∀ (r : Int) (H' : Hp), 0 ≤ r → r < many → But p H H' → Sk H' p (m + 1) → (∀ q, H q = none → H' q = none) → Q (.int r) H'
structure T0 (mg : Str → Option Value) : Prop where
  len : mg "len" = none
  max : mg "max" = none
  abs : mg "abs" = none
  int : mg "int" = none
theorem at0 {a b c : V} : atI [a, b, c] 0 = some a := by rfl
theorem at1 {a b c : V} : atI [a, b, c] 1 = some b := by rfl
theorem at2 {a b c : V} : atI [a, b, c] 2 = some c := by rfl
theorem ixN3 (j : Nat) (h : j < 3) : ixN 3 (j : Int) = some j := Evl.ixN_nat h
section
variable {base : Heap} {mg : Str → Option Value} {K : PySem.W.Frag} {w : World} {P : Program}
theorem ok_coin {f : Addr} {fd : FuncData} (F : Fun K "_law_pv_coin" "_law_pv_coin" s_l_coin f fd) (T : T0 mg) : FnOk P w K mg base CX0 1 f fd p_l_coin spCoin := by
  refine F.ok sc_l_coin (fun vs H Q E h => ?_) (fun cdv A outer s H vs Q E hr h => ?_)
  · obtain ⟨p, many, m, rfl, _⟩ := h
    rfl
  · obtain ⟨p, many, m, rfl, ⟨a, b, c, hp, ha, hb, hb2, hc, hc2⟩, hm, h0, h200, k⟩ := h
    have nd := sc_l_coin.nd
    refine ⟨_, pss_cons (ps_if (pt_cmpR op_gt (pe_ix ix_list (pv 0) pe_int (fun _ _ => rfl)) pe_int (nomark _))
        (pss_cons (ps_set (i := 2) nd rfl (Or.inl rfl) (pe_op op_mod (pe_callTy call_int1 (by rfl) T.int (by decide +kernel) (pa_cons (pe_ix ix_list (pv 0) pe_int (fun _ _ => rfl)) pa_nil)) (pv 1)))
        (pss_cons (ps_asg (pe_op op_fdivW (pe_ix ix_list (pv 0) pe_int (fun _ _ => rfl)) (pv 1)) (pg_sub (pv 0) pe_int set_list))
        (pss_one (ps_ret (pv 2))))) pss_nil)
      (pss_cons (ps_asg (pe_op op_add (pe_ix ix_list (pv 0) pe_int (fun _ _ => rfl)) pe_int) (pg_sub (pv 0) pe_int set_list))
      (pss_cons (ps_set (i := 3) nd rfl (Or.inl rfl) (pe_op op_mod (pe_op op_powX (pe_callTy call_int1 (by rfl) T.int (by decide +kernel) (pa_cons (pe_op op_add (pe_ix ix_list (pv 0) pe_int (fun _ _ => rfl)) (pe_op op_mul pe_int (pe_ix ix_list (pv 0) pe_int (fun _ _ => rfl)))) pa_nil)) pe_int) (pe_op op_add (pe_op op_powX pe_int pe_int) pe_int)))
      (pss_cons (ps_set (i := 3) nd rfl (Or.inl rfl) (pe_op op_mod (pe_op op_powX (pe_callTy call_int1 (by rfl) T.int (by decide +kernel) (pa_cons (pe_op op_add (pv 3) (pe_op op_mul pe_int (pe_ix ix_list (pv 0) pe_int (fun _ _ => rfl)))) pa_nil)) pe_int) (pe_op op_add (pe_op op_powX pe_int pe_int) pe_int)))
      (pss_one (ps_ret (pe_op op_mod (pe_callTy call_int1 (by rfl) T.int (by decide +kernel) (pa_cons (pe_op op_fdivW (pv 3) pe_int) pa_nil)) (pv 1))))))), ?_⟩
    refine ⟨_, rfl, p, _, _, _, rfl, rfl, SqL.of hp, at0, _, _, rfl, rfl, _, rfl, ?_⟩
    refine ite2 (fun q => ?_) (fun _ => ?_)
    · have q0 : 0 < a := by simpa using q
      refine ⟨_, rfl, p, _, _, _, rfl, rfl, SqL.of hp, at0, .inl ⟨_, rfl, _, rfl, _, _, rfl, rfl, h0, ?_⟩⟩
      refine ⟨_, rfl, p, _, _, _, rfl, rfl, SqL.of hp, at0, _, rfl, _, _, rfl, rfl, wide_div h0 h200 (by decide) (by decide), _, rfl, p, _, 0, 0, rfl, rfl, hp, ixN3 0 (by decide), ?_⟩
      refine ⟨_, rfl, k _ _ (Int.emod_nonneg _ (by omega)) (Int.emod_lt_of_pos _ h0) But.upd ⟨a / many, b, c, upd_same, Int.ediv_nonneg ha (by omega), hb, hb2, hc, by omega⟩ (fun q hq => ?_)⟩
      rw [upd_ne (fun z => by rw [z, hp] at hq; cases hq)]; exact hq
    · have e24 : ((10 : Int) ^ (24 : Int).toNat + 7) = 1000000000000000000000007 := by decide
      have e25 : ((10 : Int) ^ (25 : Int).toNat + 13) = 10000000000000000000000013 := by decide
      have p80 : (2 : Int) ^ 80 = 1208925819614629174706176 := by decide
      have n81 : (2 : Nat) ^ 81 = 2417851639229258349412352 := by decide
      have n85 : (2 : Nat) ^ 85 = 38685626227668133590597632 := by decide
      rw [p80] at hb2
      have w1 : CPowX (b + 1640531527 * (c + 1)) 3 := pow_ok (k := 81) (n := 3) (by rw [n81]; omega) (by decide)
      have w25 : CPowX 10 25 := pow_ok (k := 4) (n := 25) (by decide) (by decide)
      have w24 : CPowX 10 24 := pow_ok (k := 4) (n := 24) (by decide) (by decide)
      have hp2 : upd H p (.lst [.int a, .int b, .int (c + 1)]) p = some (.lst [.int a, .int b, .int (c + 1)]) := upd_same
      refine ⟨_, rfl, p, _, _, _, rfl, rfl, SqL.of hp, at2, _, _, rfl, rfl, _, rfl, p, _, 2, 2, rfl, rfl, hp, ixN3 2 (by decide), ?_⟩
      refine ⟨_, rfl, p, _, _, _, rfl, rfl, SqL.of hp2, at1, _, rfl, p, _, _, _, rfl, rfl, SqL.of hp2, at2, _, _, rfl, rfl, .inl ⟨by decide, by decide⟩, _, _, rfl, rfl, .inl ⟨_, rfl, ?_⟩⟩
      have g25 : (0 : Int) < 10 ^ (25 : Int).toNat + 13 := by rw [e25]; decide
      have g24 : (0 : Int) < 10 ^ (24 : Int).toNat + 7 := by rw [e24]; decide
      refine ⟨_, 3, rfl, rfl, w1, 10, 25, rfl, rfl, w25, _, 13, rfl, rfl, _, _, rfl, rfl, g25, ?_⟩
      have x0 : 0 ≤ (b + 1640531527 * (c + 1)) ^ (3 : Int).toNat % (10 ^ (25 : Int).toNat + 13) := Int.emod_nonneg _ (by omega)
      have x1 : (b + 1640531527 * (c + 1)) ^ (3 : Int).toNat % (10 ^ (25 : Int).toNat + 13) < 10000000000000000000000013 := by rw [← e25]; exact Int.emod_lt_of_pos _ g25
      have w2 : CPowX ((b + 1640531527 * (c + 1)) ^ (3 : Int).toNat % (10 ^ (25 : Int).toNat + 13) + 805459861 * (c + 1)) 2 := pow_ok (k := 85) (n := 2) (by rw [n85]; omega) (by decide)
      refine ⟨_, rfl, _, rfl, p, _, _, _, rfl, rfl, SqL.of hp2, at2, _, _, rfl, rfl, .inl ⟨by decide, by decide⟩, _, _, rfl, rfl, .inl ⟨_, rfl, ?_⟩⟩
      refine ⟨_, 2, rfl, rfl, w2, 10, 24, rfl, rfl, w24, _, 7, rfl, rfl, _, _, rfl, rfl, g24, ?_⟩
      refine ⟨_, rfl, _, 1024, rfl, rfl, wide_div (b := 11) (by decide) (by decide) (by decide) (by decide), .inl ⟨_, rfl, _, rfl, _, _, rfl, rfl, h0, ?_⟩⟩
      refine k _ _ (Int.emod_nonneg _ (by omega)) (Int.emod_lt_of_pos _ h0) But.upd ⟨a, b, c + 1, hp2, ha, hb, by rw [p80]; exact hb2, by omega, by omega⟩ (fun q hq => ?_)
      rw [upd_ne (fun z => by rw [z, hp] at hq; cases hq)]; exact hq
end
end V2


namespace V2
open PySem L2
open PySem.Spec PyProof.Rows
/-! ## defs that show things: they are called where no repr is under way -/
structure FnG (P : Program) (w : World) (K : PySem.W.Frag) (mg : Str → Option Value) (base : Heap) (k : Nat) (f : Addr) (fd : FuncData) (ps : List Str) (sp : Sp) : Prop where
  len : ∀ vs H Qv Ee, sp vs H Qv Ee → vs.length = ps.length
  run : ∀ (A : Around) (outer : List Env) (s : Shared) (H : Hp) (args : Args) (us : List Value) (vs : List V) (Q : VK) (E : XK), A.guards = some [] → Room k A → Env0 P w K mg base A outer s H → BindsTo s fd args (ps.zip us) → Vals vs us → sp vs H Q E →
    codeAny (model P w) A (.call (.ref f) args) (CR CX0 outer P w H s Q E) s
theorem guards_deeper (A : Around) (env : Env) : (A.deeper env).guards = A.guards := rfl
/-- a def by its body, the way in told -/
theorem Fun.okG {P : Program} {w : World} {K : PySem.W.Frag} {mg : Str → Option Value} {base : Heap} {x qual : Str} {st : Stmt} {f : Addr} {fd : FuncData} {N ps : List Str} {k : Nat} {sp : Sp} (F : Fun K x qual st f fd) (S : FnScope N ps (defScope st))
    (len : ∀ vs H Qv Ee, sp vs H Qv Ee → vs.length = ps.length)
    (hbody : ∀ (cdv : Value) (A : Around) (outer : List Env) (s : Shared) (H : Hp) (vs : List V) (Q : VK) (E : XK), A.guards = some [] → Room k (A.deeper (envOfC qual (defScope st) s.heap.objs.size f cdv)) → sp vs H Q E →
      ∃ t, PSs (cxOf CX0 P w K mg base N qual (defScope st) f cdv A outer s H E).nox (defBody st) t ∧ t { nx := fun _ H' => Q .non H', rt := Q } (start N vs) H) :
    FnG P w K mg base (k + 1) f fd ps sp := by
  obtain ⟨ow, oe, kw, dc, pn, am, cdv, cu, sl, rfl, lk, hcd⟩ := F.ex
  constructor
  · exact len
  intro A outer s H args us vs Q E hg hr e0 hb r hsp
  have hl := len vs H Q E hsp
  have st1 : ∀ b o, base.get? b = some o → s.heap.get? b = some o := fun b o e => (e0.bs b o e).1
  have KX : K.In s.heap := e0.mod.kin.keeps st1
  have lim := e0.mod.nolimit.keeps st1
  have kinds : ∀ y ∈ ps.zip us, (defScope st).names.lookup y.1 = some .local ∨ ((defScope st).names.lookup y.1 = some .cell ∧ ((cellsFrom (s.heap.objs.size + 1) (defScope st).names []).lookup y.1).isSome = true) := by
    rintro ⟨n, v⟩ hy
    cases S.par n (List.of_mem_zip hy).1 with
    | inl q => exact .inl q
    | inr q => exact .inr ⟨q, PySem.W.cellsFrom_some _ _ _ (.inl q)⟩
  apply codeAny_call_function hr.depth (KX _ _ lk) rfl S.co S.gen rfl (PySem.W.codeRec_of KX hcd)
  apply hb
  apply wpAny_newFunctionEnv_cells S.kind kinds
  rintro env rfl s1 ic
  constructor
  · exact lim.keeps ic.toInCall.keep
  apply codeAny_func
  obtain ⟨t, ht, hq⟩ := hbody cdv A outer s H vs Q E hg (hr.deeper _) hsp
  have I := inv_start (CX := CX0) (E := E) (qual := qual) (f := f) (cd := cdv) S hr.hd e0 hl r ic
  apply wpAny_mono (ht.nox.run [] s1 (start N vs) H _ I hq)
  · intro fl s' hs
    cases fl with
    | ret u =>
      obtain ⟨v, σ', Hb, J, rr, q⟩ := hs
      exact ⟨v, Hb, J.os, J.bare, J.base, J.hok, rr, q⟩
    | next =>
      obtain ⟨σ', H', J, q⟩ := hs
      exact ⟨V.non, H', J.os, J.bare, J.base, J.hok, rfl, q⟩
    | brk => exact hs.elim fun _ z => z.elim fun _ z => z.2.elim
    | cont => exact hs.elim fun _ z => z.elim fun _ z => z.2.elim
  · exact fun e s' hs => hs
theorem FnOk.toG {P : Program} {w : World} {K : PySem.W.Frag} {mg : Str → Option Value} {base : Heap} {k : Nat} {f : Addr} {fd : FuncData} {ps : List Str} {sp : Sp} (F : FnOk P w K mg base CX0 k f fd ps sp) : FnG P w K mg base k f fd ps sp :=
  ⟨F.len, fun A outer s H args us vs Q E _ => F.run A outer s H args us vs Q E⟩
def CalG (P : Program) (w : World) (K : PySem.W.Frag) (mg : Str → Option Value) (base : Heap) (k : Nat) (x : Str) (ps : List Str) (sp : Sp) : Prop :=
  ∃ (f : Addr) (fd : FuncData), FnG P w K mg base k f fd ps sp ∧ mg x = some (.ref f) ∧ PySem.W.keepIn K (.ref f) = true ∧ Binds K fd ps []
theorem pe_cg {X : Cx} {k : Nat} {x : Str} {ps : List Str} {sp : Sp} {e : Expr} {es : List Expr} {t : TA} {p pos : Pos} (c : CalG X.prog X.w X.K X.mg X.base k x ps sp) (hgd : X.A.guards = some []) (hr : Room k X.A) (ha : PA X (e :: es) t) (hg : Gl X x := by rfl)
    (he : starEach (e :: es) X.env = (false, eval e X.env) :: starEach es X.env := by rfl)
    (hpl : (backTo pos (starEach es X.env)).any (fun b => b.1) = false := by rfl) (hdb : (x == ("__debug__" : Str)) = false := by decide) :
    PE X (.Call (.Name x p) (e :: es) [] pos) (tCall sp [] E0 t) := by
  obtain ⟨f, fd, F, hm, hk, hb⟩ := c
  constructor
  intro pins s σ H Q I h
  apply wpAny_Call_Name_kw
  apply ld_glob I hg hm _ hdb
  refine PySem.W.callWith_K (h₀ := X.base) I.ok.mod.kin hk ?_ he hpl
  apply thn (ha.run pos pins s σ H _ I h)
  rintro us s1 ⟨vs, H1, I1, r, q⟩
  refine ⟨I1.kIn, ?_⟩
  (show wpAny _ _ (call (.ref f) us) _ _ _)
  have q : sp (vs ++ []) H1 Q E0 := q
  rw [List.append_nil] at q
  have hl : us.length = ps.length := by rw [← Paired.length r]; exact F.len _ _ _ _ q
  have bb := hb s1 us I1.kIn (by rw [List.append_nil]; exact hl)
  rw [List.append_nil] at bb
  apply wpAny_call
  apply codeAny_mono (F.run X.A X.stack s1 H1 ⟨us, []⟩ us vs Q E0 hgd hr I1.env0 bb r q)
  intro r' s' hq
  cases r' with
  | error e => exact hq.elim
  | ok fl =>
    cases fl with
    | ret u => exact I1.after hq
    | next => exact hq.elim
    | brk => exact hq.elim
    | cont => exact hq.elim
/-- repr of what is data -/
def rShow (K : PySem.W.Frag) : List V → Hp → VK → Prop := fun xs H Q => ∃ (a : Addr) (d : PyData), xs = [.ref a] ∧ Dp K H (.ref a) d ∧ d.showable = true ∧ d.hasDict = false ∧ d.depth ≤ 60 ∧ d.shown.length ≤ sizeLine ∧ Q (.str d.shown) H
theorem call_show {X : Cx} (hgd : X.A.guards = some []) (hu : X.A.units + 64 < cLine) : CallR X (.builtin "repr") (rShow X.K) := by
  intro pins
  intro s σ H xs us Q I r h
  obtain ⟨a, d, rfl, hd, hs, hn, hp, hz, q⟩ := h
  obtain ⟨u, rfl, ru⟩ : ∃ u, us = [u] ∧ RelV (.ref a) u := by
    cases r with
    | cons ra rb =>
      cases rb
      exact ⟨_, rfl, ra⟩
  have eu : u = Value.ref a := ru
  subst eu
  obtain ⟨as, rd⟩ := Dp.reads I d (.ref a) (.ref a) hd rfl
  apply repr_of_reads' rd hs (fun z => by rw [hn] at z; cases z) hgd (by omega) (fun _ _ e => e) _ hz
  intro h' u tk k
  exact ⟨.str d.shown, H, I.kept (t' := tk) k, ⟨u, rfl⟩, q⟩
end V2


namespace V2
open PySem L2
open PySem.Spec PyProof.Rows
/-! ## the law's own call -/
/-- it says True and leaves what it found -/
def Fine (s₁ : Shared) : Result → Shared → Prop := fun r s2 =>
  r = .ok (.ret (.bool true)) ∧ OldK s₁.heap s2.heap ∧ s2.os = s₁.os ∧ AllBare s2.gens
section
variable {P : Program} {w : World} {K : PySem.W.Frag} {mg mb : Str → Option Value} {k : Nat} {fa a : Addr} {fd : FuncData} {x : Str} {sp : Sp} {s₁ : Shared} {vs : List Value} {ns : List Int}
/-- from an abstract heap that tracks the script at most -/
theorem core_G (KX : K.In s₁.heap) (hns : s₁.heap.Ns mainGlobals mg) (hb : s₁.heap.Ns builtinsNs mb) (hbb : ∀ x : Str, x ≠ "__name__" → mb x = bootBuiltins x) (hlim : s₁.heap.NoLimit) (hg : s₁.gens = #[])
    (ha : s₁.heap.get? a = some { cls := .type "list", data := .seq vs.toArray }) (hr : Room k callerA)
    (F : ∀ base : Heap, K.In base → base.Ns mainGlobals mg → FnG P w K mg base k fa fd [x] sp) (hbind : ∀ (s : Shared) (u : Value), BindsTo s fd ⟨[u], []⟩ [(x, u)])
    (H : Hp) (hO : Only H) (hq : sp [.ref a] H (fun v _ => v = .bl true) fun _ _ _ => False) (hok : HOk P w H s₁.heap) (hA : ∀ b u, H b = some u → b = a) (hK : ∀ u, H a = some u → K.lookup a = none) :
    codeAny (model P w) callerA (.call (.ref fa) ⟨[.ref a], []⟩) (Fine s₁) s₁ := by
  have dictNo : ∀ {b : Addr} {o : Obj} {es : Array DictEntry} {ep : Nat}, s₁.heap.get? b = some o → o.data = .dict es ep → H b = none := by
    intro b o es ep e d
    cases q : H b with
    | none => rfl
    | some u =>
      obtain rfl := hA b u q
      rw [ha] at e
      cases e
      cases d
  have hideNs : ∀ {b : Addr} {m : Str → Option Value}, s₁.heap.Ns b m → (hidT s₁.heap H).Ns b m := by
    rintro b m ⟨o, es, ep, e, d, r⟩
    exact ⟨o, es, ep, hidT_get e (dictNo e d), d, r⟩
  have hKb : K.In (hidT s₁.heap H) := by
    intro b o e
    apply hidT_get (KX b o e)
    cases q : H b with
    | none => rfl
    | some u =>
      obtain rfl := hA b u q
      rw [hK u q] at e
      cases e
  have hM : Mod K mg (hidT s₁.heap H) := by
    obtain ⟨mc, h1, h2⟩ := hlim
    exact ⟨hKb, hideNs hns, ⟨mb, hideNs hb, hbb⟩, ⟨mc, hideNs h1, h2⟩⟩
  have none_ : ∀ b ∈ frs [], H b = none := by
    intro b hb
    cases (show b ∈ ([] : List Addr) from hb)
  have e0 : Env0 P w K mg (hidT s₁.heap H) callerA [] s₁ H := ⟨rfl, hM, fun b o e => of_hidT e, Nat.le_of_eq (hidT_size _ _), trivial, none_, hok, .of_eq hg⟩
  apply codeAny_mono ((F _ hKb (hideNs hns)).run callerA [] s₁ H ⟨[.ref a], []⟩ [.ref a] [.ref a] _ _ rfl hr e0 (hbind s₁ (.ref a)) (.cons rfl .nil) hq)
  intro r s' h
  cases r with
  | error e => exact h.elim
  | ok fl =>
    cases fl with
    | next => exact h.elim
    | brk => exact h.elim
    | cont => exact h.elim
    | ret u =>
      obtain ⟨v, H', os, bare, un, hok', r', rfl⟩ := h
      have eu : u = Value.bool true := r'
      subst eu
      refine ⟨rfl, OldK.of_keep ?_, os, bare⟩
      intro b o e
      cases q : H b with
      | none => exact un.keep b o e q (by intro z; cases (show b ∈ ([] : List Addr) from z)) (by intro z; cases z)
      | some u =>
        (rcases hO b with z | ⟨ob, xs, z⟩)
        · rw [q] at z; cases z
        · have e1 := (hok b _ z).1
          have e2 := (hok' b _ (un.frzs b ob _ z)).1
          rw [e] at e1
          cases e1
          exact e2
theorem law_G (KX : K.In s₁.heap) (hns : s₁.heap.Ns mainGlobals mg) (hb : s₁.heap.Ns builtinsNs mb) (hbb : ∀ x : Str, x ≠ "__name__" → mb x = bootBuiltins x) (hlim : s₁.heap.NoLimit) (hg : s₁.gens = #[])
    (ha : s₁.heap.get? a = some { cls := .type "list", data := .seq vs.toArray })
    (hi : IntsAre vs ns) (hl : ns.length ≤ sizeLine) (hr : Room k callerA)
    (F : ∀ base : Heap, K.In base → base.Ns mainGlobals mg → FnG P w K mg base k fa fd [x] sp) (hbind : ∀ (s : Shared) (u : Value), BindsTo s fd ⟨[u], []⟩ [(x, u)])
    (hsp : ∀ H : Hp, Only H → SqL K H a (ns.map V.int) → sp [.ref a] H (fun v _ => v = .bl true) fun _ _ _ => False) :
    codeAny (model P w) callerA (.call (.ref fa) ⟨[.ref a], []⟩) (Fine s₁) s₁ := by
  have rv := vals_ints hi
  have lenV := hi.length
  cases hk : K.lookup a with
  | some o =>
    have e := KX a o hk
    rw [ha] at e
    cases e
    have hS : SqL K (fun _ => none) a (ns.map V.int) := .inr ⟨_, vs.toArray, _, hk, rfl, rfl, rfl, by rw [List.size_toArray, lenV]; exact hl, by simpa using rv⟩
    have hO : Only (fun _ => none) := fun _ => .inl rfl
    exact core_G KX hns hb hbb hlim hg ha hr F hbind _ hO (hsp _ hO hS) (fun b u z => by cases (show (none : Option HO) = some u from z)) (fun b u z => by cases (show (none : Option HO) = some u from z)) fun u z => by cases (show (none : Option HO) = some u from z)
  | none =>
    let H : Hp := fun b => if b = a then some (.frz { cls := .type "list", data := .seq vs.toArray } (.lst (ns.map V.int))) else none
    have at_a : H a = some (.frz { cls := .type "list", data := .seq vs.toArray } (.lst (ns.map V.int))) := if_pos rfl
    have off : ∀ b u, H b = some u → b = a := by
      intro b u z
      by_cases e : b = a
      · exact e
      · rw [show H b = none from if_neg e] at z; cases z
    have hO : Only H := by
      intro b
      by_cases e : b = a
      · exact .inr ⟨_, _, by rw [e]; exact at_a⟩
      · exact .inl (if_neg e)
    have hok : HOk P w H s₁.heap := by
      intro b u z
      obtain rfl := off b u z
      rw [at_a] at z
      cases z
      (exact ⟨ha, by rw [List.length_map]; exact hl, vs, _, rv, ha⟩)
    exact core_G KX hns hb hbb hlim hg ha hr F hbind H hO (hsp H hO (.inl (.inr ⟨_, at_a⟩))) hok off fun _ _ => hk
end
theorem walk_G {l : PySem.W.OpenLaw} {n k : Nat} {q : Program} {loose : List Str} {XP : (Str → Option Value) → Heap → Prop} {YP : World → Heap → Prop} {d : DefRec} {K : Params → PySem.W.Frag} {sp : PySem.W.Frag → Sp} {x : Str}
    (hn : l.most = some n) (hn2 : n ≤ sizeLine)
    (hdf : d.params.defaults = []) (hr : Room k callerA)
    (hY : ∀ (w : World) (hp : Heap), YP w hp → (K w.params).In hp)
    (F : ∀ (w : World) (mg : Str → Option Value) (fa : Addr) (hp : Heap), (K w.params).In hp → hp.Ns mainGlobals mg → mg d.name = some (.ref fa) →
      ∃ fd : FuncData, (∀ (s : Shared) (u : Value), BindsTo s fd ⟨[u], []⟩ [(x, u)]) ∧ ∀ base : Heap, (K w.params).In base → base.Ns mainGlobals mg → FnG l.prog w (K w.params) mg base k fa fd [x] (sp (K w.params)))
    (hsp : ∀ (K : PySem.W.Frag) (H : Hp) (a : Addr) (ns : List Int), ns.length ≤ n → Only H → SqL K H a (ns.map V.int) → sp K [.ref a] H (fun v _ => v = .bl true) fun _ _ _ => False) :
    PySem.W.WalkO q loose XP YP l.row.toRowW d []
      (fun f us => PySem.call f us) := by
  apply Att.attach_call hn hdf
  intro w s₀ s₁ mg mb fa o pm cd doc a vs ns G Y ho hd hcd hmg hobj hints hlen hg
  obtain ⟨fd, hb, hF⟩ := F w mg fa _ (hY w _ Y) G.T.g hmg
  exact law_G (hY w _ Y) G.T.g G.T.b G.T.builtins G.T.nolimit hg hobj hints (Nat.le_trans hlen hn2) hr hF hb fun H hO hS => hsp _ H a ns hlen hO hS
end V2


/-! ## what is data, dicts too, and its text -/
namespace PySem
mutual
inductive ReadsS (h : Heap) : Value → PyData → Prop
  | none : ReadsS h .none .none
  | bool (b : Bool) : ReadsS h (.bool b) (.bool b)
  | int (i : Int) (t : Tok) : ReadsS h (.int i t) (.int i)
  | str (x : Str) (t : Tok) : ReadsS h (.str x t) (.str x)
  | list {a : Addr} {o : Obj} {vs : Array Value} {n : Nat} {xs : List PyData} : h.get? a = some o → o.cls = .type "list" → o.data = .seq vs n → ReadsAllS h vs.toList xs → ReadsS h (.ref a) (.list xs)
  | tuple {a : Addr} {o : Obj} {vs : Array Value} {n : Nat} {xs : List PyData} : h.get? a = some o → o.cls = .type "tuple" → o.data = .seq vs n → ReadsAllS h vs.toList xs → ReadsS h (.ref a) (.tuple xs)
  | dict {a : Addr} {o : Obj} {es : Array DictEntry} {n : Nat} {kvs : List (PyData × PyData)} : h.get? a = some o → o.cls = .type "dict" → o.data = .dict es n → (a == sysModules) = false → ReadsAllS h (es.toList.map (·.key)) (kvs.map (·.1)) →
      ReadsAllS h (es.toList.map (·.val)) (kvs.map (·.2)) → ReadsS h (.ref a) (.dict kvs)
inductive ReadsAllS (h : Heap) : List Value → List PyData → Prop
  | nil : ReadsAllS h [] []
  | cons {v : Value} {vs : List Value} {d : PyData} {ds : List PyData} : ReadsS h v d → ReadsAllS h vs ds → ReadsAllS h (v :: vs) (d :: ds)
end
section
variable {h : Heap}
mutual
theorem ReadsS.reads : ∀ {v : Value} {d : PyData}, ReadsS h v d → ∃ as, Reads h v d as
  | _, _, .none => ⟨_, .none⟩
  | _, _, .bool b => ⟨_, .bool b⟩
  | _, _, .int i t => ⟨_, .int i t⟩
  | _, _, .str x t => ⟨_, .str x t⟩
  | _, _, .list h1 h2 h3 h4 => let ⟨_, r⟩ := ReadsAllS.reads h4; ⟨_, .list h1 h2 h3 r⟩
  | _, _, .tuple h1 h2 h3 h4 => let ⟨_, r⟩ := ReadsAllS.reads h4; ⟨_, .tuple h1 h2 h3 r⟩
  | _, _, .dict h1 h2 h3 _ h4 h5 => let ⟨_, r⟩ := ReadsAllS.reads h4; let ⟨_, q⟩ := ReadsAllS.reads h5; ⟨_, .dict h1 h2 h3 r q⟩
theorem ReadsAllS.reads : ∀ {vs : List Value} {ds : List PyData}, ReadsAllS h vs ds → ∃ as, ReadsAll h vs ds as
  | _, _, .nil => ⟨_, .nil⟩
  | _, _, .cons r q => let ⟨_, a⟩ := ReadsS.reads r; let ⟨_, b⟩ := ReadsAllS.reads q; ⟨_, .cons a b⟩
end
end
section
variable {prog : Program} {w : World} {h₀ : Heap}
mutual
theorem ReprK.of_readsS : ∀ {v : Value} {d : PyData}, ReadsS h₀ v d → d.showable = true → d.shown.length ≤ sizeLine → ∃ bs, ReadAtMost h₀ d.depth bs ∧ ReprK prog w bs h₀ d.depth v d.shown
  | _, _, .none, _, _ => ⟨[], (fun _ h => nomatch h), by simp only [PyData.shown]; exact .of_is ReprIs.none _ _ _⟩
  | _, _, .bool b, _, _ => ⟨[], (fun _ h => nomatch h), by simp only [PyData.shown]; exact .of_is (ReprIs.bool b) _ _ _⟩
  | _, _, .int i t, hs, _ => ⟨[], (fun _ h => nomatch h), by simp only [PyData.shown]; exact .of_is (ReprIs.int t (by simpa [PyData.showable] using hs)) _ _ _⟩
  | _, _, .str x t, _, hz => ⟨[], (fun _ h => nomatch h), by simp only [PyData.shown]; exact .of_is (ReprIs.str x t (by simpa only [PyData.shown] using hz)) _ _ _⟩
  | _, _, .list (a := a) (vs := vs) (xs := xs) h1 h2 h3 h4, hs, hz => by
    have hz' : (listText (PyData.shownAll xs)).length ≤ sizeLine := by simpa only [PyData.shown] using hz
    obtain ⟨bs, hb, hk⟩ := ReprAllK.of_readsAllS h4 (by simpa [PyData.showable] using hs) (fun t ht => Nat.le_trans (listText_mem_le ht) hz')
    obtain ⟨_, r4⟩ := h4.reads
    have r : Reads h₀ (.ref a) (.list xs) _ := .list h1 h2 h3 r4
    have hna : a ∉ bs := not_mem_of_deeper r (by simp only [PyData.depth]; omega) hb
    refine ⟨a :: bs, ReadAtMost.cons r (by simp only [PyData.depth]; omega) hb, ?_⟩
    simp only [PyData.depth, PyData.shown]
    obtain ⟨l⟩ := vs
    cases l with
    | nil =>
      have h4' : ReadsAllS h₀ [] xs := h4
      cases h4'
      simp only [PyData.shownAll, listText_nil]
      exact ReprK.listEmpty h1 h2 h3
    | cons x l => exact ReprK.list h1 h2 h3 hna (by simpa using hk.length_eq) (fun i y e => hk.item i y (by simpa using e))
  | _, _, .tuple (a := a) (xs := xs) h1 h2 h3 h4, hs, hz => by
    have hz' : (tupleText (PyData.shownAll xs)).length ≤ sizeLine := by simpa only [PyData.shown] using hz
    obtain ⟨bs, hb, hk⟩ := ReprAllK.of_readsAllS h4 (by simpa [PyData.showable] using hs) (fun t ht => Nat.le_trans (tupleText_mem_le ht) hz')
    obtain ⟨_, r4⟩ := h4.reads
    have r : Reads h₀ (.ref a) (.tuple xs) _ := .tuple h1 h2 h3 r4
    have hna : a ∉ bs := not_mem_of_deeper r (by simp only [PyData.depth]; omega) hb
    refine ⟨a :: bs, ReadAtMost.cons r (by simp only [PyData.depth]; omega) hb, ?_⟩
    simp only [PyData.depth, PyData.shown]
    exact ReprK.tuple h1 h2 h3 hna hk
  | _, _, .dict (a := a) (es := es) (kvs := kvs) h1 h2 h3 hsys h4 h5, hs, hz => by
    have hz' : (dictText (PyData.shownKv kvs)).length ≤ sizeLine := by simpa only [PyData.shown] using hz
    obtain ⟨hs1, hs2⟩ := PyData.showableKv_split kvs (by simpa [PyData.showable] using hs)
    obtain ⟨b1, hb1, k1⟩ := ReprAllK.of_readsAllS h4 hs1 (fun t ht => let ⟨p, hp, hl⟩ := PyData.shownKv_key_le kvs t ht; Nat.le_trans hl (Nat.le_trans (dictText_mem_le hp) hz'))
    obtain ⟨b2, hb2, k2⟩ := ReprAllK.of_readsAllS h5 hs2 (fun t ht => let ⟨p, hp, hl⟩ := PyData.shownKv_val_le kvs t ht; Nat.le_trans hl (Nat.le_trans (dictText_mem_le hp) hz'))
    obtain ⟨_, r4⟩ := h4.reads
    obtain ⟨_, r5⟩ := h5.reads
    have r : Reads h₀ (.ref a) (.dict kvs) _ := .dict h1 h2 h3 r4 r5
    have hb : ReadAtMost h₀ (PyData.depthKv kvs) (b1 ++ b2) := (hb1.mono (PyData.depthAll_keys_le kvs)).append (hb2.mono (PyData.depthAll_vals_le kvs))
    have hna : a ∉ b1 ++ b2 := not_mem_of_deeper r (by simp only [PyData.depth]; omega) hb
    refine ⟨a :: (b1 ++ b2), ReadAtMost.cons r (by simp only [PyData.depth]; omega) hb, ?_⟩
    simp only [PyData.depth, PyData.shown, PyData.shownKv_eq]
    exact ReprK.dict h1 h2 h3 hsys hna (ReprEntriesK.of_two es.toList _ _
      (k1.more_le (fun b hb => List.mem_append_left _ hb) (PyData.depthAll_keys_le kvs)) (k2.more_le (fun b hb => List.mem_append_right _ hb) (PyData.depthAll_vals_le kvs)))
theorem ReprAllK.of_readsAllS : ∀ {vs : List Value} {ds : List PyData}, ReadsAllS h₀ vs ds → PyData.showableAll ds = true → (∀ t ∈ PyData.shownAll ds, t.length ≤ sizeLine) →
    ∃ bs, ReadAtMost h₀ (PyData.depthAll ds) bs ∧ ReprAllK prog w bs h₀ (PyData.depthAll ds) vs (PyData.shownAll ds)
  | _, _, .nil, _, _ => ⟨[], (fun _ h => nomatch h), by simp only [PyData.shownAll]; exact .nil⟩
  | _, _, .cons (d := d) (ds := ds) r rs, hs, hz => by
    have hs' : d.showable = true ∧ PyData.showableAll ds = true := by simpa [PyData.showableAll] using hs
    obtain ⟨b1, hb1, k1⟩ := ReprK.of_readsS r hs'.1 (hz _ (by simp only [PyData.shownAll]; exact List.mem_cons_self ..))
    obtain ⟨b2, hb2, k2⟩ := ReprAllK.of_readsAllS rs hs'.2 (fun t ht => hz t (by simp only [PyData.shownAll]; exact List.mem_cons_of_mem _ ht))
    refine ⟨b1 ++ b2, ?_, ?_⟩
    · intro b hm
      simp only [PyData.depthAll]
      rcases List.mem_append.mp hm with hm | hm
      · obtain ⟨d', as', r', hd'⟩ := hb1 b hm
        exact ⟨d', as', r', Nat.le_trans hd' (Nat.le_max_left _ _)⟩
      · obtain ⟨d', as', r', hd'⟩ := hb2 b hm
        exact ⟨d', as', r', Nat.le_trans hd' (Nat.le_max_right _ _)⟩
    · simp only [PyData.depthAll, PyData.shownAll]
      exact .cons ((k1.more fun b hb => List.mem_append_left _ hb).level_le (Nat.le_max_left _ _)) (k2.more_le (fun b hb => List.mem_append_right _ hb) (Nat.le_max_right _ _))
end
theorem showsBy_of_readsS {a : Addr} {d : PyData} (r : ReadsS h₀ (.ref a) d) (hs : d.showable = true) (hsz : d.shown.length ≤ sizeLine) : ∃ T idr, ShowsBy prog w h₀ a d T idr := by
  cases r with
  | list h1 h2 h3 h4 =>
    rename_i o vs n xs
    have hz' : (listText (PyData.shownAll xs)).length ≤ sizeLine := by simpa only [PyData.shown] using hsz
    obtain ⟨bs, hb, hk⟩ := ReprAllK.of_readsAllS (prog := prog) (w := w) h4 (by simpa [PyData.showable] using hs) (fun t ht => Nat.le_trans (listText_mem_le ht) hz')
    obtain ⟨_, r4⟩ := h4.reads
    have hna : a ∉ bs := not_mem_of_deeper (.list h1 h2 h3 r4) (by simp only [PyData.depth]; omega) hb
    refine ⟨"list", "list.__repr__", F.slot_list_repr.toG, F.slot_list_str, F.slot_list_format, fun s hk0 => ⟨o, hk0 _ _ h1, h2⟩, fun A E s Q hg hu hk0 hQ => ?_⟩
    simp only [PyData.depth] at hu
    simp only [PyData.shown] at hQ
    obtain ⟨l⟩ := vs
    cases l with
    | nil =>
      have h4' : ReadsAllS h₀ [] xs := h4
      cases h4'
      simp only [PyData.shownAll, listText_nil] at hQ
      exact call_list_repr_empty ⟨o, hk0 _ _ h1, h2⟩ (hk0 _ _ h1) h3 (hQ s.heap _ _ fun _ _ e => e)
    | cons x l =>
      exact call_list_reprK h1 h2 h3 hna (by simpa using hk.length_eq) (fun i y e => hk.item i y (by simpa using e)) hg (fun b _ => Clear.nil b) hu hk0 hQ hz'
  | tuple h1 h2 h3 h4 =>
    rename_i o vs n xs
    have hz' : (tupleText (PyData.shownAll xs)).length ≤ sizeLine := by simpa only [PyData.shown] using hsz
    obtain ⟨bs, hb, hk⟩ := ReprAllK.of_readsAllS (prog := prog) (w := w) h4 (by simpa [PyData.showable] using hs) (fun t ht => Nat.le_trans (tupleText_mem_le ht) hz')
    obtain ⟨_, r4⟩ := h4.reads
    have hna : a ∉ bs := not_mem_of_deeper (.tuple h1 h2 h3 r4) (by simp only [PyData.depth]; omega) hb
    refine ⟨"tuple", "tuple.__repr__", F.slot_tuple_repr, F.slot_tuple_str, F.slot_tuple_format, fun s hk0 => ⟨o, hk0 _ _ h1, h2⟩, fun A E s Q hg hu hk0 hQ => ?_⟩
    simp only [PyData.depth] at hu
    simp only [PyData.shown] at hQ
    exact call_tuple_reprK h1 h2 h3 hna hk hg (fun b _ => Clear.nil b) hu hk0 hQ hz'
  | dict h1 h2 h3 hsys h4 h5 =>
    rename_i o es n kvs
    have hz' : (dictText (PyData.shownKv kvs)).length ≤ sizeLine := by simpa only [PyData.shown] using hsz
    obtain ⟨hs1, hs2⟩ := PyData.showableKv_split kvs (by simpa [PyData.showable] using hs)
    obtain ⟨b1, hb1, k1⟩ := ReprAllK.of_readsAllS (prog := prog) (w := w) h4 hs1 (fun t ht => let ⟨p, hp, hl⟩ := PyData.shownKv_key_le kvs t ht; Nat.le_trans hl (Nat.le_trans (dictText_mem_le hp) hz'))
    obtain ⟨b2, hb2, k2⟩ := ReprAllK.of_readsAllS (prog := prog) (w := w) h5 hs2 (fun t ht => let ⟨p, hp, hl⟩ := PyData.shownKv_val_le kvs t ht; Nat.le_trans hl (Nat.le_trans (dictText_mem_le hp) hz'))
    obtain ⟨_, r4⟩ := h4.reads
    obtain ⟨_, r5⟩ := h5.reads
    have hb : ReadAtMost h₀ (PyData.depthKv kvs) (b1 ++ b2) := (hb1.mono (PyData.depthAll_keys_le kvs)).append (hb2.mono (PyData.depthAll_vals_le kvs))
    have hna : a ∉ b1 ++ b2 := not_mem_of_deeper (.dict h1 h2 h3 r4 r5) (by simp only [PyData.depth]; omega) hb
    refine ⟨"dict", "dict.__repr__", F.slot_dict_repr, F.slot_dict_str, F.slot_dict_format, fun s hk0 => ⟨o, hk0 _ _ h1, h2⟩, fun A E s Q hg hu hk0 hQ => ?_⟩
    simp only [PyData.depth] at hu
    simp only [PyData.shown, PyData.shownKv_eq] at hQ
    exact call_dict_reprK h1 h2 h3 hsys hna (ReprEntriesK.of_two es.toList _ _
      (k1.more_le (fun b hb => List.mem_append_left _ hb) (PyData.depthAll_keys_le kvs)) (k2.more_le (fun b hb => List.mem_append_right _ hb) (PyData.depthAll_vals_le kvs))) hg (fun b _ => Clear.nil b) hu hk0 hQ (by rw [← PyData.shownKv_eq]; exact hz')
theorem repr_of_readsS {a : Addr} {d : PyData} {A : Around} {E : Value → Shared → Prop} {s : Shared} {Q : Value → Shared → Prop} (r : ReadsS h₀ (.ref a) d) (hs : d.showable = true) (hg : A.guards = some []) (hu : A.units + (d.depth + 1) < cLine) (hk0 : ∀ b o, h₀.get? b = some o → s.heap.get? b = some o)
    (hQ : ∀ h' u tk, (∀ b o, s.heap.get? b = some o → h'.get? b = some o) → Q (.str d.shown u) { s with heap := h', toks := tk })
    (hsz : d.shown.length ≤ sizeLine) : wpAny (model prog w) A (call (.builtin "repr") [.ref a]) Q E s := by
  obtain ⟨T, idr, S⟩ := showsBy_of_readsS (prog := prog) (w := w) r hs hsz
  exact call_repr_slot (by omega) (S.typeIs s hk0) S.slotRepr (S.call A.in1 E s _ hg (by show A.units + 1 + d.depth < cLine; omega) hk0 fun h' u tk hk => ⟨_, _, rfl, hQ h' u tk hk⟩)
end
end PySem
namespace V2
open PySem L2
open PySem.Spec PyProof.Rows
mutual
/-- v is the data d, where the abstract heap is H -/
inductive Dq (H : Hp) : V → PyData → Prop
  | non : Dq H .non .none
  | bl (b : Bool) : Dq H (.bl b) (.bool b)
  | int (i : Int) : Dq H (.int i) (.int i)
  | str (x : Str) : Dq H (.str x) (.str x)
  | lst {a : Addr} {xs : List V} {ds : List PyData} : H a = some (.lst xs) → DqAll H xs ds → Dq H (.ref a) (.list ds)
  | tup {a : Addr} {xs : List V} {ds : List PyData} : H a = some (.tup xs) → DqAll H xs ds → Dq H (.ref a) (.tuple ds)
  | dct {a : Addr} {x : Str} {w : V} {d : PyData} : H a = some (.dK [(.inr x, w)]) → Dq H w d → Dq H (.ref a) (.dict [(.str x, d)])
inductive DqAll (H : Hp) : List V → List PyData → Prop
  | nil : DqAll H [] []
  | cons {v : V} {vs : List V} {d : PyData} {ds : List PyData} : Dq H v d → DqAll H vs ds → DqAll H (v :: vs) (d :: ds)
end
mutual
theorem Dq.go {H H' : Hp} : ∀ {d : PyData} {v : V}, Dq H v d → Evl.Ex H H' → Dq H' v d
  | _, _, .non, _ => .non
  | _, _, .bl b, _ => .bl b
  | _, _, .int i, _ => .int i
  | _, _, .str x, _ => .str x
  | _, _, .lst h r, e => .lst (e _ _ h) (DqAll.go r e)
  | _, _, .tup h r, e => .tup (e _ _ h) (DqAll.go r e)
  | _, _, .dct h r, e => .dct (e _ _ h) (Dq.go r e)
theorem DqAll.go {H H' : Hp} : ∀ {ds : List PyData} {vs : List V}, DqAll H vs ds → Evl.Ex H H' → DqAll H' vs ds
  | _, _, .nil, _ => .nil
  | _, _, .cons a b, e => .cons (Dq.go a e) (DqAll.go b e)
end
section
variable {X : Cx} {pins : List (Addr × Obj)} {σ : L2.St} {H : Hp} {s : Shared}
mutual
theorem Dq.reads (I : Inv X pins σ H s) : ∀ {d : PyData} {v : V}, Dq H v d → ∀ {u : Value}, RelV v u → ReadsS s.heap u d
  | _, _, .non, _, r => by
    cases r
    exact .none
  | _, _, .bl b, _, r => by
    cases r
    exact .bool b
  | _, _, .int i, _, r => by
    obtain ⟨t, rfl⟩ := r
    exact .int i t
  | _, _, .str x, _, r => by
    obtain ⟨t, rfl⟩ := r
    exact .str x t
  | _, _, .lst h q, _, r => by
    cases r
    obtain ⟨_, its, n, rv, ho⟩ := I.hok _ _ h
    exact .list ho rfl rfl (by simpa using DqAll.reads I q rv)
  | _, _, .tup h q, _, r => by
    cases r
    obtain ⟨_, its, rv, o, ho, hc, n, hd⟩ := I.hok _ _ h
    exact .tuple ho hc hd (by simpa using DqAll.reads I q rv)
  | _, _, .dct h q, _, r => by
    cases r
    obtain ⟨_, hsys, vs, kv, o, es, ep, ho, ⟨hc, _, _⟩, hd, _, hp, _⟩ := dk_of I.hok h
    obtain ⟨p1, p2, rfl, e1, e2⟩ : ∃ p1 p2, vs = [(p1, p2)] ∧ Sum.inr _ = p1 ∧ RelV _ p2 := by
      cases kv with
      | cons r1 r2 =>
        cases r2
        exact ⟨_, _, rfl, r1.1, r1.2⟩
    · subst e1
      refine .dict ho hc hd hsys ?_ ?_
      · generalize es.toList = l at hp
        cases hp with
        | cons a1 a2 a3 =>
          cases a3
          have z1 := a1
          rw [mixKind_is] at z1
          rcases keyIs_shape z1 with ⟨_, _, z, _⟩ | ⟨x', t, z, ht⟩
          · cases z
          cases z
          rw [List.map_cons, List.map_nil, ht]
          exact .cons (.str _ _) .nil
      · generalize es.toList = l at hp
        cases hp with
        | cons a1 a2 a3 =>
          cases a3
          rw [List.map_cons, List.map_nil, a2]
          exact .cons (Dq.reads I q e2) .nil
theorem DqAll.reads (I : Inv X pins σ H s) : ∀ {ds : List PyData} {vs : List V}, DqAll H vs ds → ∀ {us : List Value}, Vals vs us → ReadsAllS s.heap us ds
  | _, _, .nil, _, r => by
    cases r
    exact .nil
  | _, _, .cons a b, _, r => by
    cases r with
    | cons r1 r2 => exact .cons (Dq.reads I a r1) (DqAll.reads I b r2)
end
end
/-- repr of what is data -/
def rShowS : List V → Hp → VK → Prop := fun xs H Q => ∃ (v : V) (d : PyData), xs = [v] ∧ Dq H v d ∧ d.showable = true ∧ d.depth ≤ 60 ∧ d.shown.length ≤ sizeLine ∧ Q (.str d.shown) H
theorem call_showS {X : Cx} (hgd : X.A.guards = some []) (hu : X.A.units + 64 < cLine) : CallR X (.builtin "repr") rShowS := by
  intro pins s σ H xs us Q I r h
  obtain ⟨v, d, rfl, hd, hs, hp, hz, q⟩ := h
  obtain ⟨u, rfl, ru⟩ : ∃ u, us = [u] ∧ RelV v u := by
    cases r with
    | cons ra rb =>
      cases rb
      exact ⟨_, rfl, ra⟩
  cases hd with
  | non =>
    cases ru
    exact PySem.P.repr_of_none ⟨.str _, H, I.tok _, ⟨_, rfl⟩, by simpa only [PyData.shown] using q⟩
  | bl b =>
    cases ru
    exact PySem.P.repr_of_bool ⟨.str _, H, I.tok _, ⟨_, rfl⟩, by simpa only [PyData.shown] using q⟩
  | int i =>
    obtain ⟨t, rfl⟩ := ru
    exact PySem.P.repr_of_int (by simpa [PyData.showable] using hs) ⟨.str _, H, I.tok _, ⟨_, rfl⟩, by simpa only [PyData.shown] using q⟩
  | str x =>
    obtain ⟨t, rfl⟩ := ru
    exact PySem.P.repr_of_str ⟨.str _, H, I.tok _, ⟨_, rfl⟩, by simpa only [PyData.shown] using q⟩ (by simpa only [PyData.shown] using hz)
  | lst h1 h2 =>
    have rd := Dq.reads I (.lst h1 h2) ru
    cases ru
    exact repr_of_readsS rd hs hgd (by omega) (fun _ _ e => e) (fun h' u tk k => ⟨.str _, H, I.kept (t' := tk) k, ⟨u, rfl⟩, q⟩) hz
  | tup h1 h2 =>
    have rd := Dq.reads I (.tup h1 h2) ru
    cases ru
    exact repr_of_readsS rd hs hgd (by omega) (fun _ _ e => e) (fun h' u tk k => ⟨.str _, H, I.kept (t' := tk) k, ⟨u, rfl⟩, q⟩) hz
  | dct h1 h2 =>
    have rd := Dq.reads I (.dct h1 h2) ru
    cases ru
    exact repr_of_readsS rd hs hgd (by omega) (fun _ _ e => e) (fun h' u tk k => ⟨.str _, H, I.kept (t' := tk) k, ⟨u, rfl⟩, q⟩) hz
end V2


namespace V2
open PySem L2
open PySem.Spec PyProof.Rows
def Cal (P : Program) (w : World) (K : PySem.W.Frag) (mg : Str → Option Value) (base : Heap) (k : Nat) (x : Str) (ps : List Str) (sp : Sp) : Prop :=
  ∃ (f : Addr) (fd : FuncData), FnOk P w K mg base CX0 k f fd ps sp ∧ mg x = some (.ref f) ∧ PySem.W.keepIn K (.ref f) = true ∧ Binds K fd ps []
theorem pe_c {X : Cx} {k : Nat} {x : Str} {ps : List Str} {sp : Sp} {e : Expr} {es : List Expr} {t : TA} {p pos : Pos} (c : Cal X.prog X.w X.K X.mg X.base k x ps sp) (hr : Room k X.A) (ha : PA X (e :: es) t) (hg : Gl X x := by rfl)
    (he : starEach (e :: es) X.env = (false, eval e X.env) :: starEach es X.env := by rfl)
    (hpl : (backTo pos (starEach es X.env)).any (fun b => b.1) = false := by rfl) (hdb : (x == ("__debug__" : Str)) = false := by decide) :
    PE X (.Call (.Name x p) (e :: es) [] pos) (tCall sp [] E0 t) := by
  obtain ⟨f, fd, F, hm, hk, hb⟩ := c
  exact pe_call F hr hg hm hk hb .nil pass0 ha hdb he hpl
def iV (ns : List Int) : List V := ns.map V.int
theorem iV_len (ns : List Int) : (iV ns).length = ns.length := List.length_map ..
theorem iV_at {ns : List Int} {j : Nat} {n : Int} (h : ns[j]? = some n) : (iV ns)[j]? = some (.int n) := by
  unfold iV; rw [List.getElem?_map, h]; rfl
/-- the script, the rank: a new sack -/
def spSack (K : PySem.W.Frag) : Sp := fun vs H Q _ => ∃ (a : Addr) (ns : List Int) (r : Nat), vs = [.ref a, .int (r : Int)] ∧ SqL K H a (iV ns) ∧ ns.length ≤ 63 ∧ r ≤ 63 ∧
  ∀ (q : Addr) (H' : Hp), H q = none → Evl.Ex H H' → Sk H' q 0 → Q (.ref q) H'
section
variable {base : Heap} {mg : Str → Option Value} {K : PySem.W.Frag} {w : World} {P : Program}
theorem ok_sack {f : Addr} {fd : FuncData} (F : Fun K "_law_pv_sack" "_law_pv_sack" s_l_sack f fd) (T : T0 mg) : FnOk P w K mg base CX0 1 f fd p_l_sack (spSack K) := by
  refine F.ok sc_l_sack (fun vs H Q E h => ?_) (fun cdv A outer s H vs Q E hr h => ?_)
  · obtain ⟨a, ns, r, rfl, _⟩ := h
    rfl
  · obtain ⟨a, ns, r, rfl, hS, hl, hr63, k⟩ := h
    have nd := sc_l_sack.nd
    refine ⟨_, pss_cons (ps_set (i := 2) nd rfl (Or.inl rfl) (pe_ifExp (pt_cmpR op_lt (pv 1) (pe_callB call_len_seq (by rfl) T.len PySem.boot_len (pa_cons (pv 0) pa_nil)) (nomark _)) (pe_ix ix_list (pv 0) (pv 1) (fun _ _ => rfl)) pe_int))
      (pss_one (ps_ret (pe_lst (pa_cons (pe_callB (call_max2 rfl) (by rfl) T.max (by decide +kernel) (pa_cons pe_int (pa_cons (pe_op op_sub (pe_callB call_abs (by rfl) T.abs (by decide +kernel) (pa_cons (pv 2) pa_nil)) (pe_op op_powX pe_int pe_int)) pa_nil)))
        (pa_cons (pe_op op_mod (pe_callTy call_int1 (by rfl) T.int (by decide +kernel) (pa_cons (pe_op op_add (pe_op op_add (pe_op op_mul (pv 2) pe_int) (pe_op op_mul (pv 1) pe_int)) pe_int) pa_nil)) (pe_op op_add (pe_op op_powX pe_int pe_int) pe_int))
        (pa_cons pe_int pa_nil)))))), ?_⟩
    have w18 : CPowX 10 18 := pow_ok (k := 4) (n := 18) (by decide) (by decide)
    have w24 : CPowX 10 24 := pow_ok (k := 4) (n := 24) (by decide) (by decide)
    have e24 : ((10 : Int) ^ (24 : Int).toNat + 7) = 1000000000000000000000007 := by decide
    have g24 : (0 : Int) < 10 ^ (24 : Int).toNat + 7 := by rw [e24]; decide
    have p80 : (2 : Int) ^ 80 = 1208925819614629174706176 := by decide
    (refine ⟨_, rfl, _, rfl, a, _, rfl, .inl hS, _, _, rfl, rfl, _, rfl, ?_⟩)
    refine ite2 (fun q => ?_) (fun _ => ?_)
    · have q2 : r < ns.length := by
        have q1 := of_decide_eq_true q
        rw [iV_len] at q1
        omega
      refine ⟨_, rfl, _, rfl, a, _, _, _, rfl, rfl, hS, atI_nat (iV_at (List.getElem?_eq_getElem q2)), ?_⟩
      refine ⟨_, rfl, _, rfl, 10, 18, rfl, rfl, w18, _, _, rfl, rfl, _, _, rfl, ?_⟩
      refine ⟨_, rfl, _, 69857, rfl, rfl, .inr ⟨by decide, by decide⟩, _, rfl, _, 9176291, rfl, rfl, .inr ⟨by decide, by decide⟩, _, _, rfl, rfl, _, _, rfl, rfl, .inl ⟨_, rfl, ?_⟩⟩
      refine ⟨10, 24, rfl, rfl, w24, _, 7, rfl, rfl, _, _, rfl, rfl, g24, ?_⟩
      refine ⟨by show 3 ≤ sizeLine; decide, fun q hq => ?_⟩
      refine k q _ hq (Evl.Ex.new hq) ⟨_, _, _, upd_same, ?_, Int.emod_nonneg _ (by omega), Int.lt_trans (Int.emod_lt_of_pos _ g24) (by rw [e24, p80]; decide), Int.le_refl _, Int.le_refl _⟩
      split <;> omega
    · refine ⟨_, rfl, _, rfl, 10, 18, rfl, rfl, w18, _, _, rfl, rfl, _, _, rfl, ?_⟩
      refine ⟨_, rfl, _, 69857, rfl, rfl, .inr ⟨by decide, by decide⟩, _, rfl, _, 9176291, rfl, rfl, .inr ⟨by decide, by decide⟩, _, _, rfl, rfl, _, _, rfl, rfl, .inl ⟨_, rfl, ?_⟩⟩
      refine ⟨10, 24, rfl, rfl, w24, _, 7, rfl, rfl, _, _, rfl, rfl, g24, ?_⟩
      refine ⟨by show 3 ≤ sizeLine; decide, fun q hq => ?_⟩
      refine k q _ hq (Evl.Ex.new hq) ⟨_, _, _, upd_same, ?_, Int.emod_nonneg _ (by omega), Int.lt_trans (Int.emod_lt_of_pos _ g24) (by rw [e24, p80]; decide), Int.le_refl _, Int.le_refl _⟩
      split <;> omega
end
/-- data that may be shown -/
def Md (d : PyData) : Prop := PyData.showable d = true ∧ PyData.depth d ≤ 3 ∧ (PyData.shown d).length ≤ 1000
theorem md_int {n : Int} (h : n.natAbs < 2 ^ 200) : Md (.int n) := by
  have h4 := PySem.Flt.log2_lt_of (by decide : 0 < 200) h
  refine ⟨by simp only [PyData.showable, decide_eq_true_eq]; omega, by simp [PyData.depth], ?_⟩
  show (Str.ofString (toString n)).length ≤ 1000
  rw [PySem.ofString_length]
  exact Nat.le_trans (int_text_length_le (k := 200) (by decide) h4) (by decide)
def spThing : Sp := fun vs H Q _ => ∃ (p : Addr) (m : Nat), vs = [.ref p] ∧ Sk H p m ∧ m ≤ 90000 ∧ ∀ (v : V) (d : PyData) (H' : Hp), But p H H' → Sk H' p (m + 2) → Dq H' v d → Md d → Q v H'
structure T7 (mg : Str → Option Value) : Prop where
  len : mg "len" = none
section
variable {base : Heap} {mg : Str → Option Value} {K : PySem.W.Frag} {w : World} {P : Program}
theorem ok_thing {f : Addr} {fd : FuncData} (F : Fun K "_law_pv_thing" "_law_pv_thing" s_l_thing f fd) (T : T7 mg) (cC : Cal P w K mg base 1 "_law_pv_coin" p_l_coin spCoin) : FnOk P w K mg base CX0 2 f fd p_l_thing spThing := by
  refine F.ok sc_l_thing (fun vs H Q E h => ?_) (fun cdv A outer s H vs Q E hr h => ?_)
  · obtain ⟨p, m, rfl, _⟩ := h
    rfl
  · obtain ⟨p, m, rfl, hS, hm, k⟩ := h
    have nd := sc_l_thing.nd
    refine ⟨_, pss_cons (ps_set (i := 1) nd rfl (Or.inl rfl) (pe_lst (pa_cons pe_non (pa_cons pe_bl (pa_cons pe_int (pa_cons (pe_c cC hr (pa_cons (pv 0) (pa_cons (pe_op op_powX pe_int pe_int) pa_nil))) (pa_cons pe_str (pa_cons pe_str
        (pa_cons (pe_lst pa_nil) (pa_cons (pe_lst (pa_cons pe_int (pa_cons (pe_lst (pa_cons pe_int pa_nil)) pa_nil))) (pa_cons (pe_tup pa_nil) (pa_cons (pe_tup (pa_cons pe_str (pa_cons (pe_lst (pa_cons pe_int (pa_cons pe_int pa_nil))) pa_nil)))
        (pa_cons (pe_disp (pps_cons pe_str (pe_lst (pa_cons pe_int pa_nil)) pps_nil) (by rfl) (by rfl) (fun z => by cases z) (by decide)) pa_nil)))))))))))))
      (pss_one (ps_ret (pe_ix ix_list (pv 1) (pe_c cC hr (pa_cons (pv 0) (pa_cons (pe_callB call_len_seq (by rfl) T.len PySem.boot_len (pa_cons (pv 1) pa_nil)) pa_nil))) (fun _ _ => rfl)))), ?_⟩
    have w30 : CPowX 10 30 := pow_ok (k := 4) (n := 30) (by decide) (by decide)
    have e30 : ((10 : Int) ^ (30 : Int).toNat) = 1000000000000000000000000000000 := by decide
    have n200 : (2 : Nat) ^ 200 = 1606938044258990275541962092341162602522202993782792835301376 := by decide
    refine ⟨_, rfl, 10, 30, rfl, rfl, w30, p, _, m, rfl, hS, by omega, by rw [e30]; decide, by rw [e30]; decide, fun c H1 c0 c1 b1 s1 z1 => ?_⟩
    rw [e30] at c1
    have hpn : H1 p ≠ none := by
      obtain ⟨_, _, _, ho, _⟩ := s1
      rw [ho]
      exact fun z => by cases z
    have ne : ∀ {G : Hp} {a : Addr}, Evl.Ex H1 G → G a = none → a ≠ p := fun e h z => hpn (by rw [← z]; exact Evl.fresh_back e h)
    refine ⟨Nat.zero_le _, fun l6 h6 => ?_⟩
    have x6 : Evl.Ex H1 (upd H1 l6 (.lst [])) := Evl.Ex.new h6
    have u6 : upd H1 l6 (.lst []) l6 = some (.lst []) := upd_same
    have n6 := ne (Evl.Ex.refl _) h6
    generalize upd H1 l6 (.lst []) = H2 at x6 u6
    refine ⟨by show 1 ≤ sizeLine; decide, fun l7b h7b => ?_⟩
    have e7b := Evl.Ex.new (o := .lst [.int 2]) h7b
    have x7b := x6.trans e7b
    have u7b : upd H2 l7b (.lst [.int 2]) l7b = some (.lst [.int 2]) := upd_same
    have n7b := ne x6 h7b
    replace u6 := e7b _ _ u6
    generalize upd H2 l7b (.lst [.int 2]) = H3 at x7b u7b u6
    clear e7b
    refine ⟨by show 2 ≤ sizeLine; decide, fun l7 h7 => ?_⟩
    have e7 := Evl.Ex.new (o := .lst [.int 1, .ref l7b]) h7
    have x7 := x7b.trans e7
    have u7 : upd H3 l7 (.lst [.int 1, .ref l7b]) l7 = some (.lst [.int 1, .ref l7b]) := upd_same
    have n7 := ne x7b h7
    replace u6 := e7 _ _ u6
    replace u7b := e7 _ _ u7b
    generalize upd H3 l7 (.lst [.int 1, .ref l7b]) = H4 at x7 u7 u7b u6
    clear e7
    refine ⟨Nat.zero_le _, fun l8 h8 => ?_⟩
    have e8 := Evl.Ex.new (o := .tup []) h8
    have x8 := x7.trans e8
    have u8 : upd H4 l8 (.tup []) l8 = some (.tup []) := upd_same
    have n8 := ne x7 h8
    replace u6 := e8 _ _ u6
    replace u7b := e8 _ _ u7b
    replace u7 := e8 _ _ u7
    generalize upd H4 l8 (.tup []) = H5 at x8 u8 u7 u7b u6
    clear e8
    refine ⟨by show 2 ≤ sizeLine; decide, fun l9b h9b => ?_⟩
    have e9b := Evl.Ex.new (o := .lst [.int 1, .int 0]) h9b
    have x9b := x8.trans e9b
    have u9b : upd H5 l9b (.lst [.int 1, .int 0]) l9b = some (.lst [.int 1, .int 0]) := upd_same
    have n9b := ne x8 h9b
    replace u6 := e9b _ _ u6
    replace u7b := e9b _ _ u7b
    replace u7 := e9b _ _ u7
    replace u8 := e9b _ _ u8
    generalize upd H5 l9b (.lst [.int 1, .int 0]) = H6 at x9b u9b u8 u7 u7b u6
    clear e9b
    refine ⟨by show 2 ≤ sizeLine; decide, fun l9 h9 => ?_⟩
    have e9 := Evl.Ex.new (o := .tup [.str "open", .ref l9b]) h9
    have x9 := x9b.trans e9
    have u9 : upd H6 l9 (.tup [.str "open", .ref l9b]) l9 = some (.tup [.str "open", .ref l9b]) := upd_same
    have n9 := ne x9b h9
    replace u6 := e9 _ _ u6
    replace u7b := e9 _ _ u7b
    replace u7 := e9 _ _ u7
    replace u8 := e9 _ _ u8
    replace u9b := e9 _ _ u9b
    generalize upd H6 l9 (.tup [.str "open", .ref l9b]) = H7 at x9 u9 u9b u8 u7 u7b u6
    clear e9
    refine fun l10 h10 => ?_
    refine ⟨by show 1 ≤ sizeLine; decide, fun l10b h10b => ⟨?_, [(.inr "a", .ref l10b)], rfl, by show 1 ≤ 15; decide, ?_⟩⟩
    · rw [upd_ne (ne_of_none (o := .dK []) (by exact upd_same) h10b), upd_same]
    have h10b' : H7 l10b = none := Evl.fresh_back (Evl.Ex.new h10) h10b
    have nb : l10b ≠ l10 := (ne_of_none (o := .dK []) (by exact upd_same) h10b).symm
    have e10 : Evl.Ex H7 (upd (upd (upd H7 l10 (.dK [])) l10b (.lst [.int 1])) l10 (.dK (mergeK [] [(.inr "a", .ref l10b)]))) := fun b o hb => by
      rw [upd_ne (ne_of_none hb h10), upd_ne (ne_of_none hb h10b'), upd_ne (ne_of_none hb h10)]
      exact hb
    have u10b : upd (upd (upd H7 l10 (.dK [])) l10b (.lst [.int 1])) l10 (.dK (mergeK [] [(.inr "a", .ref l10b)])) l10b = some (.lst [.int 1]) := by rw [upd_ne nb, upd_same]
    have u10 : upd (upd (upd H7 l10 (.dK [])) l10b (.lst [.int 1])) l10 (.dK (mergeK [] [(.inr "a", .ref l10b)])) l10 = some (.dK [(.inr "a", .ref l10b)]) := upd_same
    have n10 := ne x9 h10
    have n10b := ne x9 h10b'
    have x10 := x9.trans e10
    replace u6 := e10 _ _ u6
    replace u7b := e10 _ _ u7b
    replace u7 := e10 _ _ u7
    replace u8 := e10 _ _ u8
    replace u9b := e10 _ _ u9b
    replace u9 := e10 _ _ u9
    generalize upd (upd (upd H7 l10 (.dK [])) l10b (.lst [.int 1])) l10 (.dK (mergeK [] [(.inr "a", .ref l10b)])) = H8 at x10 u10 u10b u9 u9b u8 u7 u7b u6
    clear e10
    refine ⟨by show 11 ≤ sizeLine; decide, fun L hL => ?_⟩
    have e11 := Evl.Ex.new (o := .lst [.non, .bl true, .int 0, .int c, .str "", .str "w", .ref l6, .ref l7, .ref l8, .ref l9, .ref l10]) hL
    have x11 := x10.trans e11
    have uL : upd H8 L (.lst [.non, .bl true, .int 0, .int c, .str "", .str "w", .ref l6, .ref l7, .ref l8, .ref l9, .ref l10]) L = some (.lst [.non, .bl true, .int 0, .int c, .str "", .str "w", .ref l6, .ref l7, .ref l8, .ref l9, .ref l10]) := upd_same
    have nL := ne x10 hL
    replace u6 := e11 _ _ u6
    replace u7b := e11 _ _ u7b
    replace u7 := e11 _ _ u7
    replace u8 := e11 _ _ u8
    replace u9b := e11 _ _ u9b
    replace u9 := e11 _ _ u9
    replace u10b := e11 _ _ u10b
    replace u10 := e11 _ _ u10
    generalize upd H8 L (.lst [.non, .bl true, .int 0, .int c, .str "", .str "w", .ref l6, .ref l7, .ref l8, .ref l9, .ref l10]) = H9 at x11 uL u10 u10b u9 u9b u8 u7 u7b u6
    clear e11
    refine ⟨_, rfl, _, rfl, _, rfl, L, _, rfl, .inl (SqL.of uL), p, 11, m + 1, rfl, s1.ex x11, by omega, by decide, by decide, fun r H10 r0 r1 b10 s10 z10 => ?_⟩
    have bt : But p H H10 := (b1.trans (But.of_ex x11)).trans b10
    replace u6 := b10 _ _ n6 u6
    replace u7b := b10 _ _ n7b u7b
    replace u7 := b10 _ _ n7 u7
    replace u8 := b10 _ _ n8 u8
    replace u9b := b10 _ _ n9b u9b
    replace u9 := b10 _ _ n9 u9
    replace u10b := b10 _ _ n10b u10b
    replace u10 := b10 _ _ n10 u10
    replace uL := b10 _ _ nL uL
    have go : ∀ (v : V) (d : PyData), atI [.non, .bl true, .int 0, .int c, .str "", .str "w", .ref l6, .ref l7, .ref l8, .ref l9, .ref l10] r = some v → Dq H10 v d → Md d → _ := fun v d ha hd hm => (⟨L, _, _, _, rfl, rfl, SqL.of uL, ha, k v d H10 bt s10 hd hm⟩ : rIxL K (.ref L) (.int r) H10 Q)
    have hr11 : r = 0 ∨ r = 1 ∨ r = 2 ∨ r = 3 ∨ r = 4 ∨ r = 5 ∨ r = 6 ∨ r = 7 ∨ r = 8 ∨ r = 9 ∨ r = 10 := by omega
    rcases hr11 with rfl | rfl | rfl | rfl | rfl | rfl | rfl | rfl | rfl | rfl | rfl
    · exact go _ _ rfl .non ⟨by decide, by decide, by decide +kernel⟩
    · exact go _ _ rfl (.bl _) ⟨by decide, by decide, by decide +kernel⟩
    · exact go _ _ rfl (.int _) (md_int (by rw [n200]; decide))
    · exact go _ _ rfl (.int _) (md_int (by rw [n200]; omega))
    · exact go _ _ rfl (.str _) ⟨by decide, by decide, by decide +kernel⟩
    · exact go _ _ rfl (.str _) ⟨by decide, by decide, by decide +kernel⟩
    · exact go _ _ rfl (.lst u6 .nil) ⟨by decide, by decide, by decide +kernel⟩
    · exact go _ _ rfl (.lst u7 (.cons (.int _) (.cons (.lst u7b (.cons (.int _) .nil)) .nil))) ⟨by decide, by decide, by decide +kernel⟩
    · exact go _ _ rfl (.tup u8 .nil) ⟨by decide, by decide, by decide +kernel⟩
    · exact go _ _ rfl (.tup u9 (.cons (.str _) (.cons (.lst u9b (.cons (.int _) (.cons (.int _) .nil))) .nil))) ⟨by decide, by decide, by decide +kernel⟩
    · exact go _ _ rfl (.dct u10 (.lst u10b (.cons (.int _) .nil))) ⟨by decide, by decide, by decide +kernel⟩
end
end V2


namespace V2
open PySem L2 L2H
open PySem.Spec PyProof.Rows
/-! ## checked -/
theorem if_t {c : Bool} {A B : Prop} (hc : c = true) (h : A) : if c = true then A else B := by
  rw [if_pos hc]; exact h
theorem if_f {c : Bool} {A B : Prop} (hc : c = false) (h : B) : if c = true then A else B := by
  rw [hc, if_neg Bool.false_ne_true]; exact h
/-- the answer of kinds, as data -/
def kdD (i : Nat) : PyData := .list ((List.range 11).map fun k => .bool (decide (k = i)))
theorem kdD_ok : ∀ i, i < 12 → SeqAt.shaped (kdD i) = true ∧ PyData.canLay0 (kdD i) = true ∧ PyData.showable (kdD i) = true ∧ PyData.depth (kdD i) ≤ 3 ∧ (PyData.shown (kdD i)).length ≤ 1000 := by decide +kernel
theorem dq_bls {H : Hp} : ∀ bs : List Bool, DqAll H (bs.map V.bl) (bs.map PyData.bool)
  | [] => .nil
  | b :: r => .cons (.bl b) (dq_bls r)
theorem dp_bls {K : PySem.W.Frag} {H : Hp} : ∀ bs : List Bool, DpAll K H (bs.map V.bl) (bs.map PyData.bool)
  | [] => .nil
  | b :: r => .cons (.bl b) (dp_bls r)
theorem kd_dq {H : Hp} {l : Addr} {i : Nat} (h : H l = some (.lst (kd i))) : Dq H (.ref l) (kdD i) := by
  have z := dq_bls (H := H) ((List.range 11).map fun k => decide (k = i))
  rw [List.map_map, List.map_map] at z
  exact .lst h z
theorem kd_dp {K : PySem.W.Frag} {H : Hp} {l : Addr} {i : Nat} (h : H l = some (.lst (kd i))) : Dp K H (.ref l) (kdD i) := by
  have z := dp_bls (K := K) (H := H) ((List.range 11).map fun k => decide (k = i))
  rw [List.map_map, List.map_map] at z
  exact .lst (SqL.of h) z
theorem md_list {xs : List PyData} (h : ∀ d ∈ xs, PyData.showable d = true ∧ PyData.depth d ≤ 3 ∧ (PyData.shown d).length ≤ 1000) (hl : xs.length ≤ 10) : PyData.showable (.list xs) = true ∧ PyData.depth (.list xs) ≤ 60 ∧ (PyData.shown (.list xs)).length ≤ sizeLine := by
  have s1 : ∀ ys : List PyData, (∀ d ∈ ys, PyData.showable d = true ∧ PyData.depth d ≤ 3 ∧ (PyData.shown d).length ≤ 1000) → PyData.showableAll ys = true ∧ PyData.depthAll ys ≤ 4 ∧ ((PyData.shownAll ys).map (·.length)).sum ≤ ys.length * 1000 := by
    intro ys
    induction ys with
    | nil => exact fun _ => ⟨rfl, by simp [PyData.depthAll], by simp [PyData.shownAll]⟩
    | cons d r ih =>
      intro h
      obtain ⟨a1, a2, a3⟩ := ih fun x hx => h x (List.mem_cons_of_mem _ hx)
      obtain ⟨b1, b2, b3⟩ := h d List.mem_cons_self
      refine ⟨by simp [PyData.showableAll, a1, b1], by simp [PyData.depthAll]; omega, ?_⟩
      simp only [PyData.shownAll, List.map_cons, List.sum_cons, List.length_cons, Nat.succ_mul r.length 1000]
      omega
  obtain ⟨a1, a2, a3⟩ := s1 xs h
  have h2 := listText_len_le (PyData.shownAll xs)
  have h3 := PyData.shownAll_length xs
  have h4 := Nat.mul_le_mul_right 1000 hl
  refine ⟨by simpa [PyData.showable] using a1, by simp [PyData.depth]; omega, ?_⟩
  have h5 : (PyData.shown (.list xs)).length ≤ 20000 := by
    simp only [PyData.shown]
    omega
  exact Nat.le_trans h5 (by decide)
theorem exo_lst {e C : Addr} {d : Option Addr} {xs : List V} : exo e C d ≠ .lst xs := fun z => by
  have z' : HO.ext _ = HO.lst xs := z
  cases z'
theorem exd_lst {e : Addr} {fs : List (Str × V)} {xs : List V} : exd e fs ≠ .lst xs := fun z => by
  have z' : HO.ext _ = HO.lst xs := z
  cases z'
theorem Er.upd {H : Hp} {e C d q : Addr} {v : V} {xs : List V} {o : HO} (h : Er H e C d v) (hq : H q = some (.lst xs)) : Er (upd H q o) e C d v :=
  ⟨by rw [upd_ne (ne_of h.at_ hq exo_lst)]; exact h.at_, by rw [upd_ne (ne_of h.dict hq exd_lst)]; exact h.dict⟩
structure C7 (P : Program) (w : World) (K : PySem.W.Frag) (mg : Str → Option Value) (base : Heap) (cs : Nat → Addr) (fI : Addr) : Prop where
  rng : mg "range" = none
  rep : mg "repr" = none
  C : Cs K mg cs fI
  coin : Cal P w K mg base 1 "_law_pv_coin" p_l_coin spCoin
  thing : Cal P w K mg base 2 "_law_pv_thing" p_l_thing spThing
  kinds : Cal P w K mg base 1 "_law_pv_kinds" p_l_kinds (spKinds cs)
  made : Cal P w K mg base 3 "_law_pv_made" p_l_made (spMade cs)
  named : Cal P w K mg base 3 "_law_pv_named" p_l_named (spMade cs)
  caught : Cal P w K mg base 4 "_law_pv_caught" p_l_caught (spCaught cs)
def spChecked7 : Sp := fun vs H Q _ => ∃ (p : Addr) (m : Nat), vs = [.ref p] ∧ Sk H p m ∧ m ≤ 50000 ∧ ∀ H', But p H H' → Sk H' p (m + 3) → Q (.bl true) H'
/-- a list of errors, one of each class -/
def Ers (cs : Nat → Addr) (H : Hp) (l : Addr) (y : V) : Prop := ∃ as : List Addr, H l = some (.lst (as.map V.ref)) ∧ as.length = 12 ∧ ∀ i a, as[i]? = some a → ∃ d, Er H a (cs i) d y
theorem Ers.ex {cs : Nat → Addr} {H H' : Hp} {l : Addr} {y : V} (h : Ers cs H l y) (e : Evl.Ex H H') : Ers cs H' l y := by
  obtain ⟨as, h1, h2, h3⟩ := h
  exact ⟨as, e _ _ h1, h2, fun i a ha => let ⟨d, z⟩ := h3 i a ha; ⟨d, z.ex e⟩⟩
theorem atI_nat' {xs : List V} {j : Nat} {x : V} (h : xs[j]? = some x) : atI xs (j : Int) = some x := atI_nat h
theorem Ers.at_ {cs : Nat → Addr} {H : Hp} {l : Addr} {y : V} (h : Ers cs H l y) {r : Nat} (hr : r < 12) : ∃ (xs : List V) (a d : Addr), H l = some (.lst xs) ∧ atI xs (r : Int) = some (.ref a) ∧ Er H a (cs r) d y := by
  obtain ⟨as, h1, h2, h3⟩ := h
  have e : as[r]? = some as[r] := List.getElem?_eq_getElem (by omega)
  obtain ⟨d, z⟩ := h3 r _ e
  exact ⟨_, as[r], d, h1, atI_nat (by rw [List.getElem?_map, e]; rfl), z⟩
theorem rk_nat {r : Nat} (h : r < 12) : rk (r : Int) = r := by
  unfold rk
  split <;> omega
theorem eqv_kd {i : Nat} (h : i < 12) : PyData.eqv (kdD i) (kdD i) = true := PySem.SeqAt.eqv_refl _ (kdD_ok i h).2.1
theorem range_bl (q j : Nat) : (List.range q).map (fun k => V.bl (decide (k = j))) ++ [V.bl (decide (V.int (0 + (q : Int)) = V.int (j : Int)))] = (List.range (q + 1)).map fun k => V.bl (decide (k = j)) := by
  have e : decide (V.int (0 + (q : Int)) = V.int (j : Int)) = decide (q = j) := by
    apply decide_eq_decide.mpr
    rw [V.int.injEq]
    omega
  rw [List.range_succ, List.map_append, e]
  rfl
section
variable {base : Heap} {mg : Str → Option Value} {K : PySem.W.Frag} {w : World} {P : Program} {cs : Nat → Addr} {fI : Addr}
theorem ok_checked {f : Addr} {fd : FuncData} (F : Fun K "_law_pv_checked" "_law_pv_checked" s_l_checked f fd) (c : C7 P w K mg base cs fI) : FnG P w K mg base 5 f fd p_l_checked spChecked7 := by
  refine Fun.okG F sc_l_checked (fun vs H Q E h => ?_) (fun cdv A outer s H vs Q E hg hr h => ?_)
  · obtain ⟨p, m, rfl, _⟩ := h
    rfl
  · obtain ⟨p, m, rfl, hS, hm, k⟩ := h
    have nd := sc_l_checked.nd
    have r1 : Room 1 _ := hr.mono (by decide)
    have r2 : Room 2 _ := hr.mono (by decide)
    have r3 : Room 3 _ := hr.mono (by decide)
    have one : 1 ≤ sizeLine := by show 1 ≤ sizeLine; decide
    have two : 2 ≤ sizeLine := by show 2 ≤ sizeLine; decide
    have three : 3 ≤ sizeLine := by show 3 ≤ sizeLine; decide
    have hpn : H p ≠ none := by
      obtain ⟨_, _, _, ho, _⟩ := hS
      rw [ho]
      exact fun z => by cases z
    refine ⟨_, pss_cons (ps_set (i := 1) nd rfl (Or.inl rfl) (pe_c c.thing r2 (pa_cons (pv 0) pa_nil)))
      (pss_cons (ps_for PassesOwn.never rfl (pi_tup (pe_tup (pa_cons (pe_c c.made r3 (pa_cons (pv 1) pa_nil)) (pa_cons (pe_c c.named r3 (pa_cons (pv 1) pa_nil)) pa_nil)))) (pg_name (i := 2) nd rfl (Or.inr rfl)) (pss_one (ps_for PassesOwn.never rfl (pi_range1 (by rfl) c.rng (pa_cons pe_int pa_nil)) (pg_name (i := 3) nd rfl (Or.inr rfl))
      (pss_cons (ps_setLc (i := 4) (own := [("k", 6)]) (g := gName 6) (tt := tYes) (te := tOp rEq (tVar 6) (tVar 3)) rfl nd rfl rfl (sw_true rfl rfl rfl (by decide +kernel)) (pi_range1 (by rfl) c.rng (pa_cons pe_int pa_nil)) (blkOk_by (N := n_l_checked) (sc := defScope s_l_checked) (by decide +kernel)) (fun _ _ _ _ _ => pg_name (i := 6) nd rfl (Or.inl rfl)) (fun _ _ _ _ _ => pts_nil) (fun _ _ _ _ _ => pe_cmpR op_eq (pv 6) (pv 3) (nomark _)))
      (pss_cons (ps_if (PW.pt (pw_or (pt_cmpR (op_neD hr.units) (pe_c c.kinds r1 (pa_cons (pe_ix ix_list (pv 2) (pv 3) (fun _ _ => rfl)) pa_nil)) (pv 4) (nomark _)) (pw_or1 (pt_not (pt_val (pe_callB (call_isX c.C.G) (by rfl) c.C.isi (by decide +kernel) (pa_cons (pe_ix ix_list (pv 2) (pv 3) (fun _ _ => rfl)) (pa_cons (pe_glob (v := .ref (cs 11)) (by rfl) c.C.n11 rfl) pa_nil)))))))) (pss_one (ps_ret pe_bl)) pss_nil)
      (pss_cons (ps_if (PW.pt (pw_or (pt_not (pt_val (pe_callB (call_isX c.C.G) (by rfl) c.C.isi (by decide +kernel) (pa_cons (pe_ix ix_list (pv 2) (pv 3) (fun _ _ => rfl)) (pa_cons (pe_bltn (v := .ty "ValueError") (by rfl) c.C.vErr (by decide +kernel) rfl) pa_nil))))) (pw_or1 (pt_cmpR op_ne (pe_callB (call_showS hg hr.units) (by rfl) c.rep (by decide +kernel) (pa_cons (pe_xv (fI := fI) (pe_ix ix_list (pv 2) (pv 3) (fun _ _ => rfl))) pa_nil)) (pe_callB (call_showS hg hr.units) (by rfl) c.rep (by decide +kernel) (pa_cons (pv 1) pa_nil)) (nomark _))))) (pss_one (ps_ret pe_bl)) pss_nil)
      (pss_one (ps_if (pt_cmpR op_ne (pe_callB (call_showS hg hr.units) (by rfl) c.rep (by decide +kernel) (pa_cons (pe_c c.caught hr (pa_cons (pv 3) (pa_cons (pv 1) pa_nil))) pa_nil)) (pe_callB (call_showS hg hr.units) (by rfl) c.rep (by decide +kernel) (pa_cons (pe_lst (pa_cons (pv 4) (pa_cons pe_bl (pa_cons (pv 1) pa_nil)))) pa_nil)) (nomark _)) (pss_one (ps_ret pe_bl)) pss_nil))))))))
      (pss_cons (ps_set (i := 5) nd rfl (Or.inr rfl) (pe_lst (pa_cons (pe_c c.coin r1 (pa_cons (pv 0) (pa_cons pe_int pa_nil))) pa_nil)))
      (pss_cons (ps_set (i := 2) nd rfl (Or.inr rfl) (pe_op op_cat (pe_c c.made r3 (pa_cons (pv 5) pa_nil)) (pe_c c.named r3 (pa_cons (pv 5) pa_nil))))
      (pss_cons (ps_expr (pe_bm PySem.F.plainAttrs_list PySem.F.slot_list_append PySem.F.type_list_append mt_append (pv 5) (pa_cons pe_int pa_nil)))
      (pss_one (ps_ret (pe_cmpR (op_eqD hr.units) (pe_lc (own := [("rank", 3)]) (g := gName 3) (tt := (tTest (tOp rNe (tCB rShowS (tCons (tXv K fI (tOp (rIxL K) (tVar 2) (tVar 3))) tNil)) (tCB rShowS (tCons (tVar 5) tNil))))) (te := tVar 3) rfl nd (pi_range1 (by rfl) c.rng (pa_cons pe_int pa_nil)) (blkOk_by (N := n_l_checked) (sc := defScope s_l_checked) (by decide +kernel)) (fun _ _ _ _ _ => pg_name (i := 3) nd rfl (Or.inl rfl))
          (fun _ _ _ _ _ => pts_one (pt_cmpR op_ne (pe_callB (call_showS hg hr.units) (by rfl) c.rep (by decide +kernel) (pa_cons (pe_xv (fI := fI) (pe_ix ix_list (pv 2) (pv 3) (fun _ _ => rfl))) pa_nil)) (pe_callB (call_showS hg hr.units) (by rfl) c.rep (by decide +kernel) (pa_cons (pv 5) pa_nil)) (nomark _)))
          (fun _ _ _ _ _ => pv 3)) (pe_lst pa_nil) (nomark _)))))))), ?_⟩
    refine ⟨_, rfl, p, m, rfl, hS, by omega, fun y d H1 b1 s1 hd hM => ?_⟩
    refine ⟨_, rfl, y, rfl, fun l1 as1 H2 hl1 e2 h2 len2 er2 => ?_⟩
    have M1 : Ers cs H2 l1 y := ⟨as1, h2, len2, er2⟩
    clear h2 len2 er2
    refine ⟨_, rfl, y, rfl, fun l2 as2 H3 hl2 e3 h3 len3 er3 => ?_⟩
    have M2 : Ers cs H3 l2 y := ⟨as2, h3, len3, er3⟩
    clear h3 len3 er3
    replace M1 := M1.ex e3
    refine ⟨two, fun t ht => ?_⟩
    have e4 := Evl.Ex.new (o := .tup [.ref l1, .ref l2]) ht
    have ht4 : upd H3 t (.tup [.ref l1, .ref l2]) t = some (.tup [.ref l1, .ref l2]) := upd_same
    have e14 := (e2.trans e3).trans e4
    replace M1 := M1.ex e4
    replace M2 := M2.ex e4
    generalize upd H3 t (.tup [.ref l1, .ref l2]) = H4 at e4 ht4 e14 M1 M2
    have hd4 := hd.go e14
    have s4 := s1.ex e14
    have b4 := b1.trans (But.of_ex e14)
    clear e4 e2 e3 hl1 hl2 ht hd s1 b1
    refine ⟨t, rfl, ⟨_, SqT.of ht4⟩, for_tup (xs := [.ref l1, .ref l2]) (fun i σ H' => Evl.Ex H4 H' ∧ ∃ v2 v3 v4 : Option V, σ = [some (.ref p), some y, v2, v3, v4, none, none]) ⟨Evl.Ex.refl _, _, _, _, rfl⟩ (fun i σ H' _ z => SqT.of (z.1 _ _ ht4)) ?_ ?_⟩
    · rintro i v σ H5 hi ⟨e5, v2, v3, v4, rfl⟩
      obtain ⟨l, rfl, hl⟩ : ∃ l, v = .ref l ∧ Ers cs H4 l y := by
        match i, hi with
        | 0, hi => exact ⟨l1, (Option.some.inj hi).symm, M1⟩
        | 1, hi => exact ⟨l2, (Option.some.inj hi).symm, M2⟩
        | (n + 2), hi => cases hi
      refine ⟨12, rfl, by decide, by decide, for_range (n := (12 : Int).toNat) (fun j σ H' => Evl.Ex H4 H' ∧ ∃ v3 v4 : Option V, σ = [some (.ref p), some y, some (.ref l), v3, v4, none, none]) ⟨e5, _, _, rfl⟩ ?_ ?_⟩
      · rintro j σ H6 hj ⟨e6, v3, v4, rfl⟩
        have hj12 : j < 12 := hj
        rw [Int.zero_add]
        obtain ⟨K1, K2, K3, K4, K5⟩ := kdD_ok j hj12
        refine ⟨11, rfl, by decide, by decide, fun D hD => lc_range (n := (11 : Int).toNat) (fun q H' => Evl.Ex H6 H' ∧ H' D = some (.lst ((List.range q).map fun k => V.bl (decide (k = j))))) ⟨Evl.Ex.new hD, upd_same⟩ ?_ ?_⟩
        · rintro q H7 hq ⟨e7, h7⟩
          refine ⟨rfl, ?_⟩
          show tOp rEq (tVar 6) (tVar 3) _ _ _
          refine ⟨_, rfl, _, rfl, rfl, _, h7, ?_, ?_, ?_⟩
          · rw [List.length_map, List.length_range]
            exact Nat.lt_of_lt_of_le hq (by decide)
          · exact Evl.Ex.mut e7 hD
          · rw [upd_same, range_bl]
        · rintro H7 ⟨e7, h7⟩
          replace h7 : H7 D = some (.lst (kd j)) := h7
          have e47 := e6.trans e7
          obtain ⟨xs, a, dA, hxs, hat, hEr⟩ := (hl.ex e47).at_ hj12
          have hEC := c.C.ec j hj12
          refine ⟨_, rfl, _, rfl, l, xs, _, _, rfl, rfl, SqL.of hxs, hat, ?_⟩
          refine ⟨a, dA, j, y, rfl, hj12, hEr, fun q8 H8 hq8 e8 h8 => ?_⟩
          refine ⟨_, rfl, kdD j, kdD j, kd_dp h8, kd_dp (e8 _ _ h7), K1, K1, _, rfl, if_f (by rw [eqv_kd hj12]; rfl) ?_⟩
          refine ⟨_, rfl, _, rfl, l, xs, _, _, rfl, rfl, SqL.of (e8 _ _ hxs), hat, ?_⟩
          refine ⟨a, cs j, dA, y, .ref (cs 11), .ref (cs 11), true, rfl, hEr.ex e8, hEC, relV_ref, ?_, true, rfl, if_f rfl ?_⟩
          · have z := c.C.is j hj12 11 (by decide)
            rw [show (decide (11 = j) || decide (11 = 11)) = true by simp] at z
            exact z
          refine ⟨_, rfl, _, rfl, l, xs, _, _, rfl, rfl, SqL.of (e8 _ _ hxs), hat, ?_⟩
          refine ⟨a, cs j, dA, y, .ty "ValueError", .type "ValueError", true, rfl, hEr.ex e8, hEC, fun u h => h, c.C.iv j hj12, true, rfl, if_f rfl ?_⟩
          have hd8 := (hd4.go e47).go e8
          refine ⟨_, rfl, _, rfl, l, xs, _, _, rfl, rfl, SqL.of (e8 _ _ hxs), hat, ?_⟩
          refine ⟨a, cs j, dA, y, rfl, hEr.ex e8, hEC, y, d, rfl, hd8, hM.1, Nat.le_trans hM.2.1 (by decide), Nat.le_trans hM.2.2 (by decide), ?_⟩
          refine ⟨_, rfl, y, d, rfl, hd8, hM.1, Nat.le_trans hM.2.1 (by decide), Nat.le_trans hM.2.2 (by decide), ?_⟩
          refine ⟨rfl, _, rfl, if_f (by simp) ?_⟩
          refine ⟨_, rfl, _, rfl, (j : Int), y, rfl, Int.natCast_nonneg _, fun l9 q9 H9 hl9 hq9 n9 e9 h9 u9 => ?_⟩
          rw [rk_nat hj12] at h9
          have hd9 := hd8.go e9
          obtain ⟨m1, m2, m3⟩ := md_list (xs := [kdD j, .bool true, d]) (fun z hz => by
            simp only [List.mem_cons, List.not_mem_nil, or_false] at hz
            rcases hz with rfl | rfl | rfl
            · exact ⟨K3, K4, K5⟩
            · exact ⟨by decide, by decide, by decide +kernel⟩
            · exact hM) (by show 3 ≤ 10; decide)
          refine ⟨.ref q9, .list [kdD j, .bool true, d], rfl, .lst u9 (.cons (kd_dq h9) (.cons (.bl true) (.cons hd9 .nil))), m1, m2, m3, ?_⟩
          refine ⟨_, rfl, _, rfl, three, fun x10 hx10 => ?_⟩
          have e10 := Evl.Ex.new (o := .lst [.ref D, .bl true, y]) hx10
          refine ⟨.ref x10, .list [kdD j, .bool true, d], rfl, .lst upd_same (.cons (kd_dq (e10 _ _ (e9 _ _ (e8 _ _ h7)))) (.cons (.bl true) (.cons (hd9.go e10) .nil))), m1, m2, m3, ?_⟩
          refine ⟨rfl, _, rfl, if_f (by simp) ?_⟩
          exact ⟨((e47.trans e8).trans e9).trans e10, _, _, rfl⟩
      · rintro σ H6 ⟨e6, v3, v4, rfl⟩
        exact ⟨e6, _, _, _, rfl⟩
    · rintro σ H5 ⟨e5, v2, v3, v4, rfl⟩
      have b5 := b4.trans (But.of_ex e5)
      have s5 := s4.ex e5
      clear M1 M2 hd4 ht4 e14 s4 b4
      refine ⟨_, rfl, p, 9, m + 2, rfl, s5, by omega, by decide, by decide, fun n H6 n0 n1 b6 s6 z6 => ⟨one, fun q hq => ?_⟩⟩
      have b6' := b5.trans b6
      have e7 := Evl.Ex.new (o := .lst [.int n]) hq
      have h7 : upd H6 q (.lst [.int n]) q = some (.lst [.int n]) := upd_same
      have s7 := s6.ex e7
      have b7 := b6'.trans (But.of_ex e7)
      have qp : q ≠ p := fun z => by
        obtain ⟨_, _, _, ho, _⟩ := s6
        rw [← z, hq] at ho
        cases ho
      generalize upd H6 q (.lst [.int n]) = H7 at e7 h7 s7 b7
      refine ⟨_, rfl, .ref q, rfl, fun l1 as1 H8 hl1 e8 h8 len8 er8 => ?_⟩
      refine ⟨_, rfl, .ref q, rfl, fun l2 as2 H9 hl2 e9 h9 len9 er9 => ?_⟩
      refine ⟨l1, l2, _, _, rfl, rfl, e9 _ _ h8, h9, ?_, fun F hF => ?_⟩
      · rw [List.length_map, List.length_map, len8, len9]
        show 12 + 12 ≤ sizeLine
        decide
      rw [← List.map_append]
      have e10 := Evl.Ex.new (o := .lst ((as1 ++ as2).map V.ref)) hF
      have h10 : upd H9 F (.lst ((as1 ++ as2).map V.ref)) F = some (.lst ((as1 ++ as2).map V.ref)) := upd_same
      have hE : ∀ (i : Nat) (a : Addr), (as1 ++ as2)[i]? = some a → ∃ j d, j < 12 ∧ Er (upd H9 F (.lst ((as1 ++ as2).map V.ref))) a (cs j) d (.ref q) := by
        intro i a h
        by_cases hi : i < as1.length
        · rw [List.getElem?_append_left hi] at h
          obtain ⟨d, z⟩ := er8 i a h
          exact ⟨i, d, by omega, (z.ex e9).ex e10⟩
        · rw [List.getElem?_append_right (by omega)] at h
          obtain ⟨d, z⟩ := er9 _ a h
          have := (List.getElem?_eq_some_iff.mp h).1
          exact ⟨_, d, by omega, z.ex e10⟩
      have h7q := e10 _ _ (e9 _ _ (e8 _ _ h7))
      have Fq : F ≠ q := (ne_of_none (e9 _ _ (e8 _ _ h7)) hF).symm
      have s10 := ((s7.ex e8).ex e9).ex e10
      have b10 := ((b7.trans (But.of_ex e8)).trans (But.of_ex e9)).trans (But.of_ex e10)
      have l24 : (as1 ++ as2).length = 24 := by rw [List.length_append, len8, len9]
      generalize upd H9 F (.lst ((as1 ++ as2).map V.ref)) = H10 at e10 h10 hE h7q s10 b10
      generalize as1 ++ as2 = as at h10 hE l24
      refine ⟨_, rfl, .inl ⟨rfl, _, SqL.of h7q⟩, q, _, _, rfl, rfl, h7q, by show 1 < sizeLine; decide, ?_⟩
      have hE' : ∀ (i : Nat) (a : Addr), as[i]? = some a → ∃ j d, j < 12 ∧ Er (upd H10 q (.lst [.int n, .int 7])) a (cs j) d (.ref q) := fun i a h => let ⟨j, d, hj, z⟩ := hE i a h; ⟨j, d, hj, z.upd h7q⟩
      have h11 : upd H10 q (.lst [.int n, .int 7]) F = some (.lst (as.map V.ref)) := by rw [upd_ne Fq]; exact h10
      have q11 : upd H10 q (.lst [.int n, .int 7]) q = some (.lst [.int n, .int 7]) := upd_same
      have b11 : But p H (upd H10 q (.lst [.int n, .int 7])) := fun b o hb hh => by
        have z := b10 b o hb hh
        by_cases hbq : b = q
        · subst hbq
          exact absurd (b6' b o hb hh) (by rw [hq]; exact fun z => by cases z)
        · rw [upd_ne hbq]
          exact z
      have s11 : Sk (upd H10 q (.lst [.int n, .int 7])) p (m + 3) := by
        obtain ⟨x1, x2, x3, x4, x5⟩ := s10
        exact ⟨x1, x2, x3, by rw [upd_ne qp.symm]; exact x4, x5⟩
      show _
      generalize hG : upd H10 q (.lst [.int n, .int 7]) = H11 at hE' h11 q11 b11 s11
      have hG' : upd H10 q (.lst ([.int n] ++ [.int 7])) = H11 := hG
      try rw [hG']
      try rw [hG]
      clear hE h10 h7q
      have hdk : Md (.int n) := md_int (by
        have n200 : (2 : Nat) ^ 200 = 1606938044258990275541962092341162602522202993782792835301376 := by decide
        rw [n200]; omega)
      obtain ⟨m1, m2, m3⟩ := md_list (xs := [.int n, .int 7]) (fun z hz => by
        simp only [List.mem_cons, List.not_mem_nil, or_false] at hz
        rcases hz with rfl | rfl
        · exact hdk
        · exact ⟨by decide, by decide, by decide +kernel⟩) (by show 2 ≤ 10; decide)
      refine ⟨24, rfl, by decide, by decide, fun D hD => lc_range (n := (24 : Int).toNat) (fun i H' => Evl.Ex H11 H' ∧ H' D = some (.lst [])) ⟨Evl.Ex.new hD, upd_same⟩ ?_ ?_⟩
      · rintro i H12 hi ⟨e12, h12⟩
        have hi24 : i < as.length := by rw [l24]; exact hi
        have ea : as[i]? = some as[i] := List.getElem?_eq_getElem hi24
        obtain ⟨j, dA, hj, hEr⟩ := hE' i _ ea
        have hat : atI (as.map V.ref) (i : Int) = some (.ref as[i]) := atI_nat (by rw [List.getElem?_map, ea]; rfl)
        rw [Int.zero_add]
        refine ⟨rfl, ?_⟩
        have hdq : Dq H12 (.ref q) (.list [.int n, .int 7]) := .lst (e12 _ _ q11) (.cons (.int n) (.cons (.int 7) .nil))
        refine ⟨_, rfl, _, rfl, F, _, _, _, rfl, rfl, SqL.of (e12 _ _ h11), hat, ?_⟩
        refine ⟨_, cs j, dA, .ref q, rfl, hEr.ex e12, c.C.ec j hj, .ref q, _, rfl, hdq, m1, m2, m3, ?_⟩
        refine ⟨_, rfl, .ref q, _, rfl, hdq, m1, m2, m3, rfl, _, rfl, if_f (by simp) ⟨e12, h12⟩⟩
      · rintro H12 ⟨e12, h12⟩
        refine ⟨Nat.zero_le _, fun g hg2 => ?_⟩
        have e13 := Evl.Ex.new (o := .lst []) hg2
        refine ⟨.list [], .list [], .lst (SqL.of (e13 _ _ h12)) .nil, .lst (SqL.of upd_same) .nil, by decide, by decide, ?_⟩
        have ev : PyData.eqv (.list []) (.list []) = true := by decide
        rw [ev]
        exact k _ (b11.trans (But.of_ex (e12.trans e13))) (s11.ex (e12.trans e13))
end
end V2


namespace V2
open PySem L2
open PySem.Spec PyProof.Rows
theorem sq_ex_but {K : PySem.W.Frag} {H H1 H2 : Hp} {a q : Addr} {xs : List V} (h : SqL K H a xs) (hq : H q = none) (e : Evl.Ex H H1) (b : But q H1 H2) : SqL K H2 a xs := by
  rcases h with h | h
  · left
    have go : ∀ o, H a = some o → H2 a = some o := fun o ho => b a o (ne_of_none ho hq) (e a o ho)
    rcases h with h | ⟨o, h⟩
    · exact .inl (go _ h)
    · exact .inr ⟨o, go _ h⟩
  · exact .inr h
def spLaw (K : PySem.W.Frag) : Sp := fun vs H Q _ => ∃ (a : Addr) (ns : List Int), vs = [.ref a] ∧ SqL K H a (iV ns) ∧ ns.length ≤ 63 ∧ ∀ H', Q (.bl true) H'
structure T6 (mg : Str → Option Value) : Prop where
  rng : mg "range" = none
  len : mg "len" = none
  max : mg "max" = none
  min : mg "min" = none
section
variable {base : Heap} {mg : Str → Option Value} {K : PySem.W.Frag} {w : World} {P : Program}
theorem ok_law {f : Addr} {fd : FuncData} (F : Fun K "law" "law" s_law f fd) (T : T6 mg) (cS : Cal P w K mg base 1 "_law_pv_sack" p_l_sack (spSack K)) (cK : CalG P w K mg base 5 "_law_pv_checked" p_l_checked spChecked7) : FnG P w K mg base 6 f fd p_law (spLaw K) := by
  refine Fun.okG F sc_law (fun vs H Q E h => ?_) (fun cdv A outer s H vs Q E hg hr h => ?_)
  · obtain ⟨a, ns, rfl, _⟩ := h
    rfl
  · obtain ⟨a, ns, rfl, hS, hl, k⟩ := h
    have nd := sc_law.nd
    have r1 : Room 1 _ := hr.mono (by decide)
    refine ⟨_, pss_cons (ps_for PassesOwn.never rfl (pi_range1 (by rfl) T.rng (pa_cons (pe_callB (call_max2 rfl) (by rfl) T.max (by decide +kernel) (pa_cons pe_int (pa_cons (pe_callB (call_min2 rfl) (by rfl) T.min (by decide +kernel) (pa_cons pe_int (pa_cons (pe_callB call_len_seq (by rfl) T.len PySem.boot_len (pa_cons (pv 0) pa_nil)) pa_nil))) pa_nil))) pa_nil)) (pg_name (i := 1) nd rfl (Or.inl rfl))
        (pss_cons (ps_set (i := 2) nd rfl (Or.inl rfl) (pe_c cS r1 (pa_cons (pv 0) (pa_cons (pv 1) pa_nil))))
        (pss_one (ps_for PassesOwn.never rfl (pi_range1 (by rfl) T.rng (pa_cons pe_int pa_nil)) (pg_name (i := 3) nd rfl (Or.inl rfl))
          (pss_one (ps_if (pt_not (pt_val (pe_cg cK hg hr (pa_cons (pv 2) pa_nil)))) (pss_one (ps_ret pe_bl)) pss_nil))))))
      (pss_one (ps_ret pe_bl)), ?_⟩
    refine ⟨_, rfl, a, _, rfl, .inl hS, _, _, rfl, _, _, rfl, _, rfl, ?_, ?_, ?_⟩
    · split <;> split <;> omega
    · split <;> split <;> omega
    have hb : (if (if ((iV ns).length : Int) < 5 then ((iV ns).length : Int) else 5) > 1 then (if ((iV ns).length : Int) < 5 then ((iV ns).length : Int) else 5) else 1 : Int) ≤ 5 := by split <;> split <;> omega
    generalize (if (if ((iV ns).length : Int) < 5 then ((iV ns).length : Int) else 5) > 1 then (if ((iV ns).length : Int) < 5 then ((iV ns).length : Int) else 5) else 1 : Int) = n at hb
    refine for_range (n := n.toNat) (fun i σ H' => ∃ v1 v2 v3, σ = [some (.ref a), v1, v2, v3] ∧ SqL K H' a (iV ns)) ⟨none, none, none, rfl, hS⟩ ?_ ?_
    · rintro i σ H1 hi ⟨v1, v2, v3, rfl, hS1⟩
      refine ⟨_, rfl, _, rfl, a, ns, i, ?_, hS1, hl, by omega, fun q H2 hq e2 h2 => ?_⟩
      · rw [Int.zero_add]
        rfl
      refine ⟨2, rfl, by decide, by decide, for_range (n := (2 : Int).toNat) (fun j σ H' => ∃ v1 v3, σ = [some (.ref a), v1, some (.ref q), v3] ∧ But q H2 H' ∧ Sk H' q (0 + 3 * j)) ⟨_, _, rfl, But.refl _ _, h2⟩ ?_ ?_⟩
      · rintro j σ H3 hj ⟨w1, w3, rfl, b3, s3⟩
        have hj2 : j < 2 := hj
        refine ⟨_, rfl, q, _, rfl, s3, by omega, fun H4 b4 s4 => ⟨true, rfl, if_f rfl ⟨_, _, rfl, b3.trans b4, s4.le (by omega)⟩⟩⟩
      · rintro σ H3 ⟨w1, w3, rfl, b3, s3⟩
        exact ⟨_, _, _, rfl, sq_ex_but hS1 hq e2 b3⟩
    · rintro σ H1 ⟨v1, v2, v3, rfl, hS1⟩
      exact k H1
end
end V2


namespace V2
open PySem L2 L2H
open PySem.Spec PyProof.Rows
/-! ## what the top has left -/
def Lay (K : PySem.W.Frag) (mg : Str → Option Value) (x : Str) (st : Stmt) (ps : List Str) : Prop := ∃ (f : Addr) (fd : FuncData), Fun K x x st f fd ∧ mg x = some (.ref f) ∧ PySem.W.keepIn K (.ref f) = true ∧ Binds K fd ps []
theorem lay_mk {K : PySem.W.Frag} {h : Heap} {mg : Str → Option Value} {x : Str} {st : Stmt} {ps : List Str} {f : Addr} {od an : Option Addr} {sl : Array (Option Value)} {oc kV dc pm cd ct : Value} (X : K.In h) (G : h.Ns mainGlobals mg)
    (a : PySem.W.nsIn K mainGlobals x = some (some (.ref f))) (l : K.lookup f = some ⟨oc, od, .func (PySem.W.fnOf x x (defArgs st) (defBody st) (defScope st) .none kV dc pm an cd ct), sl⟩) (c : PySem.W.codeIn K cd x = true) (k : PySem.W.keepIn K (.ref f) = true)
    (hb : ∀ (kV doc pm : Value) (an : Option Addr) (cdv ct : Value) (us : List Value), us.length = ps.length → bindArgs (PySem.W.fnOf x x (defArgs st) (defBody st) (defScope st) .none kV doc pm an cdv ct) ⟨us, []⟩ = pure (ps.zip us)) : Lay K mg x st ps :=
  ⟨f, _, fun_mk l c k, PySem.W.mg_of X G a, k, Fun.binds (fun_mk l c k) hb⟩

section
variable {base : Heap} {mg : Str → Option Value} {K : PySem.W.Frag} {w : World} {P : Program} {cs : Nat → Addr} {fI : Addr}
theorem Lay.cal {x : Str} {st : Stmt} {ps : List Str} {k : Nat} {sp : Sp} (L : Lay K mg x st ps) (h : ∀ f fd, Fun K x x st f fd → FnOk P w K mg base CX0 k f fd ps sp) : Cal P w K mg base k x ps sp := by
  obtain ⟨f, fd, F, m, kp, b⟩ := L
  exact ⟨f, fd, h f fd F, m, kp, b⟩
theorem Lay.calG {x : Str} {st : Stmt} {ps : List Str} {k : Nat} {sp : Sp} (L : Lay K mg x st ps) (h : ∀ f fd, Fun K x x st f fd → FnG P w K mg base k f fd ps sp) : CalG P w K mg base k x ps sp := by
  obtain ⟨f, fd, F, m, kp, b⟩ := L
  exact ⟨f, fd, h f fd F, m, kp, b⟩

structure Top (K : PySem.W.Frag) (mg : Str → Option Value) (cs : Nat → Addr) (fI : Addr) : Prop where
  l_sack_ : Lay K mg "_law_pv_sack" s_l_sack p_l_sack
  l_coin_ : Lay K mg "_law_pv_coin" s_l_coin p_l_coin
  l_thing_ : Lay K mg "_law_pv_thing" s_l_thing p_l_thing
  l_kinds_ : Lay K mg "_law_pv_kinds" s_l_kinds p_l_kinds
  l_made_ : Lay K mg "_law_pv_made" s_l_made p_l_made
  l_named_ : Lay K mg "_law_pv_named" s_l_named p_l_named
  l_throw_ : Lay K mg "_law_pv_throw" s_l_throw p_l_throw
  l_caught_ : Lay K mg "_law_pv_caught" s_l_caught p_l_caught
  l_checked_ : Lay K mg "_law_pv_checked" s_l_checked p_l_checked
  kP : ∃ (f : Addr) (oc dV kV doc pm cdv ct : Value) (an od : Option Addr) (osl : Array (Option Value)), K.lookup f = some ⟨oc, od, .func (PySem.W.fnOf "_law_pv_kinds" "_law_pv_kinds" (defArgs s_l_kinds) (defBody s_l_kinds) (defScope s_l_kinds) dV kV doc pm an cdv ct), osl⟩ ∧ PySem.W.codeIn K cdv "_law_pv_kinds" = true ∧ mg "_law_pv_kinds" = some (.ref f) ∧ PySem.W.keepIn K (.ref f) = true ∧ Binds K (PySem.W.fnOf "_law_pv_kinds" "_law_pv_kinds" (defArgs s_l_kinds) (defBody s_l_kinds) (defScope s_l_kinds) dV kV doc pm an cdv ct) p_l_kinds []
  init : ∃ (fd : FuncData), Fun K "__init__" "TankError.__init__" s_TE_init fI fd ∧ Binds K fd p_TE_init [] ∧ KBn K fd p_TE_init 1 ["value"] (fun us ws => us ++ ws) (fun vs zs => vs ++ zs)
  C : Cs K mg cs fI
  z_len : mg "len" = none
  z_max : mg "max" = none
  z_abs : mg "abs" = none
  z_int : mg "int" = none
  z_range : mg "range" = none
  z_min : mg "min" = none
  z_repr : mg "repr" = none
  z_isinstance : mg "isinstance" = none
  z_ValueError : mg "ValueError" = none
theorem whole {f : Addr} {fd : FuncData} (T : Top K mg cs fI) (F : Fun K "law" "law" s_law f fd) : FnG P w K mg base 6 f fd p_law (spLaw K) := by
  have t0 : T0 mg := ⟨T.z_len, T.z_max, T.z_abs, T.z_int⟩
  have coin : Cal P w K mg base 1 "_law_pv_coin" p_l_coin spCoin := T.l_coin_.cal fun f fd F => ok_coin F t0
  have sack : Cal P w K mg base 1 "_law_pv_sack" p_l_sack (spSack K) := T.l_sack_.cal fun f fd F => ok_sack F t0
  have mi : Mi P w K mg base fI := by
    obtain ⟨fdI, FI, bI, kI⟩ := T.init
    exact ⟨fdI, ok_TE_init FI, bI, kI⟩
  have thing : Cal P w K mg base 2 "_law_pv_thing" p_l_thing spThing := T.l_thing_.cal fun f fd F => ok_thing F ⟨T.z_len⟩ coin
  have kinds : Cal P w K mg base 1 "_law_pv_kinds" p_l_kinds (spKinds cs) := T.l_kinds_.cal fun f fd F => ok_kinds F T.C
  have kindsP : CalP P w K mg base 1 "_law_pv_kinds" p_l_kinds (spKindsP cs) := by
    obtain ⟨f, oc, dV, kV, doc, pm, cdv, ct, an, od, osl, lk, hcd, hm, hk, hb⟩ := T.kP
    exact ⟨f, _, ok_kindsP lk hcd T.C, hm, hk, hb⟩
  have made : Cal P w K mg base 3 "_law_pv_made" p_l_made (spMade cs) := T.l_made_.cal fun f fd F => ok_made F T.C mi
  have named : Cal P w K mg base 3 "_law_pv_named" p_l_named (spMade cs) := T.l_named_.cal fun f fd F => ok_named F T.C mi
  have caught : Cal P w K mg base 4 "_law_pv_caught" p_l_caught (spCaught cs) := by
    obtain ⟨fT, fdT, FT, mT, kT, bT⟩ := T.l_throw_
    exact T.l_caught_.cal fun f fd F => ok_caught F T.C (ok_throw FT T.C mi) mT kT bT kindsP
  have checked : CalG P w K mg base 5 "_law_pv_checked" p_l_checked spChecked7 := T.l_checked_.calG fun f fd F => ok_checked F ⟨T.z_range, T.z_repr, T.C, coin, thing, kinds, made, named, caught⟩
  exact ok_law F ⟨T.z_range, T.z_len, T.z_max, T.z_min⟩ sack checked
end
end V2


namespace V2
open PySem L2 L2H
open PySem.Spec PyProof.Rows
theorem cls_some {K : PySem.W.Frag} {nm q : Str} {C N : Addr} {bs bm : List Value} {hdct : Bool} {sn : List Str} {sub : List Value} {ab : Bool} {col : Option Bool} {dd : Option Addr} {k0 k1 k2 k3 k5 : Option Value} {newId : String} (h : K.lookup C = some (PySem.excClassObj nm q C N bs bm hdct sn sub ab col dd k0 k1 k2 k3 k5 newId)) : (PySem.W.clsIn K C).isSome = true := by
  unfold PySem.W.clsIn
  rw [h]
  rfl
def csOf (C_0 C_1 C_2 C_3 C_4 C_5 C_6 C_7 C_8 C_9 C_10 C_11 : Addr) : Nat → Addr
  | 0 => C_0
  | 1 => C_1
  | 2 => C_2
  | 3 => C_3
  | 4 => C_4
  | 5 => C_5
  | 6 => C_6
  | 7 => C_7
  | 8 => C_8
  | 9 => C_9
  | 10 => C_10
  | _ => C_11
theorem all_mk {l : PySem.W.OpenLaw} {w : World} {K : PySem.W.Frag} {h : Heap} {mg : Str → Option Value} {fa f_l_sack f_l_coin f_l_thing f_l_kinds f_l_made f_l_named f_l_throw f_l_caught f_l_checked f_lw f_I C_0 C_1 C_2 C_3 C_4 C_5 C_6 C_7 C_8 C_9 C_10 C_11 : Addr}
    {od_l_sack an_l_sack od_l_coin an_l_coin od_l_thing an_l_thing od_l_kinds an_l_kinds od_l_made an_l_made od_l_named an_l_named od_l_throw an_l_throw od_l_caught an_l_caught od_l_checked an_l_checked od_lw an_lw od_I an_I : Option Addr} {sl_l_sack sl_l_coin sl_l_thing sl_l_kinds sl_l_made sl_l_named sl_l_throw sl_l_caught sl_l_checked sl_lw sl_I : Array (Option Value)} {oc_l_sack kV_l_sack dc_l_sack pm_l_sack cd_l_sack ct_l_sack oc_l_coin kV_l_coin dc_l_coin pm_l_coin cd_l_coin ct_l_coin oc_l_thing kV_l_thing dc_l_thing pm_l_thing cd_l_thing ct_l_thing oc_l_kinds kV_l_kinds dc_l_kinds pm_l_kinds cd_l_kinds ct_l_kinds oc_l_made kV_l_made dc_l_made pm_l_made cd_l_made ct_l_made oc_l_named kV_l_named dc_l_named pm_l_named cd_l_named ct_l_named oc_l_throw kV_l_throw dc_l_throw pm_l_throw cd_l_throw ct_l_throw oc_l_caught kV_l_caught dc_l_caught pm_l_caught cd_l_caught ct_l_caught oc_l_checked kV_l_checked dc_l_checked pm_l_checked cd_l_checked ct_l_checked oc_lw kV_lw dc_lw pm_lw cd_lw ct_lw oc_I kV_I dc_I pm_I cd_I ct_I : Value}
    {nm_0 q_0 nm_1 q_1 nm_2 q_2 nm_3 q_3 nm_4 q_4 nm_5 q_5 nm_6 q_6 nm_7 q_7 nm_8 q_8 nm_9 q_9 nm_10 q_10 nm_11 q_11 : Str} {N_0 N_1 N_2 N_3 N_4 N_5 N_6 N_7 N_8 N_9 N_10 N_11 : Addr} {bs_0 bm_0 sub_0 bs_1 bm_1 sub_1 bs_2 bm_2 sub_2 bs_3 bm_3 sub_3 bs_4 bm_4 sub_4 bs_5 bm_5 sub_5 bs_6 bm_6 sub_6 bs_7 bm_7 sub_7 bs_8 bm_8 sub_8 bs_9 bm_9 sub_9 bs_10 bm_10 sub_10 bs_11 bm_11 sub_11 : List Value} {sn_0 sn_1 sn_2 sn_3 sn_4 sn_5 sn_6 sn_7 sn_8 sn_9 sn_10 sn_11 : List Str} {ab_0 ab_1 ab_2 ab_3 ab_4 ab_5 ab_6 ab_7 ab_8 ab_9 ab_10 ab_11 : Bool} {col_0 col_1 col_2 col_3 col_4 col_5 col_6 col_7 col_8 col_9 col_10 col_11 : Option Bool} {dd_0 dd_1 dd_2 dd_3 dd_4 dd_5 dd_6 dd_7 dd_8 dd_9 dd_10 dd_11 : Option Addr} {m0_0 m1_0 m2_0 m3_0 m5_0 m0_1 m1_1 m2_1 m3_1 m5_1 m0_2 m1_2 m2_2 m3_2 m5_2 m0_3 m1_3 m2_3 m3_3 m5_3 m0_4 m1_4 m2_4 m3_4 m5_4 m0_5 m1_5 m2_5 m3_5 m5_5 m0_6 m1_6 m2_6 m3_6 m5_6 m0_7 m1_7 m2_7 m3_7 m5_7 m0_8 m1_8 m2_8 m3_8 m5_8 m0_9 m1_9 m2_9 m3_9 m5_9 m0_10 m1_10 m2_10 m3_10 m5_10 m0_11 m1_11 m2_11 m3_11 m5_11 : Option Value}
    (X : K.In h) (G : h.Ns mainGlobals mg) (hfa : mg "law" = some (.ref fa))
    (a_l_sack : PySem.W.nsIn K mainGlobals "_law_pv_sack" = some (some (.ref f_l_sack)))
    (l_l_sack : K.lookup f_l_sack = some ⟨oc_l_sack, od_l_sack, .func (PySem.W.fnOf "_law_pv_sack" "_law_pv_sack" (defArgs s_l_sack) (defBody s_l_sack) (defScope s_l_sack) .none kV_l_sack dc_l_sack pm_l_sack an_l_sack cd_l_sack ct_l_sack), sl_l_sack⟩)
    (c_l_sack : PySem.W.codeIn K cd_l_sack "_law_pv_sack" = true)
    (k_l_sack : PySem.W.keepIn K (.ref f_l_sack) = true)
    (a_l_coin : PySem.W.nsIn K mainGlobals "_law_pv_coin" = some (some (.ref f_l_coin)))
    (l_l_coin : K.lookup f_l_coin = some ⟨oc_l_coin, od_l_coin, .func (PySem.W.fnOf "_law_pv_coin" "_law_pv_coin" (defArgs s_l_coin) (defBody s_l_coin) (defScope s_l_coin) .none kV_l_coin dc_l_coin pm_l_coin an_l_coin cd_l_coin ct_l_coin), sl_l_coin⟩)
    (c_l_coin : PySem.W.codeIn K cd_l_coin "_law_pv_coin" = true)
    (k_l_coin : PySem.W.keepIn K (.ref f_l_coin) = true)
    (a_l_thing : PySem.W.nsIn K mainGlobals "_law_pv_thing" = some (some (.ref f_l_thing)))
    (l_l_thing : K.lookup f_l_thing = some ⟨oc_l_thing, od_l_thing, .func (PySem.W.fnOf "_law_pv_thing" "_law_pv_thing" (defArgs s_l_thing) (defBody s_l_thing) (defScope s_l_thing) .none kV_l_thing dc_l_thing pm_l_thing an_l_thing cd_l_thing ct_l_thing), sl_l_thing⟩)
    (c_l_thing : PySem.W.codeIn K cd_l_thing "_law_pv_thing" = true)
    (k_l_thing : PySem.W.keepIn K (.ref f_l_thing) = true)
    (a_l_kinds : PySem.W.nsIn K mainGlobals "_law_pv_kinds" = some (some (.ref f_l_kinds)))
    (l_l_kinds : K.lookup f_l_kinds = some ⟨oc_l_kinds, od_l_kinds, .func (PySem.W.fnOf "_law_pv_kinds" "_law_pv_kinds" (defArgs s_l_kinds) (defBody s_l_kinds) (defScope s_l_kinds) .none kV_l_kinds dc_l_kinds pm_l_kinds an_l_kinds cd_l_kinds ct_l_kinds), sl_l_kinds⟩)
    (c_l_kinds : PySem.W.codeIn K cd_l_kinds "_law_pv_kinds" = true)
    (k_l_kinds : PySem.W.keepIn K (.ref f_l_kinds) = true)
    (a_l_made : PySem.W.nsIn K mainGlobals "_law_pv_made" = some (some (.ref f_l_made)))
    (l_l_made : K.lookup f_l_made = some ⟨oc_l_made, od_l_made, .func (PySem.W.fnOf "_law_pv_made" "_law_pv_made" (defArgs s_l_made) (defBody s_l_made) (defScope s_l_made) .none kV_l_made dc_l_made pm_l_made an_l_made cd_l_made ct_l_made), sl_l_made⟩)
    (c_l_made : PySem.W.codeIn K cd_l_made "_law_pv_made" = true)
    (k_l_made : PySem.W.keepIn K (.ref f_l_made) = true)
    (a_l_named : PySem.W.nsIn K mainGlobals "_law_pv_named" = some (some (.ref f_l_named)))
    (l_l_named : K.lookup f_l_named = some ⟨oc_l_named, od_l_named, .func (PySem.W.fnOf "_law_pv_named" "_law_pv_named" (defArgs s_l_named) (defBody s_l_named) (defScope s_l_named) .none kV_l_named dc_l_named pm_l_named an_l_named cd_l_named ct_l_named), sl_l_named⟩)
    (c_l_named : PySem.W.codeIn K cd_l_named "_law_pv_named" = true)
    (k_l_named : PySem.W.keepIn K (.ref f_l_named) = true)
    (a_l_throw : PySem.W.nsIn K mainGlobals "_law_pv_throw" = some (some (.ref f_l_throw)))
    (l_l_throw : K.lookup f_l_throw = some ⟨oc_l_throw, od_l_throw, .func (PySem.W.fnOf "_law_pv_throw" "_law_pv_throw" (defArgs s_l_throw) (defBody s_l_throw) (defScope s_l_throw) .none kV_l_throw dc_l_throw pm_l_throw an_l_throw cd_l_throw ct_l_throw), sl_l_throw⟩)
    (c_l_throw : PySem.W.codeIn K cd_l_throw "_law_pv_throw" = true)
    (k_l_throw : PySem.W.keepIn K (.ref f_l_throw) = true)
    (a_l_caught : PySem.W.nsIn K mainGlobals "_law_pv_caught" = some (some (.ref f_l_caught)))
    (l_l_caught : K.lookup f_l_caught = some ⟨oc_l_caught, od_l_caught, .func (PySem.W.fnOf "_law_pv_caught" "_law_pv_caught" (defArgs s_l_caught) (defBody s_l_caught) (defScope s_l_caught) .none kV_l_caught dc_l_caught pm_l_caught an_l_caught cd_l_caught ct_l_caught), sl_l_caught⟩)
    (c_l_caught : PySem.W.codeIn K cd_l_caught "_law_pv_caught" = true)
    (k_l_caught : PySem.W.keepIn K (.ref f_l_caught) = true)
    (a_l_checked : PySem.W.nsIn K mainGlobals "_law_pv_checked" = some (some (.ref f_l_checked)))
    (l_l_checked : K.lookup f_l_checked = some ⟨oc_l_checked, od_l_checked, .func (PySem.W.fnOf "_law_pv_checked" "_law_pv_checked" (defArgs s_l_checked) (defBody s_l_checked) (defScope s_l_checked) .none kV_l_checked dc_l_checked pm_l_checked an_l_checked cd_l_checked ct_l_checked), sl_l_checked⟩)
    (c_l_checked : PySem.W.codeIn K cd_l_checked "_law_pv_checked" = true)
    (k_l_checked : PySem.W.keepIn K (.ref f_l_checked) = true)
    (a_lw : PySem.W.nsIn K mainGlobals "law" = some (some (.ref f_lw)))
    (l_lw : K.lookup f_lw = some ⟨oc_lw, od_lw, .func (PySem.W.fnOf "law" "law" (defArgs s_law) (defBody s_law) (defScope s_law) .none kV_lw dc_lw pm_lw an_lw cd_lw ct_lw), sl_lw⟩)
    (c_lw : PySem.W.codeIn K cd_lw "law" = true)
    (k_lw : PySem.W.keepIn K (.ref f_lw) = true)
    (g_0 : PySem.W.nsIn K mainGlobals "InvalidTank" = some (some (.ref C_0)))
    (g_1 : PySem.W.nsIn K mainGlobals "InvalidStep" = some (some (.ref C_1)))
    (g_2 : PySem.W.nsIn K mainGlobals "UnknownTank" = some (some (.ref C_2)))
    (g_3 : PySem.W.nsIn K mainGlobals "UnknownStep" = some (some (.ref C_3)))
    (g_4 : PySem.W.nsIn K mainGlobals "InvalidFraction" = some (some (.ref C_4)))
    (g_5 : PySem.W.nsIn K mainGlobals "InvalidPolynomial" = some (some (.ref C_5)))
    (g_6 : PySem.W.nsIn K mainGlobals "InvalidPlace" = some (some (.ref C_6)))
    (g_7 : PySem.W.nsIn K mainGlobals "InvalidRange" = some (some (.ref C_7)))
    (g_8 : PySem.W.nsIn K mainGlobals "InvalidClaim" = some (some (.ref C_8)))
    (g_9 : PySem.W.nsIn K mainGlobals "NothingToUndo" = some (some (.ref C_9)))
    (g_10 : PySem.W.nsIn K mainGlobals "Unreadable" = some (some (.ref C_10)))
    (g_11 : PySem.W.nsIn K mainGlobals "TankError" = some (some (.ref C_11)))
    (i_11 : PySem.W.findIn K (.ref C_11) "__init__" = some (some (.ref f_I)))
    (l_I : K.lookup f_I = some ⟨oc_I, od_I, .func (PySem.W.fnOf "__init__" "TankError.__init__" (defArgs s_TE_init) (defBody s_TE_init) (defScope s_TE_init) .none kV_I dc_I pm_I an_I cd_I ct_I), sl_I⟩)
    (c_I : PySem.W.codeIn K cd_I "TankError.__init__" = true)
    (k_I : PySem.W.keepIn K (.ref f_I) = true)
    (t_I : PySem.W.typeIn K (.ref f_I) = some (.type "function"))
    (o_n : PySem.W.specialIn K (.builtin "object.__class__") "__get__" = some (some (.builtin "getset_descriptor.__get__")))
    (o_t : PySem.W.takesIn K (.builtin "object.__class__") = some true)
    (x_0 : K.lookup C_0 = some (PySem.excClassObj nm_0 q_0 C_0 N_0 bs_0 bm_0 true sn_0 sub_0 ab_0 col_0 dd_0 m0_0 m1_0 m2_0 m3_0 m5_0 "ValueError.__new__"))
    (r_0 : PySem.HandSPX.refsVE bm_0 = true)
    (sa_0 : PySem.W.findIn K (.ref C_0) "__setattr__" = some (some (.builtin "object.__setattr__")))
    (ga_0 : PySem.W.findIn K (.ref C_0) "__getattribute__" = some (some (.builtin "BaseException.__getattribute__")))
    (gg_0 : PySem.W.findIn K (.ref C_0) "__getattr__" = some none)
    (nv_0 : PySem.W.findIn K (.ref C_0) "value" = some none)
    (i_0 : PySem.W.findIn K (.ref C_0) "__init__" = some (some (.ref f_I)))
    (kc_0 : PySem.W.keepIn K (.ref C_0) = true)
    (ec_0 : PySem.W.subIn K (.ref C_0) (.type "BaseException") = some true)
    (tc_0 : PySem.W.typeIn K (.ref C_0) = some (.type "type"))
    (hd_0 : PySem.W.hasDictIn K C_0 = true)
    (ha_0 : PySem.W.findIn K (.ref C_0) "__class__" = some (some (.builtin "object.__class__")))
    (hm_0 : PySem.W.mroIn K C_0 (.type "object") = some true)
    (sb_0 : PySem.W.subIn K (.ref C_0) (.ref C_11) = some true)
    (iv_0 : PySem.W.kitOne K (.ref C_0) (.type "ValueError") = some true)
    (x_1 : K.lookup C_1 = some (PySem.excClassObj nm_1 q_1 C_1 N_1 bs_1 bm_1 true sn_1 sub_1 ab_1 col_1 dd_1 m0_1 m1_1 m2_1 m3_1 m5_1 "ValueError.__new__"))
    (r_1 : PySem.HandSPX.refsVE bm_1 = true)
    (sa_1 : PySem.W.findIn K (.ref C_1) "__setattr__" = some (some (.builtin "object.__setattr__")))
    (ga_1 : PySem.W.findIn K (.ref C_1) "__getattribute__" = some (some (.builtin "BaseException.__getattribute__")))
    (gg_1 : PySem.W.findIn K (.ref C_1) "__getattr__" = some none)
    (nv_1 : PySem.W.findIn K (.ref C_1) "value" = some none)
    (i_1 : PySem.W.findIn K (.ref C_1) "__init__" = some (some (.ref f_I)))
    (kc_1 : PySem.W.keepIn K (.ref C_1) = true)
    (ec_1 : PySem.W.subIn K (.ref C_1) (.type "BaseException") = some true)
    (tc_1 : PySem.W.typeIn K (.ref C_1) = some (.type "type"))
    (hd_1 : PySem.W.hasDictIn K C_1 = true)
    (ha_1 : PySem.W.findIn K (.ref C_1) "__class__" = some (some (.builtin "object.__class__")))
    (hm_1 : PySem.W.mroIn K C_1 (.type "object") = some true)
    (sb_1 : PySem.W.subIn K (.ref C_1) (.ref C_11) = some true)
    (iv_1 : PySem.W.kitOne K (.ref C_1) (.type "ValueError") = some true)
    (x_2 : K.lookup C_2 = some (PySem.excClassObj nm_2 q_2 C_2 N_2 bs_2 bm_2 true sn_2 sub_2 ab_2 col_2 dd_2 m0_2 m1_2 m2_2 m3_2 m5_2 "ValueError.__new__"))
    (r_2 : PySem.HandSPX.refsVE bm_2 = true)
    (sa_2 : PySem.W.findIn K (.ref C_2) "__setattr__" = some (some (.builtin "object.__setattr__")))
    (ga_2 : PySem.W.findIn K (.ref C_2) "__getattribute__" = some (some (.builtin "BaseException.__getattribute__")))
    (gg_2 : PySem.W.findIn K (.ref C_2) "__getattr__" = some none)
    (nv_2 : PySem.W.findIn K (.ref C_2) "value" = some none)
    (i_2 : PySem.W.findIn K (.ref C_2) "__init__" = some (some (.ref f_I)))
    (kc_2 : PySem.W.keepIn K (.ref C_2) = true)
    (ec_2 : PySem.W.subIn K (.ref C_2) (.type "BaseException") = some true)
    (tc_2 : PySem.W.typeIn K (.ref C_2) = some (.type "type"))
    (hd_2 : PySem.W.hasDictIn K C_2 = true)
    (ha_2 : PySem.W.findIn K (.ref C_2) "__class__" = some (some (.builtin "object.__class__")))
    (hm_2 : PySem.W.mroIn K C_2 (.type "object") = some true)
    (sb_2 : PySem.W.subIn K (.ref C_2) (.ref C_11) = some true)
    (iv_2 : PySem.W.kitOne K (.ref C_2) (.type "ValueError") = some true)
    (x_3 : K.lookup C_3 = some (PySem.excClassObj nm_3 q_3 C_3 N_3 bs_3 bm_3 true sn_3 sub_3 ab_3 col_3 dd_3 m0_3 m1_3 m2_3 m3_3 m5_3 "ValueError.__new__"))
    (r_3 : PySem.HandSPX.refsVE bm_3 = true)
    (sa_3 : PySem.W.findIn K (.ref C_3) "__setattr__" = some (some (.builtin "object.__setattr__")))
    (ga_3 : PySem.W.findIn K (.ref C_3) "__getattribute__" = some (some (.builtin "BaseException.__getattribute__")))
    (gg_3 : PySem.W.findIn K (.ref C_3) "__getattr__" = some none)
    (nv_3 : PySem.W.findIn K (.ref C_3) "value" = some none)
    (i_3 : PySem.W.findIn K (.ref C_3) "__init__" = some (some (.ref f_I)))
    (kc_3 : PySem.W.keepIn K (.ref C_3) = true)
    (ec_3 : PySem.W.subIn K (.ref C_3) (.type "BaseException") = some true)
    (tc_3 : PySem.W.typeIn K (.ref C_3) = some (.type "type"))
    (hd_3 : PySem.W.hasDictIn K C_3 = true)
    (ha_3 : PySem.W.findIn K (.ref C_3) "__class__" = some (some (.builtin "object.__class__")))
    (hm_3 : PySem.W.mroIn K C_3 (.type "object") = some true)
    (sb_3 : PySem.W.subIn K (.ref C_3) (.ref C_11) = some true)
    (iv_3 : PySem.W.kitOne K (.ref C_3) (.type "ValueError") = some true)
    (x_4 : K.lookup C_4 = some (PySem.excClassObj nm_4 q_4 C_4 N_4 bs_4 bm_4 true sn_4 sub_4 ab_4 col_4 dd_4 m0_4 m1_4 m2_4 m3_4 m5_4 "ValueError.__new__"))
    (r_4 : PySem.HandSPX.refsVE bm_4 = true)
    (sa_4 : PySem.W.findIn K (.ref C_4) "__setattr__" = some (some (.builtin "object.__setattr__")))
    (ga_4 : PySem.W.findIn K (.ref C_4) "__getattribute__" = some (some (.builtin "BaseException.__getattribute__")))
    (gg_4 : PySem.W.findIn K (.ref C_4) "__getattr__" = some none)
    (nv_4 : PySem.W.findIn K (.ref C_4) "value" = some none)
    (i_4 : PySem.W.findIn K (.ref C_4) "__init__" = some (some (.ref f_I)))
    (kc_4 : PySem.W.keepIn K (.ref C_4) = true)
    (ec_4 : PySem.W.subIn K (.ref C_4) (.type "BaseException") = some true)
    (tc_4 : PySem.W.typeIn K (.ref C_4) = some (.type "type"))
    (hd_4 : PySem.W.hasDictIn K C_4 = true)
    (ha_4 : PySem.W.findIn K (.ref C_4) "__class__" = some (some (.builtin "object.__class__")))
    (hm_4 : PySem.W.mroIn K C_4 (.type "object") = some true)
    (sb_4 : PySem.W.subIn K (.ref C_4) (.ref C_11) = some true)
    (iv_4 : PySem.W.kitOne K (.ref C_4) (.type "ValueError") = some true)
    (x_5 : K.lookup C_5 = some (PySem.excClassObj nm_5 q_5 C_5 N_5 bs_5 bm_5 true sn_5 sub_5 ab_5 col_5 dd_5 m0_5 m1_5 m2_5 m3_5 m5_5 "ValueError.__new__"))
    (r_5 : PySem.HandSPX.refsVE bm_5 = true)
    (sa_5 : PySem.W.findIn K (.ref C_5) "__setattr__" = some (some (.builtin "object.__setattr__")))
    (ga_5 : PySem.W.findIn K (.ref C_5) "__getattribute__" = some (some (.builtin "BaseException.__getattribute__")))
    (gg_5 : PySem.W.findIn K (.ref C_5) "__getattr__" = some none)
    (nv_5 : PySem.W.findIn K (.ref C_5) "value" = some none)
    (i_5 : PySem.W.findIn K (.ref C_5) "__init__" = some (some (.ref f_I)))
    (kc_5 : PySem.W.keepIn K (.ref C_5) = true)
    (ec_5 : PySem.W.subIn K (.ref C_5) (.type "BaseException") = some true)
    (tc_5 : PySem.W.typeIn K (.ref C_5) = some (.type "type"))
    (hd_5 : PySem.W.hasDictIn K C_5 = true)
    (ha_5 : PySem.W.findIn K (.ref C_5) "__class__" = some (some (.builtin "object.__class__")))
    (hm_5 : PySem.W.mroIn K C_5 (.type "object") = some true)
    (sb_5 : PySem.W.subIn K (.ref C_5) (.ref C_11) = some true)
    (iv_5 : PySem.W.kitOne K (.ref C_5) (.type "ValueError") = some true)
    (x_6 : K.lookup C_6 = some (PySem.excClassObj nm_6 q_6 C_6 N_6 bs_6 bm_6 true sn_6 sub_6 ab_6 col_6 dd_6 m0_6 m1_6 m2_6 m3_6 m5_6 "ValueError.__new__"))
    (r_6 : PySem.HandSPX.refsVE bm_6 = true)
    (sa_6 : PySem.W.findIn K (.ref C_6) "__setattr__" = some (some (.builtin "object.__setattr__")))
    (ga_6 : PySem.W.findIn K (.ref C_6) "__getattribute__" = some (some (.builtin "BaseException.__getattribute__")))
    (gg_6 : PySem.W.findIn K (.ref C_6) "__getattr__" = some none)
    (nv_6 : PySem.W.findIn K (.ref C_6) "value" = some none)
    (i_6 : PySem.W.findIn K (.ref C_6) "__init__" = some (some (.ref f_I)))
    (kc_6 : PySem.W.keepIn K (.ref C_6) = true)
    (ec_6 : PySem.W.subIn K (.ref C_6) (.type "BaseException") = some true)
    (tc_6 : PySem.W.typeIn K (.ref C_6) = some (.type "type"))
    (hd_6 : PySem.W.hasDictIn K C_6 = true)
    (ha_6 : PySem.W.findIn K (.ref C_6) "__class__" = some (some (.builtin "object.__class__")))
    (hm_6 : PySem.W.mroIn K C_6 (.type "object") = some true)
    (sb_6 : PySem.W.subIn K (.ref C_6) (.ref C_11) = some true)
    (iv_6 : PySem.W.kitOne K (.ref C_6) (.type "ValueError") = some true)
    (x_7 : K.lookup C_7 = some (PySem.excClassObj nm_7 q_7 C_7 N_7 bs_7 bm_7 true sn_7 sub_7 ab_7 col_7 dd_7 m0_7 m1_7 m2_7 m3_7 m5_7 "ValueError.__new__"))
    (r_7 : PySem.HandSPX.refsVE bm_7 = true)
    (sa_7 : PySem.W.findIn K (.ref C_7) "__setattr__" = some (some (.builtin "object.__setattr__")))
    (ga_7 : PySem.W.findIn K (.ref C_7) "__getattribute__" = some (some (.builtin "BaseException.__getattribute__")))
    (gg_7 : PySem.W.findIn K (.ref C_7) "__getattr__" = some none)
    (nv_7 : PySem.W.findIn K (.ref C_7) "value" = some none)
    (i_7 : PySem.W.findIn K (.ref C_7) "__init__" = some (some (.ref f_I)))
    (kc_7 : PySem.W.keepIn K (.ref C_7) = true)
    (ec_7 : PySem.W.subIn K (.ref C_7) (.type "BaseException") = some true)
    (tc_7 : PySem.W.typeIn K (.ref C_7) = some (.type "type"))
    (hd_7 : PySem.W.hasDictIn K C_7 = true)
    (ha_7 : PySem.W.findIn K (.ref C_7) "__class__" = some (some (.builtin "object.__class__")))
    (hm_7 : PySem.W.mroIn K C_7 (.type "object") = some true)
    (sb_7 : PySem.W.subIn K (.ref C_7) (.ref C_11) = some true)
    (iv_7 : PySem.W.kitOne K (.ref C_7) (.type "ValueError") = some true)
    (x_8 : K.lookup C_8 = some (PySem.excClassObj nm_8 q_8 C_8 N_8 bs_8 bm_8 true sn_8 sub_8 ab_8 col_8 dd_8 m0_8 m1_8 m2_8 m3_8 m5_8 "ValueError.__new__"))
    (r_8 : PySem.HandSPX.refsVE bm_8 = true)
    (sa_8 : PySem.W.findIn K (.ref C_8) "__setattr__" = some (some (.builtin "object.__setattr__")))
    (ga_8 : PySem.W.findIn K (.ref C_8) "__getattribute__" = some (some (.builtin "BaseException.__getattribute__")))
    (gg_8 : PySem.W.findIn K (.ref C_8) "__getattr__" = some none)
    (nv_8 : PySem.W.findIn K (.ref C_8) "value" = some none)
    (i_8 : PySem.W.findIn K (.ref C_8) "__init__" = some (some (.ref f_I)))
    (kc_8 : PySem.W.keepIn K (.ref C_8) = true)
    (ec_8 : PySem.W.subIn K (.ref C_8) (.type "BaseException") = some true)
    (tc_8 : PySem.W.typeIn K (.ref C_8) = some (.type "type"))
    (hd_8 : PySem.W.hasDictIn K C_8 = true)
    (ha_8 : PySem.W.findIn K (.ref C_8) "__class__" = some (some (.builtin "object.__class__")))
    (hm_8 : PySem.W.mroIn K C_8 (.type "object") = some true)
    (sb_8 : PySem.W.subIn K (.ref C_8) (.ref C_11) = some true)
    (iv_8 : PySem.W.kitOne K (.ref C_8) (.type "ValueError") = some true)
    (x_9 : K.lookup C_9 = some (PySem.excClassObj nm_9 q_9 C_9 N_9 bs_9 bm_9 true sn_9 sub_9 ab_9 col_9 dd_9 m0_9 m1_9 m2_9 m3_9 m5_9 "ValueError.__new__"))
    (r_9 : PySem.HandSPX.refsVE bm_9 = true)
    (sa_9 : PySem.W.findIn K (.ref C_9) "__setattr__" = some (some (.builtin "object.__setattr__")))
    (ga_9 : PySem.W.findIn K (.ref C_9) "__getattribute__" = some (some (.builtin "BaseException.__getattribute__")))
    (gg_9 : PySem.W.findIn K (.ref C_9) "__getattr__" = some none)
    (nv_9 : PySem.W.findIn K (.ref C_9) "value" = some none)
    (i_9 : PySem.W.findIn K (.ref C_9) "__init__" = some (some (.ref f_I)))
    (kc_9 : PySem.W.keepIn K (.ref C_9) = true)
    (ec_9 : PySem.W.subIn K (.ref C_9) (.type "BaseException") = some true)
    (tc_9 : PySem.W.typeIn K (.ref C_9) = some (.type "type"))
    (hd_9 : PySem.W.hasDictIn K C_9 = true)
    (ha_9 : PySem.W.findIn K (.ref C_9) "__class__" = some (some (.builtin "object.__class__")))
    (hm_9 : PySem.W.mroIn K C_9 (.type "object") = some true)
    (sb_9 : PySem.W.subIn K (.ref C_9) (.ref C_11) = some true)
    (iv_9 : PySem.W.kitOne K (.ref C_9) (.type "ValueError") = some true)
    (x_10 : K.lookup C_10 = some (PySem.excClassObj nm_10 q_10 C_10 N_10 bs_10 bm_10 true sn_10 sub_10 ab_10 col_10 dd_10 m0_10 m1_10 m2_10 m3_10 m5_10 "ValueError.__new__"))
    (r_10 : PySem.HandSPX.refsVE bm_10 = true)
    (sa_10 : PySem.W.findIn K (.ref C_10) "__setattr__" = some (some (.builtin "object.__setattr__")))
    (ga_10 : PySem.W.findIn K (.ref C_10) "__getattribute__" = some (some (.builtin "BaseException.__getattribute__")))
    (gg_10 : PySem.W.findIn K (.ref C_10) "__getattr__" = some none)
    (nv_10 : PySem.W.findIn K (.ref C_10) "value" = some none)
    (i_10 : PySem.W.findIn K (.ref C_10) "__init__" = some (some (.ref f_I)))
    (kc_10 : PySem.W.keepIn K (.ref C_10) = true)
    (ec_10 : PySem.W.subIn K (.ref C_10) (.type "BaseException") = some true)
    (tc_10 : PySem.W.typeIn K (.ref C_10) = some (.type "type"))
    (hd_10 : PySem.W.hasDictIn K C_10 = true)
    (ha_10 : PySem.W.findIn K (.ref C_10) "__class__" = some (some (.builtin "object.__class__")))
    (hm_10 : PySem.W.mroIn K C_10 (.type "object") = some true)
    (sb_10 : PySem.W.subIn K (.ref C_10) (.ref C_11) = some true)
    (iv_10 : PySem.W.kitOne K (.ref C_10) (.type "ValueError") = some true)
    (x_11 : K.lookup C_11 = some (PySem.excClassObj nm_11 q_11 C_11 N_11 bs_11 bm_11 true sn_11 sub_11 ab_11 col_11 dd_11 m0_11 m1_11 m2_11 m3_11 m5_11 "ValueError.__new__"))
    (r_11 : PySem.HandSPX.refsVE bm_11 = true)
    (sa_11 : PySem.W.findIn K (.ref C_11) "__setattr__" = some (some (.builtin "object.__setattr__")))
    (ga_11 : PySem.W.findIn K (.ref C_11) "__getattribute__" = some (some (.builtin "BaseException.__getattribute__")))
    (gg_11 : PySem.W.findIn K (.ref C_11) "__getattr__" = some none)
    (nv_11 : PySem.W.findIn K (.ref C_11) "value" = some none)
    (kc_11 : PySem.W.keepIn K (.ref C_11) = true)
    (ec_11 : PySem.W.subIn K (.ref C_11) (.type "BaseException") = some true)
    (tc_11 : PySem.W.typeIn K (.ref C_11) = some (.type "type"))
    (hd_11 : PySem.W.hasDictIn K C_11 = true)
    (ha_11 : PySem.W.findIn K (.ref C_11) "__class__" = some (some (.builtin "object.__class__")))
    (hm_11 : PySem.W.mroIn K C_11 (.type "object") = some true)
    (sb_11 : PySem.W.subIn K (.ref C_11) (.ref C_11) = some true)
    (iv_11 : PySem.W.kitOne K (.ref C_11) (.type "ValueError") = some true)
    (is_0_0 : PySem.W.kitOne K (.ref C_0) (.ref C_0) = some true)
    (is_0_1 : PySem.W.kitOne K (.ref C_0) (.ref C_1) = some false)
    (is_0_2 : PySem.W.kitOne K (.ref C_0) (.ref C_2) = some false)
    (is_0_3 : PySem.W.kitOne K (.ref C_0) (.ref C_3) = some false)
    (is_0_4 : PySem.W.kitOne K (.ref C_0) (.ref C_4) = some false)
    (is_0_5 : PySem.W.kitOne K (.ref C_0) (.ref C_5) = some false)
    (is_0_6 : PySem.W.kitOne K (.ref C_0) (.ref C_6) = some false)
    (is_0_7 : PySem.W.kitOne K (.ref C_0) (.ref C_7) = some false)
    (is_0_8 : PySem.W.kitOne K (.ref C_0) (.ref C_8) = some false)
    (is_0_9 : PySem.W.kitOne K (.ref C_0) (.ref C_9) = some false)
    (is_0_10 : PySem.W.kitOne K (.ref C_0) (.ref C_10) = some false)
    (is_0_11 : PySem.W.kitOne K (.ref C_0) (.ref C_11) = some true)
    (is_1_0 : PySem.W.kitOne K (.ref C_1) (.ref C_0) = some false)
    (is_1_1 : PySem.W.kitOne K (.ref C_1) (.ref C_1) = some true)
    (is_1_2 : PySem.W.kitOne K (.ref C_1) (.ref C_2) = some false)
    (is_1_3 : PySem.W.kitOne K (.ref C_1) (.ref C_3) = some false)
    (is_1_4 : PySem.W.kitOne K (.ref C_1) (.ref C_4) = some false)
    (is_1_5 : PySem.W.kitOne K (.ref C_1) (.ref C_5) = some false)
    (is_1_6 : PySem.W.kitOne K (.ref C_1) (.ref C_6) = some false)
    (is_1_7 : PySem.W.kitOne K (.ref C_1) (.ref C_7) = some false)
    (is_1_8 : PySem.W.kitOne K (.ref C_1) (.ref C_8) = some false)
    (is_1_9 : PySem.W.kitOne K (.ref C_1) (.ref C_9) = some false)
    (is_1_10 : PySem.W.kitOne K (.ref C_1) (.ref C_10) = some false)
    (is_1_11 : PySem.W.kitOne K (.ref C_1) (.ref C_11) = some true)
    (is_2_0 : PySem.W.kitOne K (.ref C_2) (.ref C_0) = some false)
    (is_2_1 : PySem.W.kitOne K (.ref C_2) (.ref C_1) = some false)
    (is_2_2 : PySem.W.kitOne K (.ref C_2) (.ref C_2) = some true)
    (is_2_3 : PySem.W.kitOne K (.ref C_2) (.ref C_3) = some false)
    (is_2_4 : PySem.W.kitOne K (.ref C_2) (.ref C_4) = some false)
    (is_2_5 : PySem.W.kitOne K (.ref C_2) (.ref C_5) = some false)
    (is_2_6 : PySem.W.kitOne K (.ref C_2) (.ref C_6) = some false)
    (is_2_7 : PySem.W.kitOne K (.ref C_2) (.ref C_7) = some false)
    (is_2_8 : PySem.W.kitOne K (.ref C_2) (.ref C_8) = some false)
    (is_2_9 : PySem.W.kitOne K (.ref C_2) (.ref C_9) = some false)
    (is_2_10 : PySem.W.kitOne K (.ref C_2) (.ref C_10) = some false)
    (is_2_11 : PySem.W.kitOne K (.ref C_2) (.ref C_11) = some true)
    (is_3_0 : PySem.W.kitOne K (.ref C_3) (.ref C_0) = some false)
    (is_3_1 : PySem.W.kitOne K (.ref C_3) (.ref C_1) = some false)
    (is_3_2 : PySem.W.kitOne K (.ref C_3) (.ref C_2) = some false)
    (is_3_3 : PySem.W.kitOne K (.ref C_3) (.ref C_3) = some true)
    (is_3_4 : PySem.W.kitOne K (.ref C_3) (.ref C_4) = some false)
    (is_3_5 : PySem.W.kitOne K (.ref C_3) (.ref C_5) = some false)
    (is_3_6 : PySem.W.kitOne K (.ref C_3) (.ref C_6) = some false)
    (is_3_7 : PySem.W.kitOne K (.ref C_3) (.ref C_7) = some false)
    (is_3_8 : PySem.W.kitOne K (.ref C_3) (.ref C_8) = some false)
    (is_3_9 : PySem.W.kitOne K (.ref C_3) (.ref C_9) = some false)
    (is_3_10 : PySem.W.kitOne K (.ref C_3) (.ref C_10) = some false)
    (is_3_11 : PySem.W.kitOne K (.ref C_3) (.ref C_11) = some true)
    (is_4_0 : PySem.W.kitOne K (.ref C_4) (.ref C_0) = some false)
    (is_4_1 : PySem.W.kitOne K (.ref C_4) (.ref C_1) = some false)
    (is_4_2 : PySem.W.kitOne K (.ref C_4) (.ref C_2) = some false)
    (is_4_3 : PySem.W.kitOne K (.ref C_4) (.ref C_3) = some false)
    (is_4_4 : PySem.W.kitOne K (.ref C_4) (.ref C_4) = some true)
    (is_4_5 : PySem.W.kitOne K (.ref C_4) (.ref C_5) = some false)
    (is_4_6 : PySem.W.kitOne K (.ref C_4) (.ref C_6) = some false)
    (is_4_7 : PySem.W.kitOne K (.ref C_4) (.ref C_7) = some false)
    (is_4_8 : PySem.W.kitOne K (.ref C_4) (.ref C_8) = some false)
    (is_4_9 : PySem.W.kitOne K (.ref C_4) (.ref C_9) = some false)
    (is_4_10 : PySem.W.kitOne K (.ref C_4) (.ref C_10) = some false)
    (is_4_11 : PySem.W.kitOne K (.ref C_4) (.ref C_11) = some true)
    (is_5_0 : PySem.W.kitOne K (.ref C_5) (.ref C_0) = some false)
    (is_5_1 : PySem.W.kitOne K (.ref C_5) (.ref C_1) = some false)
    (is_5_2 : PySem.W.kitOne K (.ref C_5) (.ref C_2) = some false)
    (is_5_3 : PySem.W.kitOne K (.ref C_5) (.ref C_3) = some false)
    (is_5_4 : PySem.W.kitOne K (.ref C_5) (.ref C_4) = some false)
    (is_5_5 : PySem.W.kitOne K (.ref C_5) (.ref C_5) = some true)
    (is_5_6 : PySem.W.kitOne K (.ref C_5) (.ref C_6) = some false)
    (is_5_7 : PySem.W.kitOne K (.ref C_5) (.ref C_7) = some false)
    (is_5_8 : PySem.W.kitOne K (.ref C_5) (.ref C_8) = some false)
    (is_5_9 : PySem.W.kitOne K (.ref C_5) (.ref C_9) = some false)
    (is_5_10 : PySem.W.kitOne K (.ref C_5) (.ref C_10) = some false)
    (is_5_11 : PySem.W.kitOne K (.ref C_5) (.ref C_11) = some true)
    (is_6_0 : PySem.W.kitOne K (.ref C_6) (.ref C_0) = some false)
    (is_6_1 : PySem.W.kitOne K (.ref C_6) (.ref C_1) = some false)
    (is_6_2 : PySem.W.kitOne K (.ref C_6) (.ref C_2) = some false)
    (is_6_3 : PySem.W.kitOne K (.ref C_6) (.ref C_3) = some false)
    (is_6_4 : PySem.W.kitOne K (.ref C_6) (.ref C_4) = some false)
    (is_6_5 : PySem.W.kitOne K (.ref C_6) (.ref C_5) = some false)
    (is_6_6 : PySem.W.kitOne K (.ref C_6) (.ref C_6) = some true)
    (is_6_7 : PySem.W.kitOne K (.ref C_6) (.ref C_7) = some false)
    (is_6_8 : PySem.W.kitOne K (.ref C_6) (.ref C_8) = some false)
    (is_6_9 : PySem.W.kitOne K (.ref C_6) (.ref C_9) = some false)
    (is_6_10 : PySem.W.kitOne K (.ref C_6) (.ref C_10) = some false)
    (is_6_11 : PySem.W.kitOne K (.ref C_6) (.ref C_11) = some true)
    (is_7_0 : PySem.W.kitOne K (.ref C_7) (.ref C_0) = some false)
    (is_7_1 : PySem.W.kitOne K (.ref C_7) (.ref C_1) = some false)
    (is_7_2 : PySem.W.kitOne K (.ref C_7) (.ref C_2) = some false)
    (is_7_3 : PySem.W.kitOne K (.ref C_7) (.ref C_3) = some false)
    (is_7_4 : PySem.W.kitOne K (.ref C_7) (.ref C_4) = some false)
    (is_7_5 : PySem.W.kitOne K (.ref C_7) (.ref C_5) = some false)
    (is_7_6 : PySem.W.kitOne K (.ref C_7) (.ref C_6) = some false)
    (is_7_7 : PySem.W.kitOne K (.ref C_7) (.ref C_7) = some true)
    (is_7_8 : PySem.W.kitOne K (.ref C_7) (.ref C_8) = some false)
    (is_7_9 : PySem.W.kitOne K (.ref C_7) (.ref C_9) = some false)
    (is_7_10 : PySem.W.kitOne K (.ref C_7) (.ref C_10) = some false)
    (is_7_11 : PySem.W.kitOne K (.ref C_7) (.ref C_11) = some true)
    (is_8_0 : PySem.W.kitOne K (.ref C_8) (.ref C_0) = some false)
    (is_8_1 : PySem.W.kitOne K (.ref C_8) (.ref C_1) = some false)
    (is_8_2 : PySem.W.kitOne K (.ref C_8) (.ref C_2) = some false)
    (is_8_3 : PySem.W.kitOne K (.ref C_8) (.ref C_3) = some false)
    (is_8_4 : PySem.W.kitOne K (.ref C_8) (.ref C_4) = some false)
    (is_8_5 : PySem.W.kitOne K (.ref C_8) (.ref C_5) = some false)
    (is_8_6 : PySem.W.kitOne K (.ref C_8) (.ref C_6) = some false)
    (is_8_7 : PySem.W.kitOne K (.ref C_8) (.ref C_7) = some false)
    (is_8_8 : PySem.W.kitOne K (.ref C_8) (.ref C_8) = some true)
    (is_8_9 : PySem.W.kitOne K (.ref C_8) (.ref C_9) = some false)
    (is_8_10 : PySem.W.kitOne K (.ref C_8) (.ref C_10) = some false)
    (is_8_11 : PySem.W.kitOne K (.ref C_8) (.ref C_11) = some true)
    (is_9_0 : PySem.W.kitOne K (.ref C_9) (.ref C_0) = some false)
    (is_9_1 : PySem.W.kitOne K (.ref C_9) (.ref C_1) = some false)
    (is_9_2 : PySem.W.kitOne K (.ref C_9) (.ref C_2) = some false)
    (is_9_3 : PySem.W.kitOne K (.ref C_9) (.ref C_3) = some false)
    (is_9_4 : PySem.W.kitOne K (.ref C_9) (.ref C_4) = some false)
    (is_9_5 : PySem.W.kitOne K (.ref C_9) (.ref C_5) = some false)
    (is_9_6 : PySem.W.kitOne K (.ref C_9) (.ref C_6) = some false)
    (is_9_7 : PySem.W.kitOne K (.ref C_9) (.ref C_7) = some false)
    (is_9_8 : PySem.W.kitOne K (.ref C_9) (.ref C_8) = some false)
    (is_9_9 : PySem.W.kitOne K (.ref C_9) (.ref C_9) = some true)
    (is_9_10 : PySem.W.kitOne K (.ref C_9) (.ref C_10) = some false)
    (is_9_11 : PySem.W.kitOne K (.ref C_9) (.ref C_11) = some true)
    (is_10_0 : PySem.W.kitOne K (.ref C_10) (.ref C_0) = some false)
    (is_10_1 : PySem.W.kitOne K (.ref C_10) (.ref C_1) = some false)
    (is_10_2 : PySem.W.kitOne K (.ref C_10) (.ref C_2) = some false)
    (is_10_3 : PySem.W.kitOne K (.ref C_10) (.ref C_3) = some false)
    (is_10_4 : PySem.W.kitOne K (.ref C_10) (.ref C_4) = some false)
    (is_10_5 : PySem.W.kitOne K (.ref C_10) (.ref C_5) = some false)
    (is_10_6 : PySem.W.kitOne K (.ref C_10) (.ref C_6) = some false)
    (is_10_7 : PySem.W.kitOne K (.ref C_10) (.ref C_7) = some false)
    (is_10_8 : PySem.W.kitOne K (.ref C_10) (.ref C_8) = some false)
    (is_10_9 : PySem.W.kitOne K (.ref C_10) (.ref C_9) = some false)
    (is_10_10 : PySem.W.kitOne K (.ref C_10) (.ref C_10) = some true)
    (is_10_11 : PySem.W.kitOne K (.ref C_10) (.ref C_11) = some true)
    (is_11_0 : PySem.W.kitOne K (.ref C_11) (.ref C_0) = some false)
    (is_11_1 : PySem.W.kitOne K (.ref C_11) (.ref C_1) = some false)
    (is_11_2 : PySem.W.kitOne K (.ref C_11) (.ref C_2) = some false)
    (is_11_3 : PySem.W.kitOne K (.ref C_11) (.ref C_3) = some false)
    (is_11_4 : PySem.W.kitOne K (.ref C_11) (.ref C_4) = some false)
    (is_11_5 : PySem.W.kitOne K (.ref C_11) (.ref C_5) = some false)
    (is_11_6 : PySem.W.kitOne K (.ref C_11) (.ref C_6) = some false)
    (is_11_7 : PySem.W.kitOne K (.ref C_11) (.ref C_7) = some false)
    (is_11_8 : PySem.W.kitOne K (.ref C_11) (.ref C_8) = some false)
    (is_11_9 : PySem.W.kitOne K (.ref C_11) (.ref C_9) = some false)
    (is_11_10 : PySem.W.kitOne K (.ref C_11) (.ref C_10) = some false)
    (is_11_11 : PySem.W.kitOne K (.ref C_11) (.ref C_11) = some true)
    (z_len : PySem.W.nsIn K mainGlobals "len" = some none)
    (z_max : PySem.W.nsIn K mainGlobals "max" = some none)
    (z_abs : PySem.W.nsIn K mainGlobals "abs" = some none)
    (z_int : PySem.W.nsIn K mainGlobals "int" = some none)
    (z_range : PySem.W.nsIn K mainGlobals "range" = some none)
    (z_min : PySem.W.nsIn K mainGlobals "min" = some none)
    (z_repr : PySem.W.nsIn K mainGlobals "repr" = some none)
    (z_isinstance : PySem.W.nsIn K mainGlobals "isinstance" = some none)
    (z_ValueError : PySem.W.nsIn K mainGlobals "ValueError" = some none) :
    ∃ fd : FuncData, (∀ (s : Shared) (v : Value), BindsTo s fd ⟨[v], []⟩ [("script", v)]) ∧ ∀ base : Heap, K.In base → base.Ns mainGlobals mg → FnG l.prog w K mg base 6 fa fd ["script"] (spLaw K) := by
  have e := hfa.symm.trans (PySem.W.mg_of X G a_lw)
  cases e
  have CC : Cs K mg (csOf C_0 C_1 C_2 C_3 C_4 C_5 C_6 C_7 C_8 C_9 C_10 C_11) f_I := {
    isi := PySem.W.mg_none_of X G z_isinstance
    G := ⟨t_I, o_n, o_t⟩
    n0 := PySem.W.mg_of X G g_0
    n1 := PySem.W.mg_of X G g_1
    n2 := PySem.W.mg_of X G g_2
    n3 := PySem.W.mg_of X G g_3
    n4 := PySem.W.mg_of X G g_4
    n5 := PySem.W.mg_of X G g_5
    n6 := PySem.W.mg_of X G g_6
    n7 := PySem.W.mg_of X G g_7
    n8 := PySem.W.mg_of X G g_8
    n9 := PySem.W.mg_of X G g_9
    n10 := PySem.W.mg_of X G g_10
    n11 := PySem.W.mg_of X G g_11
    ec := fun i hi => match i, hi with
      | 0, _ => ⟨⟨⟨_, _, _, _, _, _, _, _, _, _, _, _, _, _, _, x_0, r_0⟩, sa_0, ec_0, tc_0, kc_0⟩, nv_0, i_0, ⟨ga_0, gg_0, ec_0, hd_0⟩, cls_some x_0, ha_0, hm_0⟩
      | 1, _ => ⟨⟨⟨_, _, _, _, _, _, _, _, _, _, _, _, _, _, _, x_1, r_1⟩, sa_1, ec_1, tc_1, kc_1⟩, nv_1, i_1, ⟨ga_1, gg_1, ec_1, hd_1⟩, cls_some x_1, ha_1, hm_1⟩
      | 2, _ => ⟨⟨⟨_, _, _, _, _, _, _, _, _, _, _, _, _, _, _, x_2, r_2⟩, sa_2, ec_2, tc_2, kc_2⟩, nv_2, i_2, ⟨ga_2, gg_2, ec_2, hd_2⟩, cls_some x_2, ha_2, hm_2⟩
      | 3, _ => ⟨⟨⟨_, _, _, _, _, _, _, _, _, _, _, _, _, _, _, x_3, r_3⟩, sa_3, ec_3, tc_3, kc_3⟩, nv_3, i_3, ⟨ga_3, gg_3, ec_3, hd_3⟩, cls_some x_3, ha_3, hm_3⟩
      | 4, _ => ⟨⟨⟨_, _, _, _, _, _, _, _, _, _, _, _, _, _, _, x_4, r_4⟩, sa_4, ec_4, tc_4, kc_4⟩, nv_4, i_4, ⟨ga_4, gg_4, ec_4, hd_4⟩, cls_some x_4, ha_4, hm_4⟩
      | 5, _ => ⟨⟨⟨_, _, _, _, _, _, _, _, _, _, _, _, _, _, _, x_5, r_5⟩, sa_5, ec_5, tc_5, kc_5⟩, nv_5, i_5, ⟨ga_5, gg_5, ec_5, hd_5⟩, cls_some x_5, ha_5, hm_5⟩
      | 6, _ => ⟨⟨⟨_, _, _, _, _, _, _, _, _, _, _, _, _, _, _, x_6, r_6⟩, sa_6, ec_6, tc_6, kc_6⟩, nv_6, i_6, ⟨ga_6, gg_6, ec_6, hd_6⟩, cls_some x_6, ha_6, hm_6⟩
      | 7, _ => ⟨⟨⟨_, _, _, _, _, _, _, _, _, _, _, _, _, _, _, x_7, r_7⟩, sa_7, ec_7, tc_7, kc_7⟩, nv_7, i_7, ⟨ga_7, gg_7, ec_7, hd_7⟩, cls_some x_7, ha_7, hm_7⟩
      | 8, _ => ⟨⟨⟨_, _, _, _, _, _, _, _, _, _, _, _, _, _, _, x_8, r_8⟩, sa_8, ec_8, tc_8, kc_8⟩, nv_8, i_8, ⟨ga_8, gg_8, ec_8, hd_8⟩, cls_some x_8, ha_8, hm_8⟩
      | 9, _ => ⟨⟨⟨_, _, _, _, _, _, _, _, _, _, _, _, _, _, _, x_9, r_9⟩, sa_9, ec_9, tc_9, kc_9⟩, nv_9, i_9, ⟨ga_9, gg_9, ec_9, hd_9⟩, cls_some x_9, ha_9, hm_9⟩
      | 10, _ => ⟨⟨⟨_, _, _, _, _, _, _, _, _, _, _, _, _, _, _, x_10, r_10⟩, sa_10, ec_10, tc_10, kc_10⟩, nv_10, i_10, ⟨ga_10, gg_10, ec_10, hd_10⟩, cls_some x_10, ha_10, hm_10⟩
      | 11, _ => ⟨⟨⟨_, _, _, _, _, _, _, _, _, _, _, _, _, _, _, x_11, r_11⟩, sa_11, ec_11, tc_11, kc_11⟩, nv_11, i_11, ⟨ga_11, gg_11, ec_11, hd_11⟩, cls_some x_11, ha_11, hm_11⟩
      | (n + 12), hn => absurd hn (by omega)
    is := fun i hi j hj => match i, j, hi, hj with
      | 0, 0, _, _ => is_0_0
      | 0, 1, _, _ => is_0_1
      | 0, 2, _, _ => is_0_2
      | 0, 3, _, _ => is_0_3
      | 0, 4, _, _ => is_0_4
      | 0, 5, _, _ => is_0_5
      | 0, 6, _, _ => is_0_6
      | 0, 7, _, _ => is_0_7
      | 0, 8, _, _ => is_0_8
      | 0, 9, _, _ => is_0_9
      | 0, 10, _, _ => is_0_10
      | 0, 11, _, _ => is_0_11
      | 1, 0, _, _ => is_1_0
      | 1, 1, _, _ => is_1_1
      | 1, 2, _, _ => is_1_2
      | 1, 3, _, _ => is_1_3
      | 1, 4, _, _ => is_1_4
      | 1, 5, _, _ => is_1_5
      | 1, 6, _, _ => is_1_6
      | 1, 7, _, _ => is_1_7
      | 1, 8, _, _ => is_1_8
      | 1, 9, _, _ => is_1_9
      | 1, 10, _, _ => is_1_10
      | 1, 11, _, _ => is_1_11
      | 2, 0, _, _ => is_2_0
      | 2, 1, _, _ => is_2_1
      | 2, 2, _, _ => is_2_2
      | 2, 3, _, _ => is_2_3
      | 2, 4, _, _ => is_2_4
      | 2, 5, _, _ => is_2_5
      | 2, 6, _, _ => is_2_6
      | 2, 7, _, _ => is_2_7
      | 2, 8, _, _ => is_2_8
      | 2, 9, _, _ => is_2_9
      | 2, 10, _, _ => is_2_10
      | 2, 11, _, _ => is_2_11
      | 3, 0, _, _ => is_3_0
      | 3, 1, _, _ => is_3_1
      | 3, 2, _, _ => is_3_2
      | 3, 3, _, _ => is_3_3
      | 3, 4, _, _ => is_3_4
      | 3, 5, _, _ => is_3_5
      | 3, 6, _, _ => is_3_6
      | 3, 7, _, _ => is_3_7
      | 3, 8, _, _ => is_3_8
      | 3, 9, _, _ => is_3_9
      | 3, 10, _, _ => is_3_10
      | 3, 11, _, _ => is_3_11
      | 4, 0, _, _ => is_4_0
      | 4, 1, _, _ => is_4_1
      | 4, 2, _, _ => is_4_2
      | 4, 3, _, _ => is_4_3
      | 4, 4, _, _ => is_4_4
      | 4, 5, _, _ => is_4_5
      | 4, 6, _, _ => is_4_6
      | 4, 7, _, _ => is_4_7
      | 4, 8, _, _ => is_4_8
      | 4, 9, _, _ => is_4_9
      | 4, 10, _, _ => is_4_10
      | 4, 11, _, _ => is_4_11
      | 5, 0, _, _ => is_5_0
      | 5, 1, _, _ => is_5_1
      | 5, 2, _, _ => is_5_2
      | 5, 3, _, _ => is_5_3
      | 5, 4, _, _ => is_5_4
      | 5, 5, _, _ => is_5_5
      | 5, 6, _, _ => is_5_6
      | 5, 7, _, _ => is_5_7
      | 5, 8, _, _ => is_5_8
      | 5, 9, _, _ => is_5_9
      | 5, 10, _, _ => is_5_10
      | 5, 11, _, _ => is_5_11
      | 6, 0, _, _ => is_6_0
      | 6, 1, _, _ => is_6_1
      | 6, 2, _, _ => is_6_2
      | 6, 3, _, _ => is_6_3
      | 6, 4, _, _ => is_6_4
      | 6, 5, _, _ => is_6_5
      | 6, 6, _, _ => is_6_6
      | 6, 7, _, _ => is_6_7
      | 6, 8, _, _ => is_6_8
      | 6, 9, _, _ => is_6_9
      | 6, 10, _, _ => is_6_10
      | 6, 11, _, _ => is_6_11
      | 7, 0, _, _ => is_7_0
      | 7, 1, _, _ => is_7_1
      | 7, 2, _, _ => is_7_2
      | 7, 3, _, _ => is_7_3
      | 7, 4, _, _ => is_7_4
      | 7, 5, _, _ => is_7_5
      | 7, 6, _, _ => is_7_6
      | 7, 7, _, _ => is_7_7
      | 7, 8, _, _ => is_7_8
      | 7, 9, _, _ => is_7_9
      | 7, 10, _, _ => is_7_10
      | 7, 11, _, _ => is_7_11
      | 8, 0, _, _ => is_8_0
      | 8, 1, _, _ => is_8_1
      | 8, 2, _, _ => is_8_2
      | 8, 3, _, _ => is_8_3
      | 8, 4, _, _ => is_8_4
      | 8, 5, _, _ => is_8_5
      | 8, 6, _, _ => is_8_6
      | 8, 7, _, _ => is_8_7
      | 8, 8, _, _ => is_8_8
      | 8, 9, _, _ => is_8_9
      | 8, 10, _, _ => is_8_10
      | 8, 11, _, _ => is_8_11
      | 9, 0, _, _ => is_9_0
      | 9, 1, _, _ => is_9_1
      | 9, 2, _, _ => is_9_2
      | 9, 3, _, _ => is_9_3
      | 9, 4, _, _ => is_9_4
      | 9, 5, _, _ => is_9_5
      | 9, 6, _, _ => is_9_6
      | 9, 7, _, _ => is_9_7
      | 9, 8, _, _ => is_9_8
      | 9, 9, _, _ => is_9_9
      | 9, 10, _, _ => is_9_10
      | 9, 11, _, _ => is_9_11
      | 10, 0, _, _ => is_10_0
      | 10, 1, _, _ => is_10_1
      | 10, 2, _, _ => is_10_2
      | 10, 3, _, _ => is_10_3
      | 10, 4, _, _ => is_10_4
      | 10, 5, _, _ => is_10_5
      | 10, 6, _, _ => is_10_6
      | 10, 7, _, _ => is_10_7
      | 10, 8, _, _ => is_10_8
      | 10, 9, _, _ => is_10_9
      | 10, 10, _, _ => is_10_10
      | 10, 11, _, _ => is_10_11
      | 11, 0, _, _ => is_11_0
      | 11, 1, _, _ => is_11_1
      | 11, 2, _, _ => is_11_2
      | 11, 3, _, _ => is_11_3
      | 11, 4, _, _ => is_11_4
      | 11, 5, _, _ => is_11_5
      | 11, 6, _, _ => is_11_6
      | 11, 7, _, _ => is_11_7
      | 11, 8, _, _ => is_11_8
      | 11, 9, _, _ => is_11_9
      | 11, 10, _, _ => is_11_10
      | 11, 11, _, _ => is_11_11
      | (n + 12), _, hn, _ => absurd hn (by omega)
      | _, (n + 12), _, hn => absurd hn (by omega)
    sb := fun i hi => match i, hi with
      | 0, _ => sb_0
      | 1, _ => sb_1
      | 2, _ => sb_2
      | 3, _ => sb_3
      | 4, _ => sb_4
      | 5, _ => sb_5
      | 6, _ => sb_6
      | 7, _ => sb_7
      | 8, _ => sb_8
      | 9, _ => sb_9
      | 10, _ => sb_10
      | 11, _ => sb_11
      | (n + 12), hn => absurd hn (by omega)
    vErr := PySem.W.mg_none_of X G z_ValueError
    iv := fun i hi => match i, hi with
      | 0, _ => iv_0
      | 1, _ => iv_1
      | 2, _ => iv_2
      | 3, _ => iv_3
      | 4, _ => iv_4
      | 5, _ => iv_5
      | 6, _ => iv_6
      | 7, _ => iv_7
      | 8, _ => iv_8
      | 9, _ => iv_9
      | 10, _ => iv_10
      | 11, _ => iv_11
      | (n + 12), hn => absurd hn (by omega) }
  have FI : Fun K "__init__" "TankError.__init__" s_TE_init f_I _ := fun_mk l_I c_I k_I
  have T : Top K mg (csOf C_0 C_1 C_2 C_3 C_4 C_5 C_6 C_7 C_8 C_9 C_10 C_11) f_I := {
    l_sack_ := lay_mk X G a_l_sack l_l_sack c_l_sack k_l_sack fun _ _ _ _ _ _ us hl => match us, hl with | [_, _], _ => rfl
    l_coin_ := lay_mk X G a_l_coin l_l_coin c_l_coin k_l_coin fun _ _ _ _ _ _ us hl => match us, hl with | [_, _], _ => rfl
    l_thing_ := lay_mk X G a_l_thing l_l_thing c_l_thing k_l_thing fun _ _ _ _ _ _ us hl => match us, hl with | [_], _ => rfl
    l_kinds_ := lay_mk X G a_l_kinds l_l_kinds c_l_kinds k_l_kinds fun _ _ _ _ _ _ us hl => match us, hl with | [_], _ => rfl
    l_made_ := lay_mk X G a_l_made l_l_made c_l_made k_l_made fun _ _ _ _ _ _ us hl => match us, hl with | [_], _ => rfl
    l_named_ := lay_mk X G a_l_named l_l_named c_l_named k_l_named fun _ _ _ _ _ _ us hl => match us, hl with | [_], _ => rfl
    l_throw_ := lay_mk X G a_l_throw l_l_throw c_l_throw k_l_throw fun _ _ _ _ _ _ us hl => match us, hl with | [_, _], _ => rfl
    l_caught_ := lay_mk X G a_l_caught l_l_caught c_l_caught k_l_caught fun _ _ _ _ _ _ us hl => match us, hl with | [_, _], _ => rfl
    l_checked_ := lay_mk X G a_l_checked l_l_checked c_l_checked k_l_checked fun _ _ _ _ _ _ us hl => match us, hl with | [_], _ => rfl
    kP := ⟨_, _, _, _, _, _, _, _, _, _, _, l_l_kinds, c_l_kinds, PySem.W.mg_of X G a_l_kinds, k_l_kinds, Fun.binds (fun_mk (st := s_l_kinds) l_l_kinds c_l_kinds k_l_kinds) fun _ _ _ _ _ _ us hl => match us, hl with | [_], _ => rfl⟩
    init := ⟨_, FI, (fun s us X hl => match us, hl with | [_, _], _ => .of_eq rfl), ⟨fun s us ws X l1 l2 => match us, ws, l1, l2 with | [_], [_], _, _ => .of_eq rfl, fun r1 r2 => r1.append r2⟩⟩
    C := CC
    z_len := PySem.W.mg_none_of X G z_len
    z_max := PySem.W.mg_none_of X G z_max
    z_abs := PySem.W.mg_none_of X G z_abs
    z_int := PySem.W.mg_none_of X G z_int
    z_range := PySem.W.mg_none_of X G z_range
    z_min := PySem.W.mg_none_of X G z_min
    z_repr := PySem.W.mg_none_of X G z_repr
    z_isinstance := PySem.W.mg_none_of X G z_isinstance
    z_ValueError := PySem.W.mg_none_of X G z_ValueError
  }
  exact ⟨_, fun s v => .of_eq rfl, fun base _ _ => whole T (fun_mk (st := s_law) l_lw c_lw k_lw)⟩
end V2


open PyProof.Rows PySem.W PySem in
set_option maxRecDepth 99000 in
set_option maxHeartbeats 0 in
theorem PySem.Challenge.cw_valvelevels_k01_errors_holds : PySem.Challenge.rw_valvelevels_k01_errors.Holds := by
  w_on
  o_law
  k_head
  (case hw => w_witness2)
  k_fill
  refine V2.walk_G (l := PySem.Challenge.rw_valvelevels_k01_errors) (n := 63) (k := 6) (x := "script") (sp := V2.spLaw) rfl (by decide) rfl ⟨rfl, by decide, by decide⟩ (fun w h Y => PySem.W.kIn_of Y) ?F (fun K H a ns hl _ hS => ⟨a, ns, rfl, hS, hl, fun _ => rfl⟩)
  case F =>
    intro w mg fa h KX G hmg
    refine' V2.all_mk KX G hmg ?a_l_sack ?l_l_sack ?c_l_sack ?k_l_sack ?a_l_coin ?l_l_coin ?c_l_coin ?k_l_coin ?a_l_thing ?l_l_thing ?c_l_thing ?k_l_thing ?a_l_kinds ?l_l_kinds ?c_l_kinds ?k_l_kinds ?a_l_made ?l_l_made ?c_l_made ?k_l_made ?a_l_named ?l_l_named ?c_l_named ?k_l_named ?a_l_throw ?l_l_throw ?c_l_throw ?k_l_throw ?a_l_caught ?l_l_caught ?c_l_caught ?k_l_caught ?a_l_checked ?l_l_checked ?c_l_checked ?k_l_checked ?a_lw ?l_lw ?c_lw ?k_lw ?g_0 ?g_1 ?g_2 ?g_3 ?g_4 ?g_5 ?g_6 ?g_7 ?g_8 ?g_9 ?g_10 ?g_11 ?i_11 ?l_I ?c_I ?k_I ?t_I ?o_n ?o_t ?x_0 ?r_0 ?sa_0 ?ga_0 ?gg_0 ?nv_0 ?i_0 ?kc_0 ?ec_0 ?tc_0 ?hd_0 ?ha_0 ?hm_0 ?sb_0 ?iv_0 ?x_1 ?r_1 ?sa_1 ?ga_1 ?gg_1 ?nv_1 ?i_1 ?kc_1 ?ec_1 ?tc_1 ?hd_1 ?ha_1 ?hm_1 ?sb_1 ?iv_1 ?x_2 ?r_2 ?sa_2 ?ga_2 ?gg_2 ?nv_2 ?i_2 ?kc_2 ?ec_2 ?tc_2 ?hd_2 ?ha_2 ?hm_2 ?sb_2 ?iv_2 ?x_3 ?r_3 ?sa_3 ?ga_3 ?gg_3 ?nv_3 ?i_3 ?kc_3 ?ec_3 ?tc_3 ?hd_3 ?ha_3 ?hm_3 ?sb_3 ?iv_3 ?x_4 ?r_4 ?sa_4 ?ga_4 ?gg_4 ?nv_4 ?i_4 ?kc_4 ?ec_4 ?tc_4 ?hd_4 ?ha_4 ?hm_4 ?sb_4 ?iv_4 ?x_5 ?r_5 ?sa_5 ?ga_5 ?gg_5 ?nv_5 ?i_5 ?kc_5 ?ec_5 ?tc_5 ?hd_5 ?ha_5 ?hm_5 ?sb_5 ?iv_5 ?x_6 ?r_6 ?sa_6 ?ga_6 ?gg_6 ?nv_6 ?i_6 ?kc_6 ?ec_6 ?tc_6 ?hd_6 ?ha_6 ?hm_6 ?sb_6 ?iv_6 ?x_7 ?r_7 ?sa_7 ?ga_7 ?gg_7 ?nv_7 ?i_7 ?kc_7 ?ec_7 ?tc_7 ?hd_7 ?ha_7 ?hm_7 ?sb_7 ?iv_7 ?x_8 ?r_8 ?sa_8 ?ga_8 ?gg_8 ?nv_8 ?i_8 ?kc_8 ?ec_8 ?tc_8 ?hd_8 ?ha_8 ?hm_8 ?sb_8 ?iv_8 ?x_9 ?r_9 ?sa_9 ?ga_9 ?gg_9 ?nv_9 ?i_9 ?kc_9 ?ec_9 ?tc_9 ?hd_9 ?ha_9 ?hm_9 ?sb_9 ?iv_9 ?x_10 ?r_10 ?sa_10 ?ga_10 ?gg_10 ?nv_10 ?i_10 ?kc_10 ?ec_10 ?tc_10 ?hd_10 ?ha_10 ?hm_10 ?sb_10 ?iv_10 ?x_11 ?r_11 ?sa_11 ?ga_11 ?gg_11 ?nv_11 ?kc_11 ?ec_11 ?tc_11 ?hd_11 ?ha_11 ?hm_11 ?sb_11 ?iv_11 ?is_0_0 ?is_0_1 ?is_0_2 ?is_0_3 ?is_0_4 ?is_0_5 ?is_0_6 ?is_0_7 ?is_0_8 ?is_0_9 ?is_0_10 ?is_0_11 ?is_1_0 ?is_1_1 ?is_1_2 ?is_1_3 ?is_1_4 ?is_1_5 ?is_1_6 ?is_1_7 ?is_1_8 ?is_1_9 ?is_1_10 ?is_1_11 ?is_2_0 ?is_2_1 ?is_2_2 ?is_2_3 ?is_2_4 ?is_2_5 ?is_2_6 ?is_2_7 ?is_2_8 ?is_2_9 ?is_2_10 ?is_2_11 ?is_3_0 ?is_3_1 ?is_3_2 ?is_3_3 ?is_3_4 ?is_3_5 ?is_3_6 ?is_3_7 ?is_3_8 ?is_3_9 ?is_3_10 ?is_3_11 ?is_4_0 ?is_4_1 ?is_4_2 ?is_4_3 ?is_4_4 ?is_4_5 ?is_4_6 ?is_4_7 ?is_4_8 ?is_4_9 ?is_4_10 ?is_4_11 ?is_5_0 ?is_5_1 ?is_5_2 ?is_5_3 ?is_5_4 ?is_5_5 ?is_5_6 ?is_5_7 ?is_5_8 ?is_5_9 ?is_5_10 ?is_5_11 ?is_6_0 ?is_6_1 ?is_6_2 ?is_6_3 ?is_6_4 ?is_6_5 ?is_6_6 ?is_6_7 ?is_6_8 ?is_6_9 ?is_6_10 ?is_6_11 ?is_7_0 ?is_7_1 ?is_7_2 ?is_7_3 ?is_7_4 ?is_7_5 ?is_7_6 ?is_7_7 ?is_7_8 ?is_7_9 ?is_7_10 ?is_7_11 ?is_8_0 ?is_8_1 ?is_8_2 ?is_8_3 ?is_8_4 ?is_8_5 ?is_8_6 ?is_8_7 ?is_8_8 ?is_8_9 ?is_8_10 ?is_8_11 ?is_9_0 ?is_9_1 ?is_9_2 ?is_9_3 ?is_9_4 ?is_9_5 ?is_9_6 ?is_9_7 ?is_9_8 ?is_9_9 ?is_9_10 ?is_9_11 ?is_10_0 ?is_10_1 ?is_10_2 ?is_10_3 ?is_10_4 ?is_10_5 ?is_10_6 ?is_10_7 ?is_10_8 ?is_10_9 ?is_10_10 ?is_10_11 ?is_11_0 ?is_11_1 ?is_11_2 ?is_11_3 ?is_11_4 ?is_11_5 ?is_11_6 ?is_11_7 ?is_11_8 ?is_11_9 ?is_11_10 ?is_11_11 ?z_len ?z_max ?z_abs ?z_int ?z_range ?z_min ?z_repr ?z_isinstance ?z_ValueError
    (case a_l_sack => k_is)
    (case l_l_sack => k_is)
    (case c_l_sack => k_is)
    (case k_l_sack => k_is)
    (case a_l_coin => k_is)
    (case l_l_coin => k_is)
    (case c_l_coin => k_is)
    (case k_l_coin => k_is)
    (case a_l_thing => k_is)
    (case l_l_thing => k_is)
    (case c_l_thing => k_is)
    (case k_l_thing => k_is)
    (case a_l_kinds => k_is)
    (case l_l_kinds => k_is)
    (case c_l_kinds => k_is)
    (case k_l_kinds => k_is)
    (case a_l_made => k_is)
    (case l_l_made => k_is)
    (case c_l_made => k_is)
    (case k_l_made => k_is)
    (case a_l_named => k_is)
    (case l_l_named => k_is)
    (case c_l_named => k_is)
    (case k_l_named => k_is)
    (case a_l_throw => k_is)
    (case l_l_throw => k_is)
    (case c_l_throw => k_is)
    (case k_l_throw => k_is)
    (case a_l_caught => k_is)
    (case l_l_caught => k_is)
    (case c_l_caught => k_is)
    (case k_l_caught => k_is)
    (case a_l_checked => k_is)
    (case l_l_checked => k_is)
    (case c_l_checked => k_is)
    (case k_l_checked => k_is)
    (case a_lw => k_is)
    (case l_lw => k_is)
    (case c_lw => k_is)
    (case k_lw => k_is)
    (case g_0 => k_is)
    (case g_1 => k_is)
    (case g_2 => k_is)
    (case g_3 => k_is)
    (case g_4 => k_is)
    (case g_5 => k_is)
    (case g_6 => k_is)
    (case g_7 => k_is)
    (case g_8 => k_is)
    (case g_9 => k_is)
    (case g_10 => k_is)
    (case g_11 => k_is)
    (case i_11 => k_is)
    (case l_I => k_is)
    (case c_I => k_is)
    (case k_I => k_is)
    (case t_I => k_is)
    (case o_n => k_is)
    (case o_t => k_is)
    (case x_0 => k_is)
    (case r_0 => first | rfl | decide +kernel)
    (case sa_0 => k_is)
    (case ga_0 => k_is)
    (case gg_0 => k_is)
    (case nv_0 => k_is)
    (case i_0 => k_is)
    (case kc_0 => k_is)
    (case ec_0 => k_is)
    (case tc_0 => k_is)
    (case hd_0 => k_is)
    (case ha_0 => k_is)
    (case hm_0 => k_is)
    (case sb_0 => k_is)
    (case iv_0 => first | kit_is | k_is)
    (case x_1 => k_is)
    (case r_1 => first | rfl | decide +kernel)
    (case sa_1 => k_is)
    (case ga_1 => k_is)
    (case gg_1 => k_is)
    (case nv_1 => k_is)
    (case i_1 => k_is)
    (case kc_1 => k_is)
    (case ec_1 => k_is)
    (case tc_1 => k_is)
    (case hd_1 => k_is)
    (case ha_1 => k_is)
    (case hm_1 => k_is)
    (case sb_1 => k_is)
    (case iv_1 => first | kit_is | k_is)
    (case x_2 => k_is)
    (case r_2 => first | rfl | decide +kernel)
    (case sa_2 => k_is)
    (case ga_2 => k_is)
    (case gg_2 => k_is)
    (case nv_2 => k_is)
    (case i_2 => k_is)
    (case kc_2 => k_is)
    (case ec_2 => k_is)
    (case tc_2 => k_is)
    (case hd_2 => k_is)
    (case ha_2 => k_is)
    (case hm_2 => k_is)
    (case sb_2 => k_is)
    (case iv_2 => first | kit_is | k_is)
    (case x_3 => k_is)
    (case r_3 => first | rfl | decide +kernel)
    (case sa_3 => k_is)
    (case ga_3 => k_is)
    (case gg_3 => k_is)
    (case nv_3 => k_is)
    (case i_3 => k_is)
    (case kc_3 => k_is)
    (case ec_3 => k_is)
    (case tc_3 => k_is)
    (case hd_3 => k_is)
    (case ha_3 => k_is)
    (case hm_3 => k_is)
    (case sb_3 => k_is)
    (case iv_3 => first | kit_is | k_is)
    (case x_4 => k_is)
    (case r_4 => first | rfl | decide +kernel)
    (case sa_4 => k_is)
    (case ga_4 => k_is)
    (case gg_4 => k_is)
    (case nv_4 => k_is)
    (case i_4 => k_is)
    (case kc_4 => k_is)
    (case ec_4 => k_is)
    (case tc_4 => k_is)
    (case hd_4 => k_is)
    (case ha_4 => k_is)
    (case hm_4 => k_is)
    (case sb_4 => k_is)
    (case iv_4 => first | kit_is | k_is)
    (case x_5 => k_is)
    (case r_5 => first | rfl | decide +kernel)
    (case sa_5 => k_is)
    (case ga_5 => k_is)
    (case gg_5 => k_is)
    (case nv_5 => k_is)
    (case i_5 => k_is)
    (case kc_5 => k_is)
    (case ec_5 => k_is)
    (case tc_5 => k_is)
    (case hd_5 => k_is)
    (case ha_5 => k_is)
    (case hm_5 => k_is)
    (case sb_5 => k_is)
    (case iv_5 => first | kit_is | k_is)
    (case x_6 => k_is)
    (case r_6 => first | rfl | decide +kernel)
    (case sa_6 => k_is)
    (case ga_6 => k_is)
    (case gg_6 => k_is)
    (case nv_6 => k_is)
    (case i_6 => k_is)
    (case kc_6 => k_is)
    (case ec_6 => k_is)
    (case tc_6 => k_is)
    (case hd_6 => k_is)
    (case ha_6 => k_is)
    (case hm_6 => k_is)
    (case sb_6 => k_is)
    (case iv_6 => first | kit_is | k_is)
    (case x_7 => k_is)
    (case r_7 => first | rfl | decide +kernel)
    (case sa_7 => k_is)
    (case ga_7 => k_is)
    (case gg_7 => k_is)
    (case nv_7 => k_is)
    (case i_7 => k_is)
    (case kc_7 => k_is)
    (case ec_7 => k_is)
    (case tc_7 => k_is)
    (case hd_7 => k_is)
    (case ha_7 => k_is)
    (case hm_7 => k_is)
    (case sb_7 => k_is)
    (case iv_7 => first | kit_is | k_is)
    (case x_8 => k_is)
    (case r_8 => first | rfl | decide +kernel)
    (case sa_8 => k_is)
    (case ga_8 => k_is)
    (case gg_8 => k_is)
    (case nv_8 => k_is)
    (case i_8 => k_is)
    (case kc_8 => k_is)
    (case ec_8 => k_is)
    (case tc_8 => k_is)
    (case hd_8 => k_is)
    (case ha_8 => k_is)
    (case hm_8 => k_is)
    (case sb_8 => k_is)
    (case iv_8 => first | kit_is | k_is)
    (case x_9 => k_is)
    (case r_9 => first | rfl | decide +kernel)
    (case sa_9 => k_is)
    (case ga_9 => k_is)
    (case gg_9 => k_is)
    (case nv_9 => k_is)
    (case i_9 => k_is)
    (case kc_9 => k_is)
    (case ec_9 => k_is)
    (case tc_9 => k_is)
    (case hd_9 => k_is)
    (case ha_9 => k_is)
    (case hm_9 => k_is)
    (case sb_9 => k_is)
    (case iv_9 => first | kit_is | k_is)
    (case x_10 => k_is)
    (case r_10 => first | rfl | decide +kernel)
    (case sa_10 => k_is)
    (case ga_10 => k_is)
    (case gg_10 => k_is)
    (case nv_10 => k_is)
    (case i_10 => k_is)
    (case kc_10 => k_is)
    (case ec_10 => k_is)
    (case tc_10 => k_is)
    (case hd_10 => k_is)
    (case ha_10 => k_is)
    (case hm_10 => k_is)
    (case sb_10 => k_is)
    (case iv_10 => first | kit_is | k_is)
    (case x_11 => k_is)
    (case r_11 => first | rfl | decide +kernel)
    (case sa_11 => k_is)
    (case ga_11 => k_is)
    (case gg_11 => k_is)
    (case nv_11 => k_is)
    (case kc_11 => k_is)
    (case ec_11 => k_is)
    (case tc_11 => k_is)
    (case hd_11 => k_is)
    (case ha_11 => k_is)
    (case hm_11 => k_is)
    (case sb_11 => k_is)
    (case iv_11 => first | kit_is | k_is)
    (case is_0_0 => first | kit_is | k_is)
    (case is_0_1 => first | kit_is | k_is)
    (case is_0_2 => first | kit_is | k_is)
    (case is_0_3 => first | kit_is | k_is)
    (case is_0_4 => first | kit_is | k_is)
    (case is_0_5 => first | kit_is | k_is)
    (case is_0_6 => first | kit_is | k_is)
    (case is_0_7 => first | kit_is | k_is)
    (case is_0_8 => first | kit_is | k_is)
    (case is_0_9 => first | kit_is | k_is)
    (case is_0_10 => first | kit_is | k_is)
    (case is_0_11 => first | kit_is | k_is)
    (case is_1_0 => first | kit_is | k_is)
    (case is_1_1 => first | kit_is | k_is)
    (case is_1_2 => first | kit_is | k_is)
    (case is_1_3 => first | kit_is | k_is)
    (case is_1_4 => first | kit_is | k_is)
    (case is_1_5 => first | kit_is | k_is)
    (case is_1_6 => first | kit_is | k_is)
    (case is_1_7 => first | kit_is | k_is)
    (case is_1_8 => first | kit_is | k_is)
    (case is_1_9 => first | kit_is | k_is)
    (case is_1_10 => first | kit_is | k_is)
    (case is_1_11 => first | kit_is | k_is)
    (case is_2_0 => first | kit_is | k_is)
    (case is_2_1 => first | kit_is | k_is)
    (case is_2_2 => first | kit_is | k_is)
    (case is_2_3 => first | kit_is | k_is)
    (case is_2_4 => first | kit_is | k_is)
    (case is_2_5 => first | kit_is | k_is)
    (case is_2_6 => first | kit_is | k_is)
    (case is_2_7 => first | kit_is | k_is)
    (case is_2_8 => first | kit_is | k_is)
    (case is_2_9 => first | kit_is | k_is)
    (case is_2_10 => first | kit_is | k_is)
    (case is_2_11 => first | kit_is | k_is)
    (case is_3_0 => first | kit_is | k_is)
    (case is_3_1 => first | kit_is | k_is)
    (case is_3_2 => first | kit_is | k_is)
    (case is_3_3 => first | kit_is | k_is)
    (case is_3_4 => first | kit_is | k_is)
    (case is_3_5 => first | kit_is | k_is)
    (case is_3_6 => first | kit_is | k_is)
    (case is_3_7 => first | kit_is | k_is)
    (case is_3_8 => first | kit_is | k_is)
    (case is_3_9 => first | kit_is | k_is)
    (case is_3_10 => first | kit_is | k_is)
    (case is_3_11 => first | kit_is | k_is)
    (case is_4_0 => first | kit_is | k_is)
    (case is_4_1 => first | kit_is | k_is)
    (case is_4_2 => first | kit_is | k_is)
    (case is_4_3 => first | kit_is | k_is)
    (case is_4_4 => first | kit_is | k_is)
    (case is_4_5 => first | kit_is | k_is)
    (case is_4_6 => first | kit_is | k_is)
    (case is_4_7 => first | kit_is | k_is)
    (case is_4_8 => first | kit_is | k_is)
    (case is_4_9 => first | kit_is | k_is)
    (case is_4_10 => first | kit_is | k_is)
    (case is_4_11 => first | kit_is | k_is)
    (case is_5_0 => first | kit_is | k_is)
    (case is_5_1 => first | kit_is | k_is)
    (case is_5_2 => first | kit_is | k_is)
    (case is_5_3 => first | kit_is | k_is)
    (case is_5_4 => first | kit_is | k_is)
    (case is_5_5 => first | kit_is | k_is)
    (case is_5_6 => first | kit_is | k_is)
    (case is_5_7 => first | kit_is | k_is)
    (case is_5_8 => first | kit_is | k_is)
    (case is_5_9 => first | kit_is | k_is)
    (case is_5_10 => first | kit_is | k_is)
    (case is_5_11 => first | kit_is | k_is)
    (case is_6_0 => first | kit_is | k_is)
    (case is_6_1 => first | kit_is | k_is)
    (case is_6_2 => first | kit_is | k_is)
    (case is_6_3 => first | kit_is | k_is)
    (case is_6_4 => first | kit_is | k_is)
    (case is_6_5 => first | kit_is | k_is)
    (case is_6_6 => first | kit_is | k_is)
    (case is_6_7 => first | kit_is | k_is)
    (case is_6_8 => first | kit_is | k_is)
    (case is_6_9 => first | kit_is | k_is)
    (case is_6_10 => first | kit_is | k_is)
    (case is_6_11 => first | kit_is | k_is)
    (case is_7_0 => first | kit_is | k_is)
    (case is_7_1 => first | kit_is | k_is)
    (case is_7_2 => first | kit_is | k_is)
    (case is_7_3 => first | kit_is | k_is)
    (case is_7_4 => first | kit_is | k_is)
    (case is_7_5 => first | kit_is | k_is)
    (case is_7_6 => first | kit_is | k_is)
    (case is_7_7 => first | kit_is | k_is)
    (case is_7_8 => first | kit_is | k_is)
    (case is_7_9 => first | kit_is | k_is)
    (case is_7_10 => first | kit_is | k_is)
    (case is_7_11 => first | kit_is | k_is)
    (case is_8_0 => first | kit_is | k_is)
    (case is_8_1 => first | kit_is | k_is)
    (case is_8_2 => first | kit_is | k_is)
    (case is_8_3 => first | kit_is | k_is)
    (case is_8_4 => first | kit_is | k_is)
    (case is_8_5 => first | kit_is | k_is)
    (case is_8_6 => first | kit_is | k_is)
    (case is_8_7 => first | kit_is | k_is)
    (case is_8_8 => first | kit_is | k_is)
    (case is_8_9 => first | kit_is | k_is)
    (case is_8_10 => first | kit_is | k_is)
    (case is_8_11 => first | kit_is | k_is)
    (case is_9_0 => first | kit_is | k_is)
    (case is_9_1 => first | kit_is | k_is)
    (case is_9_2 => first | kit_is | k_is)
    (case is_9_3 => first | kit_is | k_is)
    (case is_9_4 => first | kit_is | k_is)
    (case is_9_5 => first | kit_is | k_is)
    (case is_9_6 => first | kit_is | k_is)
    (case is_9_7 => first | kit_is | k_is)
    (case is_9_8 => first | kit_is | k_is)
    (case is_9_9 => first | kit_is | k_is)
    (case is_9_10 => first | kit_is | k_is)
    (case is_9_11 => first | kit_is | k_is)
    (case is_10_0 => first | kit_is | k_is)
    (case is_10_1 => first | kit_is | k_is)
    (case is_10_2 => first | kit_is | k_is)
    (case is_10_3 => first | kit_is | k_is)
    (case is_10_4 => first | kit_is | k_is)
    (case is_10_5 => first | kit_is | k_is)
    (case is_10_6 => first | kit_is | k_is)
    (case is_10_7 => first | kit_is | k_is)
    (case is_10_8 => first | kit_is | k_is)
    (case is_10_9 => first | kit_is | k_is)
    (case is_10_10 => first | kit_is | k_is)
    (case is_10_11 => first | kit_is | k_is)
    (case is_11_0 => first | kit_is | k_is)
    (case is_11_1 => first | kit_is | k_is)
    (case is_11_2 => first | kit_is | k_is)
    (case is_11_3 => first | kit_is | k_is)
    (case is_11_4 => first | kit_is | k_is)
    (case is_11_5 => first | kit_is | k_is)
    (case is_11_6 => first | kit_is | k_is)
    (case is_11_7 => first | kit_is | k_is)
    (case is_11_8 => first | kit_is | k_is)
    (case is_11_9 => first | kit_is | k_is)
    (case is_11_10 => first | kit_is | k_is)
    (case is_11_11 => first | kit_is | k_is)
    (case z_len => k_is)
    (case z_max => k_is)
    (case z_abs => k_is)
    (case z_int => k_is)
    (case z_range => k_is)
    (case z_min => k_is)
    (case z_repr => k_is)
    (case z_isinstance => k_is)
    (case z_ValueError => k_is)


