import PyProof.Rows.All
import Wide.All
import OpenK.AllK
import Wide.FinOn
import HandS.ForMost
import HandS.ExcInit
import HandS.ExcIs
import HandS.ExcField
import HandS.ExcValue
import HandS.Defaults
import HandS.IsInst
import HandS.ExcBuiltin
import KE.KExcIs
import HandS.StrMore
import HandS.DictComp
import HandS.Star
import HandS.Walk
import PyProof.Conv_bool
import OpenK.KOps
import KE.KIntText
import PyProof.Rows.Digits
import PyProof.StrBlock2
import PySem.Challenge.RW_stayhouse_k01_looks_at_any_values
set_option Elab.async false
set_option linter.all false
section
open PySem PySem.W PyProof.Rows
set_option maxRecDepth 100000 in
set_option maxHeartbeats 0 in
open_top hd01 for PySem.Challenge.rw_stayhouse_k01_looks_at_any_values
end
section
set_option maxRecDepth 100000
set_option maxHeartbeats 4000000
namespace Lw
open PySem PySem.Spec PyProof.Rows L2
theorem dp_ints {K : PySem.W.Frag} {H : Hp} : ∀ ns : List Int, DpAll K H (ns.map V.int) (ns.map PyData.int)
  | [] => .nil
  | n :: t => .cons (.int n) (dp_ints t)
theorem lay_ints : ∀ ns : List Int, PyData.canLayAll0 (ns.map PyData.int) = true
  | [] => rfl
  | n :: t => by simp [PyData.canLayAll0, PyData.canLay0, lay_ints t]
theorem depth_ints : ∀ ns : List Int, PyData.depthAll (ns.map PyData.int) = 0
  | [] => rfl
  | n :: t => by simp [PyData.depthAll, PyData.depth, depth_ints t]
theorem shaped_ints (ns : List Int) : SeqAt.shaped (.list (ns.map PyData.int)) = true := by
  simp [SeqAt.shaped, PyData.canLay0, PyData.depth, lay_ints, depth_ints]
theorem eqv_ints_nil (ns : List Int) : PyData.eqv (.list (ns.map PyData.int)) (.list []) = ns.isEmpty := by
  cases ns with
  | nil => rfl
  | cons n t => rfl
/-! what a draw reckons -/
theorem fm {a m : Int} (h : 0 < m) : 0 ≤ a.fmod m ∧ a.fmod m < m := ⟨Int.fmod_nonneg_of_pos _ h, Int.fmod_lt_of_pos _ h⟩
theorem pow_ok {x : Int} (j : Int) (h0 : 0 ≤ x) (h1 : x < 18446744073709551616) (j0 : 0 ≤ j) (j1 : j ≤ 1000000) : CPow x j := ⟨j0, j1, by
  have e : (2 : Nat) ^ 64 = 18446744073709551616 := by decide
  rw [e]
  omega⟩
theorem mul_okL {x y : Int} (h0 : -18446744073709551616 < x) (h1 : x < 18446744073709551616) : CMul x y := .inl ⟨by
  have e : (2 : Int) ^ 64 = 18446744073709551616 := by decide
  rw [e]
  omega, by
  have e : (2 : Int) ^ 64 = 18446744073709551616 := by decide
  rw [e]
  omega⟩
theorem mul_le {x y a b : Int} (x0 : 0 ≤ x) (xa : x ≤ a) (y0 : 0 ≤ y) (yb : y ≤ b) : 0 ≤ x * y ∧ x * y ≤ a * b :=
  ⟨Int.mul_nonneg x0 y0, Int.mul_le_mul xa yb y0 (Int.le_trans x0 xa)⟩
theorem at_fmod {ns : List Int} {i : Int} (h : ns.isEmpty = false) : ∃ z : Int, atI (ns.map V.int) (i.fmod (((ns.map V.int).length : Nat) : Int)) = some (V.int z) := by
  have hl : 0 < ns.length := by
    cases ns with
    | nil => cases h
    | cons _ _ => simp
  rw [List.length_map]
  obtain ⟨a0, a1⟩ := fm (a := i) (m := (ns.length : Int)) (by omega)
  obtain ⟨j, hj⟩ := Int.eq_ofNat_of_zero_le a0
  rw [hj] at a1 ⊢
  have hj2 : j < ns.length := by omega
  refine ⟨ns[j], atI_nat ?_⟩
  rw [List.getElem?_map, List.getElem?_eq_getElem hj2]
  rfl
theorem great_nn {z : Int} (c : decide ((10 : Int) ^ (18 : Int).toNat ≤ (if z < 0 then -z else z)) = true) : 0 ≤ 2 * ((if z < 0 then -z else z) - (10 : Int) ^ (18 : Int).toNat) + (if decide (z < 0) = true then (1 : Int) else 0) := by
  have h := of_decide_eq_true c
  generalize (10 : Int) ^ (18 : Int).toNat = t at h ⊢
  generalize (if z < 0 then -z else z) = y at h ⊢
  split <;> omega
theorem fdiv_nn {r m : Int} (h : 0 ≤ r) (hm : 0 < m) : 0 ≤ r.fdiv m := by
  rw [Int.fdiv_eq_ediv_of_nonneg _ (by omega)]
  exact Int.ediv_nonneg h (by omega)
theorem st1_nn {z i A B C : Int} (i0 : 0 ≤ i) (h : 0 < A ∧ 0 ≤ B ∧ 0 ≤ C) : 0 ≤ z.fmod A + B * i + C := by
  have a := (fm (a := z) h.1).1
  have b := Int.mul_nonneg h.2.1 i0
  omega
theorem st1_lt {z i A B C : Int} (hA : 0 < A ∧ A ≤ 4294967296) (hB : 0 ≤ B ∧ B ≤ 1000000 ∧ C ≤ 1000000) (hi : 0 ≤ i ∧ i ≤ 1000000) : z.fmod A + B * i + C < 18446744073709551616 := by
  have a := (fm (a := z) hA.1).2
  have b := (mul_le hB.1 hB.2.1 hi.1 hi.2).2
  omega
theorem st2_a {y D w : Int} (hD : 0 < D ∧ D ≤ 4294967296) : CMul (y.fmod D) w := by
  have a := fm (a := y) hD.1
  exact mul_okL (by omega) (by omega)
theorem st2_b {i F : Int} (hi : 0 ≤ i ∧ i ≤ 1000000) (hF : 0 ≤ F ∧ F ≤ 1000000) : CMul (F * i) i := by
  have b := mul_le hF.1 hF.2 hi.1 hi.2
  exact mul_okL (by omega) (by omega)
theorem st2_nn {y i D E F G : Int} (i0 : 0 ≤ i) (h : 0 < D ∧ 0 ≤ E ∧ 0 ≤ F ∧ 0 ≤ G) : 0 ≤ y.fmod D * (2 * i + E) + F * i * i + G := by
  have a := Int.mul_nonneg (fm (a := y) h.1).1 (show 0 ≤ 2 * i + E by omega)
  have b := Int.mul_nonneg (Int.mul_nonneg h.2.2.1 i0) i0
  omega
theorem st2_lt {y i D E F G : Int} (hD : 0 < D ∧ D ≤ 4294967296) (h : 0 ≤ E ∧ E ≤ 1000000 ∧ 0 ≤ F ∧ F ≤ 1000000 ∧ G ≤ 1000000) (hi : 0 ≤ i ∧ i ≤ 1000000) : y.fmod D * (2 * i + E) + F * i * i + G < 18446744073709551616 := by
  have a := fm (a := y) hD.1
  have a2 := (mul_le a.1 (show y.fmod D ≤ 4294967296 by omega) (show 0 ≤ 2 * i + E by omega) (show 2 * i + E ≤ 3000000 by omega)).2
  have b := mul_le h.2.2.1 h.2.2.2.1 hi.1 hi.2
  have b2 := (mul_le b.1 b.2 hi.1 hi.2).2
  omega
theorem p18 : CPow 10 18 := ⟨by decide, by decide, by decide⟩
/-- a pen stands at p: its cells at c, the number of the next one, what is left of a great one -/
structure PenAt (H : Hp) (p c : Addr) (ns : List Int) (i r : Int) : Prop where
  ob : H p = some (.lst [.ref c, .int i, .int r])
  ce : H c = some (.lst (ns.map V.int))
  i0 : 0 ≤ i
  r0 : 0 ≤ r
  l63 : ns.length ≤ 63
theorem PenAt.ne {H : Hp} {p c : Addr} {ns : List Int} {i r : Int} (h : PenAt H p c ns i r) : p ≠ c := fun e => by
  have a := h.ob
  rw [e, h.ce] at a
  cases ns with
  | nil => simp at a
  | cons n t => simp at a
/-- all but what stands at p stands as it stood -/
def But (p : Addr) (H H' : Hp) : Prop := ∀ b o, b ≠ p → H b = some o → H' b = some o
theorem But.refl (p : Addr) (H : Hp) : But p H H := fun _ _ _ h => h
theorem But.trans {p : Addr} {H H1 H2 : Hp} (a : But p H H1) (b : But p H1 H2) : But p H H2 := fun c o n h => b c o n (a c o n h)
theorem But.upd {p : Addr} {H H' : Hp} {o : HO} (a : But p H H') : But p H (upd H' p o) := fun c u n h => by rw [upd_ne n]; exact a c u n h
theorem But.new {p l : Addr} {H H' : Hp} {o : HO} (a : But p H H') (hl : H' l = none) : But p H (L2.upd H' l o) := fun c u n h => by
  have z := a c u n h
  rw [upd_ne (ne_of_none z hl)]
  exact z
theorem But.same {p : Addr} {H H' : Hp} (a : Same H H') : But p H H' := fun c o _ h => a c o h
theorem PenAt.next {H H' : Hp} {p c : Addr} {ns : List Int} {i r i' r' : Int} (h : PenAt H p c ns i r) (b : But p H H') (o : H' p = some (.lst [.ref c, .int i', .int r'])) (i0 : 0 ≤ i') (r0 : 0 ≤ r') : PenAt H' p c ns i' r' :=
  ⟨o, b _ _ h.ne.symm h.ce, i0, r0, h.l63⟩
/-- a draw below m: a number, and the pen behind -/
def spDraw : Sp := fun vs H Q _ => ∃ (p c : Addr) (ns : List Int) (i r m : Int), vs = [.ref p, .int m] ∧ PenAt H p c ns i r ∧ 0 < m ∧ m < 1073741824 ∧ i ≤ 1000000 ∧
  ∀ (d i' r' : Int) (H' : Hp), 0 ≤ d → d < m → i ≤ i' → i' ≤ i + 1 → PenAt H' p c ns i' r' → But p H H' → Q (.int d) H'
structure TxtB (mg : Str → Option Value) : Prop where
  len : mg "len" = none
  abs : mg "abs" = none
  int : mg "int" = none
  list : mg "list" = none
/-- the turn behind a pen's end, at the same pen -/
theorem upd2 {H : Hp} {p : Addr} {o u : HO} : upd (upd H p o) p u = upd H p u := upd_upd
end Lw
end
section
set_option maxRecDepth 100000
set_option maxHeartbeats 4000000
/-! An own exception class over ValueError, called with arguments of both kinds: the exception as a value. -/
namespace PySem
namespace LwX
open PySem.W PySem.Calls PyProof.Rows PySem.HandSPX
section
variable {M : Model} {A : Around} {E : Value → Shared → Prop} {h : Heap} {g : Array GenState} {d : Drawn} {t : Nat} {os : OsState}
variable {nm q : Str} {C N : Addr} {bs bm bmB : List Value} {hdct : Bool} {sn : List Str} {sub : List Value} {ab : Bool} {col : Option Bool} {dd : Option Addr} {k0 k1 k2 k3 k5 : Option Value} {B newId initId : String}
theorem kwCheckNew (F : ExcBaseFacts B newId initId bmB) (hT : ∀ X : String, bm.contains (.type X) = bmB.contains (.type X))
    {l : List Value} {kw : List (Str × Value)} {Q : Unit → Shared → Prop}
    (hC : h.get? C = some (excClassObj nm q C N bs bm hdct sn sub ab col dd k0 k1 k2 k3 k5 newId))
    (hq : Q () ⟨h, g, d, t, os⟩) :
    wpAny M A (checkBuiltinCall newId ⟨.ref C :: l, kw⟩) Q E ⟨h, g, d, t, os⟩ := by
  have a1 := F.noStar
  have a2 : (Value.ref C :: bm).contains (.type B) = true := by
    rw [List.contains_cons, hT B, F.hasB]
    exact Bool.or_true _
  simp only [checkBuiltinCall, F.newRow, F.newSplit, F.newKind]
  repeat (first
    | refine wpAny_loadPart_at hC ?_
    | (refine wpAny_isSubtype_exc hC ?_; rw [a2])
    | refine wpAny_staticBase_exc hC ?_
    | refine wpAny_madeBy_exc hC ?_
    | simp only [Bool.false_eq_true, bne_self_eq_false, if_false]
    | wp_step)
  exact hq
theorem kwCheckCall {l : List Value} {kw : List (Str × Value)} {Q : Unit → Shared → Prop} (hC : h.get? C = some (excClassObj nm q C N bs bm hdct sn sub ab col dd k0 k1 k2 k3 k5 newId))
    (hq : Q () ⟨h, g, d, t, os⟩) : wpAny M A (checkBuiltinCall "type.__call__" ⟨.ref C :: l, kw⟩) Q E ⟨h, g, d, t, os⟩ := by
  have z := tc_sub
  have ty : (⟨h, g, d, t, os⟩ : Shared).TypeIs (.ref C) "type" := ⟨_, hC, rfl⟩
  simp only [checkBuiltinCall, tc_split, tc_kind]
  repeat (any_goals (first | assumption | with_reducible refine wpAny_loadPart_at hC ?_ | with_reducible refine wpAny_onRaise ?_ | with_reducible refine wpAny_map ?_ | wp_step))
end
section
variable {prog : Program} {w : World} {A : Around} {E : Value → Shared → Prop} {R : Result → Shared → Prop} {h : Heap} {g : Array GenState} {d : Drawn} {t : Nat} {os : OsState}
variable {nm q : Str} {C N : Addr} {bs bm bmB : List Value} {hdct : Bool} {sn : List Str} {sub : List Value} {ab : Bool} {col : Option Bool} {dd : Option Addr} {k0 k1 k2 k3 k5 : Option Value} {B newId initId : String}
theorem kwNew (F : ExcBaseFacts B newId initId bmB) (hT : ∀ X : String, bm.contains (.type X) = bmB.contains (.type X)) {l : List Value} {kw : List (Str × Value)}
    (hC : h.get? C = some (excClassObj nm q C N bs bm hdct sn sub ab col dd k0 k1 k2 k3 k5 newId)) (hl : l.length ≤ sizeLine)
    (hq : R (.ok (.ret (.ref (h.objs.size + 1)))) ⟨(h.push (W.kdv_tup l)).push (excO C h.objs.size), g, d, t, os⟩) :
    codeAny (model prog w) A (.builtin newId ⟨.ref C :: l, kw⟩) R ⟨h, g, d, t, os⟩ := by
  have z0 := F.ends
  have y1 : (Value.ref C :: bm).contains (.type B) = true := by
    rw [List.contains_cons, hT B, F.hasB]
    exact Bool.or_true _
  have y2 : (Value.ref C :: bm).contains (.type "AttributeError") = false := by
    rw [List.contains_cons, hT, F.noAttr]
    rfl
  have y3 : (Value.ref C :: bm).contains (.type "NameError") = false := by
    rw [List.contains_cons, hT, F.noName]
    rfl
  refine codeAny_builtinAt F.entry ?_
  unfold Builtin.«BaseException.__new__»
  refine wpAt_bind ?_
  show wpAt _ _ _ (stack >>= _) _ _ _
  refine wpAt_bind (wpAt_stack fun p below => wpAt_of_wpAny ?_)
  wp_walk
  refine wpAt_of_wpAny ?_
  rw [F.owner]
  repeat (first
    | with_reducible refine wpAny_madeHere_exc F.canon hC ?_
    | with_reducible refine wpAny_loadPart_at hC ?_
    | (with_reducible refine wpAny_isSubtype_exc hC ?_; first | rw [y1] | rw [y2] | rw [y3])
    | wp_step)
  show R _ _
  rw [Heap.size_push]
  exact hq
theorem kwTypeCall (F : ExcBaseFacts B newId initId bmB) (hT : ∀ X : String, bm.contains (.type X) = bmB.contains (.type X)) {l : List Value} {kw : List (Str × Value)} {fI : Addr} {Q : Fin → Shared → Prop}
    (hC : h.get? C = some (excClassObj nm q C N bs bm hdct sn sub ab col dd k0 k1 k2 k3 k5 newId)) (hi : W.Looks (model prog w) h (typeLookup (.ref C) "__init__") (some (.ref fI)))
    (hb : ∀ self, W.Looks (model prog w) h (bindSpecial (.ref fI) self) (.ref fI, [self])) (hl : l.length ≤ sizeLine)
    (hq : codeAny (model prog w) A (.call (.ref fI) ⟨.ref (h.objs.size + 1) :: l, kw⟩)
      (fun r s' => match r with
        | .ok (.ret v) => v = .none ∧ Q (.done (.ret (.ref (h.objs.size + 1)))) s'
        | .ok _ => False
        | .error e => E e s')
      ⟨(h.push (W.kdv_tup l)).push (excO C h.objs.size), g, d, t, os⟩) :
    wpAny (model prog w) A (Builtin.«type.__call__» ⟨.ref C :: l, kw⟩) Q E ⟨h, g, d, t, os⟩ := by
  repeat (first
    | with_reducible refine wpAny_loadPart_at hC ?_
    | with_reducible refine wpAny_madeBy_exc hC ?_
    | wp_step)
  refine codeAny_call_builtin_code (Code.quiet_builtin _ F.quiet) (kwCheckNew F hT hC ?_)
  refine kwNew F hT hC hl ?_
  show wpAny _ _ _ _ _ _
  have kp : ∀ b o, h.get? b = some o → ((h.push (W.kdv_tup l)).push (excO C h.objs.size)).get? b = some o := fun b o e =>
    Heap.get?_push_of_some _ (Heap.get?_push_of_some _ e)
  have hC2 := kp _ _ hC
  have he : ((h.push (W.kdv_tup l)).push (excO C h.objs.size)).get? (h.objs.size + 1) = some (excO C h.objs.size) := by heap_get
  have sub2 : (Value.ref C :: bm).contains (.ref C) = true := by simp
  have i2 := hi.keeps kp
  have b2 := (hb (.ref (h.objs.size + 1))).keeps kp
  unfold isInstance
  repeat (first
    | with_reducible refine wpAny_loadPart_at he ?_
    | (with_reducible refine wpAny_isSubtype_exc hC2 ?_; rw [sub2])
    | wp_step)
  show wpAny _ _ (typeLookup (.ref C) _) _ _ _
  refine i2.at ?_
  refine wpAny_holding (wpAny_bind (b2.at ?_))
  refine wpAny_bind (wpAny_call (codeAny_mono hq fun r s' z => ?_))
  rcases r with e | (v | _ | _ | _) <;> first | exact z.elim | exact z | skip
  obtain ⟨rfl, z2⟩ := z
  first
    | exact wpAny_pure (wpAny_pure z2)
    | (wp_walk; exact z2)
/-- C(.., ..): the new object, then the own __init__ -/
theorem kwCall (F : ExcBaseFacts B newId initId bmB) (hT : ∀ X : String, bm.contains (.type X) = bmB.contains (.type X)) {l : List Value} {kw : List (Str × Value)} {fI : Addr}
    (hC : h.get? C = some (excClassObj nm q C N bs bm hdct sn sub ab col dd k0 k1 k2 k3 k5 newId)) (hi : W.Looks (model prog w) h (typeLookup (.ref C) "__init__") (some (.ref fI)))
    (hb : ∀ self, W.Looks (model prog w) h (bindSpecial (.ref fI) self) (.ref fI, [self])) (hl : l.length ≤ sizeLine)
    (hq : codeAny (model prog w) (A.under (.builtin "type.__call__" ⟨.ref C :: l, kw⟩)) (.call (.ref fI) ⟨.ref (h.objs.size + 1) :: l, kw⟩) (W.InitBack (h.objs.size + 1) R)
      ⟨(h.push (W.kdv_tup l)).push (excO C h.objs.size), g, d, t, os⟩) :
    codeAny (model prog w) A (.call (.ref C) ⟨l, kw⟩) R ⟨h, g, d, t, os⟩ := by
  have z1 := tc_bind (.ref C)
  have z2 := tc_lookup
  have ty : (⟨h, g, d, t, os⟩ : Shared).TypeIs (.ref C) "type" := ⟨_, hC, rfl⟩
  refine codeAny_of_tree ?_
  show wpAny _ _ (callAny (.ref C) _) _ _ _
  repeat (any_goals (first | assumption | with_reducible refine wpAny_loadPart_at hC ?_ | wp_step))
  refine ⟨rfl, ?_⟩
  refine codeAny_call_builtin_at (Code.quiet_builtin _ (by decide +kernel)) entry_typeCall (kwCheckCall hC (kwTypeCall F hT hC hi hb hl ?_))
  refine codeAny_mono hq fun r s' z => ?_
  rcases r with e | (v | _ | _ | _) <;> exact z
end
end LwX
end PySem
end
section
set_option maxRecDepth 100000
set_option maxHeartbeats 4000000
namespace Lw
open PySem PySem.Spec PyProof.Rows L2
theorem Same.new {H : Hp} {l : Addr} {o : HO} (h : H l = none) : Same H (upd H l o) := fun b u e => by
  rw [upd_ne (ne_of_none e h)]
  exact e
/-- what the written part says of an own exception class over ValueError -/
structure ExK (K : PySem.W.Frag) (C : Addr) : Prop extends OexC K C, ExcC K C
section
variable {X : Cx} {CX : CXT} {k : Nat} {C fI : Addr} {fd : FuncData} {ps : List Str} {sp : Sp}
/-- the call of such a class: a new exception, then its own __init__ -/
theorem run_exc {pins : List (Addr × Obj)} {σ : L2.St} {H : Hp} {s : Shared} {Q : VK} {us all : List Value} {kw : List (Str × Value)} {zs : List V} (T : OexC X.K C)
    (iC : PySem.W.findIn X.K (.ref C) "__init__" = some (some (.ref fI))) (tI : PySem.W.typeIn X.K (.ref fI) = some (.type "function")) (G : FnOk X.prog X.w X.K X.mg X.base CX k fI fd ps sp)
    (hr : Room (k + 1) X.A) (hx : Passes CX X (fun _ _ _ => False)) (I : Inv X pins σ H s) (hus : us.length ≤ sizeLine) (rz : Vals zs all)
    (bt : ∀ (s' : Shared) (a : Addr), X.K.In s'.heap → BindsTo s' fd ⟨.ref a :: us, kw⟩ (ps.zip (.ref a :: all)))
    (h : ∀ a, H a = none → sp (.ref a :: zs) (upd H a (exo a C none)) (fun v H2 => v = .non ∧ Q (.ref a) H2) (fun _ _ _ => False)) :
    wpAny (model X.prog X.w) X.A (call (.ref C) us kw) (EP X pins σ Q) X.xe s := by
  obtain ⟨nm, q, N, bs, bm, sn, sub, ab, col, dd, k0, k1, k2, k3, k5, hC, hbm⟩ := T.cls
  obtain ⟨hp, g, dr, tk, os⟩ := s
  have big : hp.objs.size ≤ hp.objs.size + 1 := Nat.le_succ _
  have free : H (hp.objs.size + 1) = none := I.hok.fresh big
  have hq := h (hp.objs.size + 1) free
  have kp : ∀ b o, hp.get? b = some o → ((hp.push (PySem.W.kdv_tup us)).push (PySem.HandSPX.excO C hp.objs.size)).get? b = some o := fun b o e =>
    Heap.get?_push_of_some _ (Heap.get?_push_of_some _ e)
  have he : ((hp.push (PySem.W.kdv_tup us)).push (PySem.HandSPX.excO C hp.objs.size)).get? (hp.objs.size + 1) = some (PySem.HandSPX.excO C hp.objs.size) := by heap_get
  have J : Inv X pins σ (upd H (hp.objs.size + 1) (exo (hp.objs.size + 1) C none)) ⟨(hp.push (PySem.W.kdv_tup us)).push (PySem.HandSPX.excO C hp.objs.size), g, dr, tk, os⟩ :=
    I.laid (t' := tk) (a := hp.objs.size + 1) (o := exo (hp.objs.size + 1) C none) (h' := (hp.push (PySem.W.kdv_tup us)).push (PySem.HandSPX.excO C hp.objs.size)) kp big (exo_ok he)
  have rv : Vals (V.ref (hp.objs.size + 1) :: zs) (Value.ref (hp.objs.size + 1) :: all) := .cons rfl rz
  refine wpAny_call (PySem.LwX.kwCall F.excBase_ValueError (fun Y => PySem.HandSPX.refsVE_contains Y bm hbm) (I.kIn _ _ hC) (PySem.W.looks_findIn I.kIn iC) (fun self => PySem.W.bind_fn I.kIn self tI) hus
    (codeAny_mono (G.run _ X.stack _ _ ⟨Value.ref (hp.objs.size + 1) :: us, kw⟩ (Value.ref (hp.objs.size + 1) :: all) _ _ (fun _ _ _ => False) (hr.make C us kw) (J.env0.make C us kw) (bt _ _ J.kIn) rv hq) fun r s' z => ?_))
  cases r with
  | error er => exact hx pins σ _ _ er s' J z
  | ok fl =>
    cases fl with
    | ret u =>
      obtain ⟨v, H', I3, r3, ev, q3⟩ := J.after z
      subst ev
      exact ⟨r3, ⟨V.ref (hp.objs.size + 1), H', I3, rfl, q3⟩⟩
    | next => exact False.elim z
    | brk => exact False.elim z
    | cont => exact False.elim z
end

/-! ### the own __init__ that stores its arguments -/
/-- __init__(self, f): self.f = f -/
def spI1 (C : Addr) (f : Str) : Sp := fun vs H Q _ => ∃ (a : Addr) (v : V), vs = [.ref a, v] ∧ H a = some (exo a C none) ∧ ∀ d, H d = none → d ≠ a → Q .non (upd (upd H d (exd d [(f, v)])) a (exo a C (some d)))
/-- __init__(self, f, g): self.f = f; self.g = g -/
def spI2 (C : Addr) (f g : Str) : Sp := fun vs H Q _ => ∃ (a : Addr) (v u : V), vs = [.ref a, v, u] ∧ H a = some (exo a C none) ∧ ∀ d, H d = none → d ≠ a → Q .non (upd (upd (upd H d (exd d [(f, v)])) a (exo a C (some d))) d (exd d [(g, u), (f, v)]))
/-- a made exception: its class, its fields; all that stood stands -/
def Made (C : Addr) (fs : List (Str × V)) (H H2 : Hp) (a d : Addr) : Prop := Same H H2 ∧ H2 a = some (exo a C (some d)) ∧ H2 d = some (exd d fs)
theorem made1 {C a d : Addr} {f : Str} {v : V} {H : Hp} (ha : H a = none) (hd : upd H a (exo a C none) d = none) (ne : d ≠ a) :
    Made C [(f, v)] H (upd (upd (upd H a (exo a C none)) d (exd d [(f, v)])) a (exo a C (some d))) a d := by
  refine ⟨fun b o e => ?_, upd_same, by rw [upd_ne ne]; exact upd_same⟩
  have n1 : b ≠ a := ne_of_none e ha
  have n2 : b ≠ d := by
    refine ne_of_none (H := upd H a (exo a C none)) (o := o) ?_ hd
    rw [upd_ne n1]
    exact e
  rw [upd_ne n1, upd_ne n2, upd_ne n1]
  exact e
theorem made2 {C a d : Addr} {f g : Str} {v u : V} {H : Hp} (ha : H a = none) (hd : upd H a (exo a C none) d = none) (ne : d ≠ a) :
    Made C [(g, u), (f, v)] H (upd (upd (upd (upd H a (exo a C none)) d (exd d [(f, v)])) a (exo a C (some d))) d (exd d [(g, u), (f, v)])) a d := by
  obtain ⟨s1, s2, _⟩ := made1 (f := f) (v := v) ha hd ne
  refine ⟨fun b o e => ?_, by rw [upd_ne ne.symm]; exact s2, upd_same⟩
  have n1 : b ≠ a := ne_of_none e ha
  have n2 : b ≠ d := by
    refine ne_of_none (H := upd H a (exo a C none)) (o := o) ?_ hd
    rw [upd_ne n1]
    exact e
  rw [upd_ne n2]
  exact s1 b o e
/-- what is told of a new exception of C with n arguments: vs in the order of the parameters -/
def Exc1 (C : Addr) (f : Str) (vs : List V) (H : Hp) (Q : VK) : Prop := ∃ v, vs = [v] ∧ ∀ a d H2, Made C [(f, v)] H H2 a d → Q (.ref a) H2
def Exc2 (C : Addr) (f g : Str) (vs : List V) (H : Hp) (Q : VK) : Prop := ∃ v u, vs = [v, u] ∧ ∀ a d H2, Made C [(g, u), (f, v)] H H2 a d → Q (.ref a) H2
/-- an own exception class with its own __init__ of one field -/
structure Cl1 (P : Program) (w : World) (K : PySem.W.Frag) (mg : Str → Option Value) (base : Heap) (nm f : Str) (C fI : Addr) (fd : FuncData) : Prop extends ExK K C where
  gl : mg nm = some (.ref C)
  ini : PySem.W.findIn K (.ref C) "__init__" = some (some (.ref fI))
  typ : PySem.W.typeIn K (.ref fI) = some (.type "function")
  fn : FnOk P w K mg base CX0 1 fI fd ["self", f] (spI1 C f)
  bp : ∀ (s : Shared) (x v : Value), BindsTo s fd ⟨[x, v], []⟩ [("self", x), (f, v)]
  bk : ∀ (s : Shared) (x v : Value), BindsTo s fd ⟨[x], [(f, v)]⟩ [("self", x), (f, v)]
  no : PySem.W.findIn K (.ref C) f = some none
structure Cl2 (P : Program) (w : World) (K : PySem.W.Frag) (mg : Str → Option Value) (base : Heap) (nm f g : Str) (C fI : Addr) (fd : FuncData) : Prop extends ExK K C where
  gl : mg nm = some (.ref C)
  ini : PySem.W.findIn K (.ref C) "__init__" = some (some (.ref fI))
  typ : PySem.W.typeIn K (.ref fI) = some (.type "function")
  fn : FnOk P w K mg base CX0 1 fI fd ["self", f, g] (spI2 C f g)
  bp : ∀ (s : Shared) (x v u : Value), BindsTo s fd ⟨[x, v, u], []⟩ [("self", x), (f, v), (g, u)]
  bk : ∀ (s : Shared) (x v u : Value), BindsTo s fd ⟨[x], [(f, v), (g, u)]⟩ [("self", x), (f, v), (g, u)]
  bq : ∀ (s : Shared) (x v u : Value), BindsTo s fd ⟨[x], [(g, u), (f, v)]⟩ [("self", x), (f, v), (g, u)]
  no : PySem.W.findIn K (.ref C) f = some none
  no2 : PySem.W.findIn K (.ref C) g = some none
section
variable {X : Cx} {C fI : Addr} {fd : FuncData} {nm f g : Str} {e : Expr} {es : List Expr} {kws : List Keyword} {t tk : TA} {p pos : Pos}
theorem big2 {l : List V} {us : List Value} (r : Vals l us) (h : l.length ≤ 2) : us.length ≤ sizeLine := by
  rw [← Paired.length r, sizeLine_eq]
  omega
/-- C(e) -/
theorem pe_e1 (T : Cl1 X.prog X.w X.K X.mg X.base nm f C fI fd) (hr : Room 2 X.A) (hg : Gl X nm) (hx : Passes CX0 X (fun _ _ _ => False)) (ha : PA X (e :: es) t)
    (hdb : (nm == ("__debug__" : Str)) = false := by decide) (he : starEach (e :: es) X.env = (false, eval e X.env) :: starEach es X.env := by rfl) (hpl : (backTo pos (starEach es X.env)).any (·.1) = false := by rfl) :
    PE X (.Call (.Name nm p) (e :: es) [] pos) (fun σ H Q => t σ H fun vs H1 => Exc1 C f vs H1 Q) := by
  refine ⟨fun pins s σ H Q I h => ?_⟩
  refine wpAny_Call_Name_kw (ld_glob I hg T.gl ?_ hdb)
  refine PySem.W.callWith_K (h₀ := X.base) I.ok.mod.kin T.kC (thn (ha.run pos pins s σ H _ I h) fun us s1 ⟨vs, H1, I1, r, v, ev, q⟩ => ⟨I1.kIn, ?_⟩) he hpl
  subst ev
  have hz := big2 r (by simp)
  obtain ⟨u, rfl, ru⟩ := vals1 r
  refine run_exc (all := [u]) (zs := [v]) T.toOexC T.ini T.typ T.fn hr hx I1 hz (.cons ru .nil) (fun s' a _ => T.bp s' (.ref a) u) fun a na => ?_
  exact ⟨a, v, rfl, upd_same, fun d nd ne => ⟨rfl, q a d _ (made1 na nd ne)⟩⟩
/-- C(f=e) -/
theorem pe_e1k (T : Cl1 X.prog X.w X.K X.mg X.base nm f C fI fd) (hr : Room 2 X.A) (hg : Gl X nm) (hx : Passes CX0 X (fun _ _ _ => False)) (hkw : PK X kws tk)
    (hall : (backToKw pos (keywordEach kws X.env)).all (·.1.isSome) = true := by rfl) (hks : (backToKw pos (keywordEach kws X.env)).filterMap (·.1) = [f] := by rfl) (hdb : (nm == ("__debug__" : Str)) = false := by decide)
    (hpl : ((backTo pos (starEach [] X.env)).any (·.1) || (backToKw pos (keywordEach kws X.env)).any (·.1.isNone)) = false := by rfl) :
    PE X (.Call (.Name nm p) [] kws pos) (fun σ H Q => tk σ H fun vs H1 => Exc1 C f vs H1 Q) := by
  refine ⟨fun pins s σ H Q I h => ?_⟩
  refine wpAny_Call_Name_kw (ld_glob I hg T.gl ?_ hdb)
  refine PySem.W.callWith_KW0 (h₀ := X.base) I.ok.mod.kin T.kC hall ?_ hpl
  refine thn (hkw.run pos pins s σ H _ I h) fun ws s1 ⟨vs, H1, I1, r, v, ev, q⟩ => ⟨I1.kIn, ?_⟩
  rw [hks]
  subst ev
  obtain ⟨u, rfl, ru⟩ := vals1 r
  refine run_exc (us := []) (kw := [(f, u)]) (all := [u]) (zs := [v]) T.toOexC T.ini T.typ T.fn hr hx I1 (Nat.zero_le _) (.cons ru .nil) (fun s' a _ => T.bk s' (.ref a) u) fun a na => ?_
  exact ⟨a, v, rfl, upd_same, fun d nd ne => ⟨rfl, q a d _ (made1 na nd ne)⟩⟩
/-- C(e, e') -/
theorem pe_e2 (T : Cl2 X.prog X.w X.K X.mg X.base nm f g C fI fd) (hr : Room 2 X.A) (hg : Gl X nm) (hx : Passes CX0 X (fun _ _ _ => False)) (ha : PA X (e :: es) t)
    (hdb : (nm == ("__debug__" : Str)) = false := by decide) (he : starEach (e :: es) X.env = (false, eval e X.env) :: starEach es X.env := by rfl) (hpl : (backTo pos (starEach es X.env)).any (·.1) = false := by rfl) :
    PE X (.Call (.Name nm p) (e :: es) [] pos) (fun σ H Q => t σ H fun vs H1 => Exc2 C f g vs H1 Q) := by
  refine ⟨fun pins s σ H Q I h => ?_⟩
  refine wpAny_Call_Name_kw (ld_glob I hg T.gl ?_ hdb)
  refine PySem.W.callWith_K (h₀ := X.base) I.ok.mod.kin T.kC (thn (ha.run pos pins s σ H _ I h) fun us s1 ⟨vs, H1, I1, r, v, v2, ev, q⟩ => ⟨I1.kIn, ?_⟩) he hpl
  subst ev
  have hz := big2 r (by simp)
  obtain ⟨u, u2, rfl, ru, ru2⟩ := vals2 r
  refine run_exc (all := [u, u2]) (zs := [v, v2]) T.toOexC T.ini T.typ T.fn hr hx I1 hz (.cons ru (.cons ru2 .nil)) (fun s' a _ => T.bp s' (.ref a) u u2) fun a na => ?_
  exact ⟨a, v, v2, rfl, upd_same, fun d nd ne => ⟨rfl, q a d _ (made2 na nd ne)⟩⟩
/-- C(g=e', f=e) -/
theorem pe_e2q (T : Cl2 X.prog X.w X.K X.mg X.base nm f g C fI fd) (hr : Room 2 X.A) (hg : Gl X nm) (hx : Passes CX0 X (fun _ _ _ => False)) (hkw : PK X kws tk)
    (hall : (backToKw pos (keywordEach kws X.env)).all (·.1.isSome) = true := by rfl) (hks : (backToKw pos (keywordEach kws X.env)).filterMap (·.1) = [g, f] := by rfl) (hdb : (nm == ("__debug__" : Str)) = false := by decide)
    (hpl : ((backTo pos (starEach [] X.env)).any (·.1) || (backToKw pos (keywordEach kws X.env)).any (·.1.isNone)) = false := by rfl) :
    PE X (.Call (.Name nm p) [] kws pos) (fun σ H Q => tk σ H fun vs H1 => ∃ u v, vs = [u, v] ∧ ∀ a d H2, Made C [(g, u), (f, v)] H1 H2 a d → Q (.ref a) H2) := by
  refine ⟨fun pins s σ H Q I h => ?_⟩
  refine wpAny_Call_Name_kw (ld_glob I hg T.gl ?_ hdb)
  refine PySem.W.callWith_KW0 (h₀ := X.base) I.ok.mod.kin T.kC hall ?_ hpl
  refine thn (hkw.run pos pins s σ H _ I h) fun ws s1 ⟨vs, H1, I1, r, v2, v, ev, q⟩ => ⟨I1.kIn, ?_⟩
  rw [hks]
  subst ev
  obtain ⟨u2, u, rfl, ru2, ru⟩ := vals2 r
  refine run_exc (us := []) (kw := [(g, u2), (f, u)]) (all := [u, u2]) (zs := [v, v2]) T.toOexC T.ini T.typ T.fn hr hx I1 (Nat.zero_le _) (.cons ru (.cons ru2 .nil)) (fun s' a _ => T.bq s' (.ref a) u u2) fun a na => ?_
  exact ⟨a, v, v2, rfl, upd_same, fun d nd ne => ⟨rfl, q a d _ (made2 na nd ne)⟩⟩
end

/-! ### a made exception: its field; isinstance -/
section
variable {X : Cx} {e : Expr} {te : TE} {n : Str} {pos : Pos}
/-- x.n, x a made exception with a dict -/
def tEf (K : PySem.W.Frag) (n : Str) (te : TE) : TE := fun σ H Q => te σ H fun x H1 => ∃ (a C d : Addr) (fs : List (Str × V)) (v : V), x = .ref a ∧ ExK K C ∧ PySem.W.findIn K (.ref C) n = some none ∧ H1 a = some (exo a C (some d)) ∧ H1 d = some (exd d fs) ∧ fs.lookup n = some v ∧ Q v H1
theorem pe_ef (he : PE X e te) (hb : attributeBase e n X.env (eval e X.env) = eval e X.env := by rfl) : PE X (.Attribute e n pos) (tEf X.K n te) := by
  refine ⟨fun pins s σ H Q I h => ?_⟩
  refine attr_of hb (thn (he.run pins s σ H _ I h) fun u s1 hh => ?_)
  obtain ⟨x, H1, I1, rx, a, C, d, fs, v, ex, T, no, ea, ed, l, q⟩ := hh
  subst ex
  obtain rfl : u = Value.ref a := rx
  obtain ⟨t1, ho⟩ := exo_at I1.hok ea
  obtain ⟨mA, hns, hr⟩ := exd_at I1.hok ed
  obtain ⟨od, hod, hl⟩ := lookIn_ns hns
  obtain ⟨w, hw, rw'⟩ := RelO.some_of (v := v) (o := mA n) (by rw [← l]; exact hr n)
  have J : PySem.W.InstAt s1.heap a ({ cls := .ref C, dict := some d, data := .fields #[.ref t1, .none, .none, .none, .bool false, .none] } : Obj) C (some od) := ⟨ho, rfl, rfl, hod⟩
  exact PySem.HandSPX.exc_get I1.kIn J T.hg T.hk T.hs (PySem.W.findObj_own T.hd no rfl (by rw [hl, hw])) (handed_of rw') ⟨v, H1, I1.tok _, rw', q⟩
end
/-- at a stands an exception of the class at C -/
def TyE (H : Hp) (a C : Addr) : Prop := (∃ d fs, H a = some (exo a C (some d)) ∧ H d = some (exd d fs)) ∨ H a = some (ExO (.ref C) a)
/-- isinstance(x, c), x such an exception -/
def rEi (K : PySem.W.Frag) : List V → Hp → VK → Prop := fun xs H Q => ∃ (a C : Addr) (c : V) (cv : Value) (b : Bool), xs = [.ref a, c] ∧ TyE H a C ∧ ExcC K C ∧ ClsV c cv ∧ PySem.W.kitOne K (.ref C) cv = some b ∧ Q (.bl b) H
section
variable {X : Cx}
theorem call_ei : CallR X (.builtin "isinstance") (rEi X.K) := by
  intro pins s σ H xs us Q I r h
  obtain ⟨a, C, c, cv, b, rfl, ty, T, hc, e, q⟩ := h
  obtain ⟨u1, u2, rfl, r1, r2⟩ := vals2 r
  have e2 := hc.eq r2
  subst e2
  cases r1
  have hcl : (PySem.W.clsIn X.K C).isSome = true := by
    obtain ⟨cd, h1, _⟩ := PySem.W.any_some T.hd
    rw [h1]
    rfl
  rcases ty with ⟨d, fs, ea, ed⟩ | ea
  · obtain ⟨t1, ho⟩ := exo_at I.hok ea
    obtain ⟨mA, hns, _⟩ := exd_at I.hok ed
    obtain ⟨od, hod, _⟩ := lookIn_ns hns
    have J : PySem.W.InstAt s.heap a ({ cls := .ref C, dict := some d, data := .fields #[.ref t1, .none, .none, .none, .bool false, .none] } : Obj) C (some od) := ⟨ho, rfl, rfl, hod⟩
    exact PySem.W.kia_one (PySem.W.kitx_exc hcl T.hg T.hk T.hs T.ha T.hn T.ht T.hm) I.kIn J e (fun z => nomatch z) fun tk => ⟨.bl b, H, I.tok tk, rfl, q⟩
  · obtain ⟨⟨oe, vs, ho, hz, hv, _⟩, _, _⟩ := I.hok a _ ea
    have J : PySem.W.InstAt s.heap a oe C none := by
      obtain ⟨oc, od, oda, osl⟩ := oe
      obtain ⟨h1, h2⟩ := hz
      dsimp only at h1 h2 hv
      subst h1 h2 hv
      exact ⟨ho, rfl, rfl, trivial⟩
    exact PySem.W.kia_one (PySem.W.kitx_exc hcl T.hg T.hk T.hs T.ha T.hn T.ht T.hm) I.kIn J e (fun z => nomatch z) fun tk => ⟨.bl b, H, I.tok tk, rfl, q⟩
end
section
variable {X : Cx} {pos : Pos}
/-- C(), an own exception class without own __init__ -/
theorem pe_x0 {C : Addr} {bmB : List Value} {B newId initId : String} {x : Str} {p : Pos} (F : ExcBaseFacts B newId initId bmB) (q : PySem.W.excIn X.K C bmB newId = true) (gC : X.mg x = some (.ref C)) (kC : PySem.W.keepIn X.K (.ref C) = true) (hg : Gl X x)
    (hdb : (x == ("__debug__" : Str)) = false := by decide) :
    PE X (.Call (.Name x p) [] [] pos) (fun σ H Q => ∀ a H2, Same H H2 → H2 a = some (ExO (.ref C) a) → Q (.ref a) H2) := by
  refine ⟨fun pins s σ H Q I h => ?_⟩
  refine wpAny_Call_Name_kw (ld_glob I hg gC ?_ hdb)
  refine PySem.W.callWith_K0 I.kIn kC ?_
  show wpAny _ _ (call (.ref C) []) _ _ _
  obtain ⟨bm, N, nm, qn, bs, hdct, sn, sub, ab, col, dd, k0, k1, k2, k3, k5, mN, hC, hN, hni, T⟩ := exc_obj I.kIn q
  refine wpAny_call_exc_subT F T hC hN hni (fun h' a hm => ?_) (Nat.zero_le _)
  have hn : H a = none := I.hok.gone hm.new
  obtain ⟨t, ht, _, _⟩ := hm.there
  exact ⟨.ref a, upd H a (ExO (.ref C) a), I.laidN hm.keeps hm.new hn (exO_ok ht ⟨rfl, rfl⟩ rfl rfl rfl (show 4 < 6 by decide)), rfl, h a _ (Same.new hn) upd_same⟩
/-- at a: an exception of a built-in class -/
def exv (T : String) (a : Addr) : HO := .ext fun h => ∃ o, h.get? a = some o ∧ o.cls = .type T
/-- ValueError(..) as a value -/
theorem call_VE : CallR X (.type "ValueError") (fun xs H Q => xs.length ≤ 2 ∧ ∀ a H2, Same H H2 → H2 a = some (exv "ValueError" a) → Q (.ref a) H2) := by
  intro pins s σ H xs us Q I r h
  obtain ⟨hl, q⟩ := h
  obtain ⟨hp, g, d, t, os⟩ := s
  refine wpAny_call_exc PySem.F.excCall_ValueError (fun h' a hm => ?_) (big2 r hl)
  have hn : H a = none := I.hok.gone hm.new
  obtain ⟨t2, ht, _, _⟩ := hm.there
  refine ⟨.ref a, upd H a (exv "ValueError" a), I.laidN hm.keeps hm.new hn ?_, rfl, q a _ (Same.new hn) upd_same⟩
  exact ⟨⟨_, ht, rfl⟩, ⟨_, ht⟩, fun h1 h2 ⟨o, z1, z2⟩ kk => ⟨o, kk o z1, z2⟩⟩
/-- isinstance(x, c), x a ValueError -/
def rVi (K : PySem.W.Frag) : List V → Hp → VK → Prop := fun xs H Q => ∃ (a : Addr) (c : V) (cv : Value) (b : Bool), xs = [.ref a, c] ∧ H a = some (exv "ValueError" a) ∧ ClsV c cv ∧ PySem.W.kitOne K (.type "ValueError") cv = some b ∧ Q (.bl b) H
theorem call_vi : CallR X (.builtin "isinstance") (rVi X.K) := by
  intro pins s σ H xs us Q I r h
  obtain ⟨a, c, cv, b, rfl, ea, hc, e, q⟩ := h
  obtain ⟨u1, u2, rfl, r1, r2⟩ := vals2 r
  have e2 := hc.eq r2
  subst e2
  cases r1
  obtain ⟨⟨o, ho, hcl⟩, _⟩ := I.hok a _ ea
  exact PySem.W.kia_one (PySem.W.kitx_bexc PySem.F.excAttr_ValueError (by kernel_rfl) (by kernel_rfl) (by decide +kernel)) I.kIn ⟨o, ho, hcl⟩ e (fun z => nomatch z) fun tk => ⟨.bl b, H, I.tok tk, rfl, q⟩
end
end Lw
end
section
set_option maxRecDepth 100000
set_option maxHeartbeats 4000000
/-! Defs that are called where no repr is under way; repr of data. -/
namespace Lw
open PySem PySem.Spec PyProof.Rows L2
/-- what a def promises where no repr is under way -/
structure FnG (P : Program) (w : World) (K : PySem.W.Frag) (mg : Str → Option Value) (base : Heap) (CX : CXT) (k : Nat) (f : Addr) (fd : FuncData) (ps : List Str) (sp : Sp) : Prop where
  len : ∀ vs H Q E, sp vs H Q E → vs.length = ps.length
  run : ∀ (A : Around) (outer : List Env) (s : Shared) (H : Hp) (args : Args) (us : List Value) (vs : List V) (Q : VK) (E : XK), A.guards = some [] → Room k A → Env0 P w K mg base A outer s H →
    BindsTo s fd args (ps.zip us) → Vals vs us → sp vs H Q E → codeAny (model P w) A (.call (.ref f) args) (CR CX outer P w H s Q E) s
theorem FnG.of {P : Program} {w : World} {K : PySem.W.Frag} {mg : Str → Option Value} {base : Heap} {CX : CXT} {k : Nat} {f : Addr} {fd : FuncData} {ps : List Str} {sp : Sp} (F : FnOk P w K mg base CX k f fd ps sp) : FnG P w K mg base CX k f fd ps sp :=
  ⟨F.len, fun A outer s H args us vs Q E _ => F.run A outer s H args us vs Q E⟩
theorem fnG_of {CX : CXT} {P : Program} {w : World} {K : PySem.W.Frag} {mg : Str → Option Value} {base : Heap} {k : Nat} {f : Addr} {name qual : Str} {params : Arguments} {body : List Stmt} {scope : Scope} {dV kV doc pm cdv ct oc : Value} {an od : Option Addr}
    {osl : Array (Option Value)} {N ps : List Str} {sp : Sp} (hK : K.lookup f = some ⟨oc, od, .func (PySem.W.fnOf name qual params body scope dV kV doc pm an cdv ct), osl⟩) (hc : PySem.W.codeIn K cdv qual = true) (S : FnScope N ps scope)
    (len : ∀ vs H Q E, sp vs H Q E → vs.length = ps.length)
    (walk : ∀ (A : Around) (outer : List Env) (s : Shared) (H : Hp) (vs : List V) (Q : VK) (E : XK), A.guards = some [] → Room k (A.deeper (envOfC qual scope s.heap.objs.size f cdv)) → sp vs H Q E →
      ∃ t, PSs (cxOf CX P w K mg base N qual scope f cdv A outer s H E) body t ∧ t { nx := fun _ H' => Q .non H', rt := Q } (start N vs) H) :
    FnG P w K mg base CX (k + 1) f (PySem.W.fnOf name qual params body scope dV kV doc pm an cdv ct) ps sp := by
  refine ⟨len, fun A outer s H args us vs Q E hG hr e0 hb rv hs => ?_⟩
  have hn := len _ _ _ _ hs
  have kin : K.In s.heap := e0.mod.kin.keeps fun b o z => (e0.bs b o z).1
  have lim : s.heap.NoLimit := e0.mod.nolimit.keeps fun b o z => (e0.bs b o z).1
  have kinds : ∀ y ∈ ps.zip us, scope.names.lookup y.1 = some .local ∨ (scope.names.lookup y.1 = some .cell ∧ ((cellsFrom (s.heap.objs.size + 1) scope.names []).lookup y.1).isSome = true) := by
    rintro ⟨n, v⟩ hy
    have z := S.par n (List.of_mem_zip hy).1
    exact z.imp id fun q => ⟨q, PySem.W.cellsFrom_some _ _ _ (.inl q)⟩
  refine codeAny_call_function hr.depth (kin _ _ hK) rfl S.co S.gen rfl (PySem.W.codeRec_of kin hc) (hb _ _ _ _ ?_)
  refine wpAny_newFunctionEnv_cells S.kind kinds fun env he s1 x => ?_
  subst he
  refine ⟨lim.keeps x.toInCall.keep, codeAny_func ?_⟩
  obtain ⟨t, ht, hq⟩ := walk A outer s H vs Q E hG (hr.deeper _) hs
  have J : Inv (cxOf CX P w K mg base N qual scope f cdv A outer s H E) [] (start N vs) H s1 := inv_start S hr.hd e0 hn rv x
  refine wpAny_mono (ht.run [] s1 (start N vs) H _ J hq) (fun fl s' z => ?_) fun e s' z => z
  have leave : ∀ {τ : L2.St} {H' : Hp} {v : V} {u : Value}, Inv (cxOf CX P w K mg base N qual scope f cdv A outer s H E) [] τ H' s' → RelV v u → Q v H' → CE outer P w H s Q u s' :=
    fun {τ H' v u} I rr q => ⟨v, H', I.os, I.bare, I.base, I.hok, rr, q⟩
  cases fl with
  | ret u =>
    obtain ⟨v, τ, H', I, rr, q⟩ := z
    exact leave I rr q
  | next =>
    obtain ⟨τ, H', I, q⟩ := z
    exact leave (v := V.non) (u := Value.none) I rfl q
  | brk =>
    obtain ⟨_, _, _, q⟩ := z
    exact False.elim q
  | cont =>
    obtain ⟨_, _, _, q⟩ := z
    exact False.elim q
section
variable {P : Program} {w : World} {K : PySem.W.Frag} {mg : Str → Option Value} {base : Heap}
/-- the rule for a def of the text -/
theorem okG {x qual : Str} {st : Stmt} {f : Addr} {fd : FuncData} {N ps : List Str} {k : Nat} {sp : Sp} (F : Fun K x qual st f fd) (S : FnScope N ps (defScope st)) (len : ∀ vs H Q E, sp vs H Q E → vs.length = ps.length)
    (walk : ∀ (cdv : Value) (A : Around) (outer : List Env) (s : Shared) (H : Hp) (vs : List V) (Q : VK) (E : XK), (A.deeper (envOfC qual (defScope st) s.heap.objs.size f cdv)).guards = some [] → Room k (A.deeper (envOfC qual (defScope st) s.heap.objs.size f cdv)) → sp vs H Q E →
      ∃ t, PSs (cxOf CX0 P w K mg base N qual (defScope st) f cdv A outer s H E).nox (defBody st) t ∧ t { nx := fun _ H' => Q .non H', rt := Q } (start N vs) H) : FnG P w K mg base CX0 (k + 1) f fd ps sp := by
  obtain ⟨oc, od, kV, doc, pm, an, cdv, ct, osl, rfl, lk, hcd⟩ := F.ex
  refine fnG_of lk hcd S len fun A outer s H vs Q E hg hr hsp => ?_
  obtain ⟨t, h, q⟩ := walk cdv A outer s H vs Q E hg hr hsp
  exact ⟨t, h.nox, q⟩
end
section
variable {X : Cx} {CX : CXT} {k : Nat} {f : Addr} {fd : FuncData} {ps : List Str} {sp : Sp} {ds : List Value} {dvs : List V} {E : XK} {x : Str} {p pos : Pos} {e : Expr} {es : List Expr} {t : TA}
theorem run_fnG {pins : List (Addr × Obj)} {σ : L2.St} {H : Hp} {s : Shared} {Q : VK} {us : List Value} {vs : List V} (F : FnG X.prog X.w X.K X.mg X.base CX k f fd ps sp) (hG : X.A.guards = some []) (hr : Room k X.A) (hb : Binds X.K fd ps ds) (hd : Vals dvs ds)
    (hx : Passes CX X E) (I : Inv X pins σ H s) (rv : Vals vs us) (h : sp (vs ++ dvs) H Q E) : wpAny (model X.prog X.w) X.A (call (.ref f) us) (EP X pins σ Q) X.xe s := by
  have both : Vals (vs ++ dvs) (us ++ ds) := rv.append hd
  have ll : (us ++ ds).length = ps.length := both.length.symm.trans (F.len _ _ _ _ h)
  refine wpAny_call (codeAny_mono (F.run X.A X.stack s H ⟨us, []⟩ (us ++ ds) (vs ++ dvs) Q E hG hr I.env0 (hb s us I.kIn ll) both h) fun r s' z => ?_)
  cases r with
  | ok fl =>
    cases fl with
    | ret u => exact I.after z
    | next => exact False.elim z
    | brk => exact False.elim z
    | cont => exact False.elim z
  | error err => exact hx pins σ H s err s' I z
/-- f(e, ..) -/
theorem pe_callG (F : FnG X.prog X.w X.K X.mg X.base CX k f fd ps sp) (hG : X.A.guards = some []) (hr : Room k X.A) (hg : Gl X x) (hm : X.mg x = some (.ref f)) (hk : PySem.W.keepIn X.K (.ref f) = true) (hb : Binds X.K fd ps ds) (hd : Vals dvs ds) (hx : Passes CX X E)
    (ha : PA X (e :: es) t) (hdb : (x == ("__debug__" : Str)) = false := by decide) (he : starEach (e :: es) X.env = (false, eval e X.env) :: starEach es X.env := by rfl) (hpl : (backTo pos (starEach es X.env)).any (·.1) = false := by rfl) :
    PE X (.Call (.Name x p) (e :: es) [] pos) (tCall sp dvs E t) := ⟨fun pins s σ H Q I h => by
  refine wpAny_Call_Name_kw (ld_glob I hg hm ?_ hdb)
  exact PySem.W.callWith_K (h₀ := X.base) I.ok.mod.kin hk (thn (ha.run pos pins s σ H _ I h) fun us s1 ⟨vs, H1, I1, r, q⟩ => ⟨I1.kIn, run_fnG F hG hr hb hd hx I1 r q⟩) he hpl⟩
end

/-! ### data, dicts with written keys among them -/
def keyD : Key → PyData
  | .inl i => .int i
  | .inr s => .str s
mutual
inductive Da (K : PySem.W.Frag) (H : Hp) : V → PyData → Prop
  | non : Da K H .non .none
  | bl (b : Bool) : Da K H (.bl b) (.bool b)
  | int (i : Int) : Da K H (.int i) (.int i)
  | str (x : Str) : Da K H (.str x) (.str x)
  | lst {a : Addr} {xs : List V} {ds : List PyData} : H a = some (.lst xs) → DaAll K H xs ds → Da K H (.ref a) (.list ds)
  | tup {a : Addr} {xs : List V} {ds : List PyData} : H a = some (.tup xs) → DaAll K H xs ds → Da K H (.ref a) (.tuple ds)
  | dic {a : Addr} {kvs : List (Key × V)} {ds : List PyData} : H a = some (.dK kvs) → DaAll K H (kvs.map (·.2)) ds → Da K H (.ref a) (.dict ((kvs.map fun p => keyD p.1).zip ds))
inductive DaAll (K : PySem.W.Frag) (H : Hp) : List V → List PyData → Prop
  | nil : DaAll K H [] []
  | cons {v : V} {vs : List V} {d : PyData} {ds : List PyData} : Da K H v d → DaAll K H vs ds → DaAll K H (v :: vs) (d :: ds)
end
mutual
theorem Da.keep {K : PySem.W.Frag} {H H' : Hp} (s : Same H H') : ∀ {v : V} {d : PyData}, Da K H v d → Da K H' v d
  | _, _, .non => .non
  | _, _, .bl b => .bl b
  | _, _, .int i => .int i
  | _, _, .str x => .str x
  | _, _, .lst h a => .lst (s _ _ h) (DaAll.keep s a)
  | _, _, .tup h a => .tup (s _ _ h) (DaAll.keep s a)
  | _, _, .dic h a => .dic (s _ _ h) (DaAll.keep s a)
theorem DaAll.keep {K : PySem.W.Frag} {H H' : Hp} (s : Same H H') : ∀ {vs : List V} {ds : List PyData}, DaAll K H vs ds → DaAll K H' vs ds
  | _, _, .nil => .nil
  | _, _, .cons h t => .cons (Da.keep s h) (DaAll.keep s t)
end
theorem DaAll.length {K : PySem.W.Frag} {H : Hp} : ∀ {vs : List V} {ds : List PyData}, DaAll K H vs ds → vs.length = ds.length
  | _, _, .nil => rfl
  | _, _, .cons _ t => congrArg Nat.succ t.length
theorem zip_fst {α β : Type} : ∀ {l : List α} {m : List β}, l.length = m.length → (l.zip m).map (·.1) = l
  | [], _, _ => by simp
  | a :: l, [], h => by cases h
  | a :: l, b :: m, h => by simp [zip_fst (Nat.succ.inj h)]
theorem zip_snd {α β : Type} : ∀ {l : List α} {m : List β}, l.length = m.length → (l.zip m).map (·.2) = m
  | [], [], _ => rfl
  | [], b :: m, h => by cases h
  | a :: l, [], h => by cases h
  | a :: l, b :: m, h => by simp [zip_snd (Nat.succ.inj h)]
section
variable {X : Cx} {pins : List (Addr × Obj)} {σ : L2.St} {H : Hp} {s : Shared}
theorem read_key {h : Heap} {k : Key} {v : Value} (e : keyIs k v = true) : Reads h v (keyD k) [] := by
  rcases keyIs_shape e with ⟨i, t, rfl, rfl⟩ | ⟨x, t, rfl, rfl⟩
  · exact Reads.int i t
  · exact Reads.str x t
theorem reads_keys {prog : Program} {w : World} {h : Heap} : ∀ {es : List DictEntry} {vs : List (Key × Value)} {kvs : List (Key × V)}, Pairs (mixKind prog w) es vs → KV kvs vs →
    ReadsAll h (es.map (·.key)) (kvs.map fun p => keyD p.1) [] ∧ Vals (kvs.map (·.2)) (es.map (·.val)) := by
  intro es vs kvs hp
  induction hp generalizing kvs with
  | nil =>
    intro r
    cases r
    exact ⟨.nil, .nil⟩
  | cons h1 h2 _ ih =>
    intro r
    cases r with
    | cons a b =>
      obtain ⟨q1, q2⟩ := ih b
      obtain ⟨e1, e2⟩ := a
      refine ⟨?_, .cons (by dsimp only; rw [h2]; exact e2) q2⟩
      refine ReadsAll.cons (as := []) (bs := []) ?_ q1
      dsimp only
      rw [e1]
      exact read_key h1
mutual
theorem Da.reads (I : Inv X pins σ H s) : ∀ (v : V) (d : PyData) (u : Value), Da X.K H v d → RelV v u → ∃ as, Reads s.heap u d as ∧ ∀ b ∈ as, H b ≠ none
  | _, _, _, .non, r => by
    cases r
    exact ⟨_, Reads.none, fun b z => nomatch z⟩
  | _, _, _, .bl b, r => by
    cases r
    exact ⟨_, Reads.bool b, fun b z => nomatch z⟩
  | _, _, _, .int i, r => by
    obtain ⟨t, rfl⟩ := r
    exact ⟨_, Reads.int i t, fun b z => nomatch z⟩
  | _, _, _, .str x, r => by
    obtain ⟨t, rfl⟩ := r
    exact ⟨_, Reads.str x t, fun b z => nomatch z⟩
  | _, _, _, .lst (a := a) h ha, r => by
    cases r
    obtain ⟨its, rv, ⟨o, n, ho, hc, _, hd⟩, _⟩ := I.list (SqL.of h)
    obtain ⟨as, hr, hn⟩ := DaAll.reads I _ _ its ha rv
    refine ⟨_, Reads.list ho hc hd hr, fun b z => ?_⟩
    rcases List.mem_cons.mp z with e | z
    · rw [e, h]
      exact fun y => nomatch y
    · exact hn b z
  | _, _, _, .tup (a := a) h ha, r => by
    cases r
    obtain ⟨its, rv, ⟨o, ho, hc, n, hd⟩, _⟩ := I.tuple (SqT.of h)
    obtain ⟨as, hr, hn⟩ := DaAll.reads I _ _ its ha rv
    exact ⟨_, Reads.tuple ho hc hd hr, hn⟩
  | _, _, _, .dic (a := a) (kvs := kvs) (ds := ds) h ha, r => by
    cases r
    obtain ⟨_, _, vs, rel, o, es, ep, ho, hx, hd, _, hp, _⟩ := dk_of I.hok h
    obtain ⟨q1, q2⟩ := reads_keys (h := s.heap) hp rel
    obtain ⟨bs, hr, hn⟩ := DaAll.reads I _ _ _ ha q2
    have hl : (kvs.map fun p => keyD p.1).length = ds.length := by
      rw [List.length_map, ← ha.length, List.length_map]
    refine ⟨_, Reads.dict (as := []) (bs := bs) ho hx.1 hd (by rw [zip_fst hl]; exact q1) (by rw [zip_snd hl]; exact hr), fun b z => ?_⟩
    have z' : b ∈ a :: bs := z
    rcases List.mem_cons.mp z' with e | z2
    · rw [e, h]
      exact fun y => nomatch y
    · exact hn b z2
theorem DaAll.reads (I : Inv X pins σ H s) : ∀ (vs : List V) (ds : List PyData) (us : List Value), DaAll X.K H vs ds → Vals vs us → ∃ as, ReadsAll s.heap us ds as ∧ ∀ b ∈ as, H b ≠ none
  | _, _, _, .nil, r => by
    cases r
    exact ⟨_, ReadsAll.nil, fun b z => nomatch z⟩
  | _, _, _, .cons h1 h2, r => by
    cases r with
    | cons r1 r2 =>
      obtain ⟨as, q1, n1⟩ := Da.reads I _ _ _ h1 r1
      obtain ⟨bs, q2, n2⟩ := DaAll.reads I _ _ _ h2 r2
      refine ⟨_, ReadsAll.cons q1 q2, fun b z => ?_⟩
      rcases List.mem_append.mp z with z | z
      · exact n1 b z
      · exact n2 b z
end
end
section
variable {X : Cx}
/-- repr of data -/
theorem call_repr (hG : X.A.guards = some []) (hu : X.A.units + 64 < cLine) (hS : ∃ m, X.base.Ns sysModules m) :
    CallR X (.builtin "repr") (fun xs H Q => ∃ v d, xs = [v] ∧ Da X.K H v d ∧ d.showable = true ∧ d.depth ≤ 60 ∧ d.shown.length ≤ sizeLine ∧ Q (.str d.shown) H) := by
  intro pins s σ H xs us Q I r h
  obtain ⟨v, d, rfl, hd, hs, hp, hz, q⟩ := h
  obtain ⟨u, rfl, ru⟩ := vals1 r
  obtain ⟨as, rd, hn⟩ := Da.reads I v d u hd ru
  have no : sysModules ∉ as := fun z => by
    obtain ⟨m, o, es, ep, ho, _⟩ := hS
    exact hn _ z (I.bs _ _ ho).2
  have fin : ∀ h' u' tk, (∀ b o, s.heap.get? b = some o → h'.get? b = some o) → EP X pins σ Q (.str d.shown u') { s with heap := h', toks := tk } := fun h' u' tk kp =>
    ⟨.str d.shown, H, I.kept (t' := tk) kp, ⟨u', rfl⟩, q⟩
  have here : EP X pins σ Q (.str d.shown s.toks) { s with toks := s.toks + 1 } := ⟨.str d.shown, H, I.tok _, ⟨_, rfl⟩, q⟩
  cases hd with
  | non =>
    cases ru
    exact PySem.P.repr_of_none here
  | bl b =>
    cases ru
    exact PySem.P.repr_of_bool here
  | int i =>
    obtain ⟨t, rfl⟩ := ru
    exact PySem.P.repr_of_int (by simpa [PyData.showable] using hs) here
  | str x =>
    obtain ⟨t, rfl⟩ := ru
    exact PySem.P.repr_of_str here hz
  | lst _ _ =>
    cases ru
    exact repr_of_reads' rd hs (fun _ => no) hG (by omega) (fun _ _ z => z) fin hz
  | tup _ _ =>
    cases ru
    exact repr_of_reads' rd hs (fun _ => no) hG (by omega) (fun _ _ z => z) fin hz
  | dic _ _ =>
    cases ru
    exact repr_of_reads' rd hs (fun _ => no) hG (by omega) (fun _ _ z => z) fin hz
end
end Lw
end
section
set_option maxRecDepth 100000
set_option maxHeartbeats 4000000
/-! The law's own end: its promise where no repr is under way. -/
namespace Lw
open PySem PySem.Spec PyProof.Rows L2
section
variable {P : Program} {w : World} {K : PySem.W.Frag} {mg mb : Str → Option Value} {k : Nat} {fa a : Addr} {fd : FuncData} {x : Str} {sp : Sp} {s₁ : Shared} {vs : List Value} {ns : List Int}
/-- the law is called at the heap behind the top -/
theorem law_callG (kin : K.In s₁.heap) (hg : s₁.heap.Ns mainGlobals mg) (hb : s₁.heap.Ns builtinsNs mb) (hbb : ∀ x : Str, x ≠ "__name__" → mb x = bootBuiltins x) (lim : s₁.heap.NoLimit) (nod : s₁.heap.NoDigits) (hm : ∃ m, s₁.heap.Ns sysModules m) (gens : s₁.gens = #[])
    (ha : s₁.heap.get? a = some { cls := .type "list", data := .seq vs.toArray }) (hi : IntsAre vs ns) (hl : ns.length ≤ sizeLine) (hr : Room k callerA)
    (F : ∀ base : Heap, K.In base → base.Ns mainGlobals mg → (∃ m, base.Ns sysModules m) → base.NoDigits → FnG P w K mg base CX0 k fa fd [x] sp) (hbind : ∀ (s : Shared) (u : Value), BindsTo s fd ⟨[u], []⟩ [(x, u)])
    (hsp : ∀ H : Hp, Only H → SqL K H a (ns.map V.int) → sp [.ref a] H (fun v _ => v = .bl true) fun _ _ _ => False) :
    codeAny (model P w) callerA (.call (.ref fa) ⟨[.ref a], []⟩) (fun r s' => r = .ok (.ret (.bool true)) ∧ OldK s₁.heap s'.heap ∧ s'.os = s₁.os ∧ AllBare s'.gens) s₁ := by
  have vals := vals_ints hi
  have same := hi.length
  -- H: what is tracked at the begin: the script alone, or nothing
  have main : ∀ H : Hp, Only H → SqL K H a (ns.map V.int) → HOk P w H s₁.heap → (∀ b, b ≠ a → H b = none) → (K.lookup a ≠ none → H a = none) →
      codeAny (model P w) callerA (.call (.ref fa) ⟨[.ref a], []⟩) (fun r s' => r = .ok (.ret (.bool true)) ∧ OldK s₁.heap s'.heap ∧ s'.os = s₁.os ∧ AllBare s'.gens) s₁ := by
    intro H only sq ok away kept
    have dict_free : ∀ {b : Addr} {o : Obj} {es : Array DictEntry} {ep : Nat}, s₁.heap.get? b = some o → o.data = .dict es ep → H b = none := by
      intro b o es ep e1 e2
      refine away b fun e3 => ?_
      rw [e3, ha] at e1
      cases e1
      cases e2
    have ns_base : ∀ {b : Addr} {m : Str → Option Value}, s₁.heap.Ns b m → (hidT s₁.heap H).Ns b m := by
      rintro b m ⟨o, es, ep, e1, e2, e3⟩
      exact ⟨o, es, ep, hidT_get e1 (dict_free e1 e2), e2, e3⟩
    have k_base : K.In (hidT s₁.heap H) := by
      intro b o e
      refine hidT_get (kin b o e) ?_
      by_cases q : b = a
      · rw [q]
        refine kept ?_
        rw [← q, e]
        exact fun y => nomatch y
      · exact away b q
    have mod : Mod K mg (hidT s₁.heap H) := ⟨k_base, ns_base hg, ⟨mb, ns_base hb, hbb⟩, by
      obtain ⟨mc, h1, h2⟩ := lim
      exact ⟨mc, ns_base h1, h2⟩⟩
    have env : Env0 P w K mg (hidT s₁.heap H) callerA [] s₁ H := { frames := rfl, mod := mod, bs := fun b o e => of_hidT e, bsz := Nat.le_of_eq (hidT_size _ _), funs := trivial, frf := fun b z => absurd (show b ∈ ([] : List Addr) from z) (by simp), hok := ok, bare := .of_eq gens }
    have G := F _ k_base (ns_base hg) (by
      obtain ⟨m, h1⟩ := hm
      exact ⟨m, ns_base h1⟩) (by
      obtain ⟨mc, h1, h2⟩ := nod
      exact ⟨mc, ns_base h1, h2⟩)
    refine codeAny_mono (G.run callerA [] s₁ H ⟨[.ref a], []⟩ [.ref a] [.ref a] _ _ rfl hr env (hbind s₁ (.ref a)) (.cons rfl .nil) (hsp H only sq)) fun r s' z => ?_
    cases r with
    | error e => exact False.elim z
    | ok fl =>
      cases fl with
      | ret u =>
        obtain ⟨v, H', eo, bare, un, ok', rv, q⟩ := z
        have q2 : v = .bl true := q
        subst q2
        obtain rfl : u = Value.bool true := rv
        refine ⟨rfl, OldK.of_keep fun b o e => ?_, eo, bare⟩
        cases q3 : H b with
        | none => exact un.keep b o e q3 (fun z => absurd (show b ∈ ([] : List Addr) from z) (by simp)) (by simp)
        | some t =>
          rcases only b with z | ⟨ob, xs, z⟩
          · rw [q3] at z
            cases z
          · obtain ⟨e1, _⟩ := ok b _ z
            obtain ⟨e2, _⟩ := ok' b _ (un.frzs b ob _ z)
            rw [e] at e1
            cases e1
            exact e2
      | next => exact False.elim z
      | brk => exact False.elim z
      | cont => exact False.elim z
  by_cases hk : K.lookup a = none
  · have z0 : ∀ b u, (if b = a then some (HO.frz { cls := .type "list", data := .seq vs.toArray } (.lst (ns.map V.int))) else none) = some u → b = a ∧ u = HO.frz { cls := .type "list", data := .seq vs.toArray } (.lst (ns.map V.int)) := by
      intro b u z
      by_cases q : b = a
      · rw [if_pos q] at z
        exact ⟨q, (Option.some.inj z).symm⟩
      · rw [if_neg q] at z
        cases z
    refine main (fun b => if b = a then some (.frz { cls := .type "list", data := .seq vs.toArray } (.lst (ns.map V.int))) else none) (fun b => ?_) (.inl (.inr ⟨_, if_pos rfl⟩)) (fun b u z => ?_) (fun b q => if_neg q) fun q => absurd hk q
    · by_cases q : b = a
      · exact .inr ⟨_, _, if_pos q⟩
      · exact .inl (if_neg q)
    · obtain ⟨rfl, rfl⟩ := z0 b u z
      exact ⟨ha, by rw [List.length_map]; exact hl, vs, _, vals, ha⟩
  · obtain ⟨o, ho⟩ := Option.ne_none_iff_exists'.mp hk
    have e := kin a o ho
    rw [ha] at e
    cases e
    exact main (fun _ => none) (fun _ => .inl rfl) (.inr ⟨_, vs.toArray, _, ho, rfl, rfl, rfl, by rw [List.size_toArray, same]; exact hl, by simpa using vals⟩) (fun b u z => nomatch z) (fun _ _ => rfl) fun _ => rfl
end
/-- the goal that the head leaves -/
theorem walk_ofG {l : PySem.W.OpenLaw} {n k : Nat} {q : Program} {loose : List Str} {XP : (Str → Option Value) → Heap → Prop} {YP : World → Heap → Prop} {d : DefRec} {K : Params → PySem.W.Frag} {sp : PySem.W.Frag → Sp} {x : Str}
    (hn : l.most = some n) (hn2 : n ≤ sizeLine) (hdf : d.params.defaults = []) (hr : Room k callerA) (him : importsNone q = true)
    (hY : ∀ (w : World) (h : Heap), YP w h → (K w.params).In h)
    (F : ∀ (w : World) (mg : Str → Option Value) (fa : Addr) (h : Heap), (K w.params).In h → h.Ns mainGlobals mg → mg d.name = some (.ref fa) →
      ∃ fd : FuncData, (∀ (s : Shared) (u : Value), BindsTo s fd ⟨[u], []⟩ [(x, u)]) ∧
        ∀ base : Heap, (K w.params).In base → base.Ns mainGlobals mg → (∃ m, base.Ns sysModules m) → base.NoDigits → FnG l.prog w (K w.params) mg base CX0 k fa fd [x] (sp (K w.params)))
    (hsp : ∀ (K : PySem.W.Frag) (H : Hp) (a : Addr) (ns : List Int), ns.length ≤ n → Only H → SqL K H a (ns.map V.int) → sp K [.ref a] H (fun v _ => v = .bl true) fun _ _ _ => False) :
    PySem.W.WalkO q loose XP YP l.row.toRowW d [] (fun f vs => PySem.call f vs) := by
  refine Att.attach_call hn hdf fun w s₀ s₁ mg mb fa o pm cd doc a vs ns G Y ho hd hcd hmg hobj hints hlen hgen => ?_
  have kin := hY w _ Y
  obtain ⟨fd, hb, hF⟩ := F w mg fa _ kin G.T.g hmg
  have hm : ∃ m, s₁.heap.Ns sysModules m := by
    obtain ⟨m, z, _⟩ := (G.T.seer him).mods
    exact ⟨m, z⟩
  exact law_callG kin G.T.g G.T.b G.T.builtins G.T.nolimit G.T.nodigits hm hgen hobj hints (Nat.le_trans hlen hn2) hr hF hb fun H hO hS => hsp _ H a ns hlen hO hS
end Lw
end
section
set_option maxRecDepth 100000
set_option maxHeartbeats 4000000
/-! New objects, told by what stands behind them: all that stood, and the new one. -/
namespace Lw
open PySem PySem.Spec PyProof.Rows L2
section
variable {X : Cx} {es : List Expr} {t : TA} {pos : Pos} {e : Expr} {te te' : TE}
theorem PE.imp (h : PE X e te) (i : ∀ σ H Q, te' σ H Q → te σ H Q) : PE X e te' := ⟨fun pins s σ H Q I q => h.run pins s σ H Q I (i σ H Q q)⟩
theorem OpR.imp {f : Value → Value → Sem Value} {r r' : R2} (h : OpR X f r) (i : ∀ x y H Q, r' x y H Q → r x y H Q) : OpR X f r' := fun pins s σ H x y v u Q I rx ry q => h pins s σ H x y v u Q I rx ry (i x y H Q q)
theorem CallR.imp {f : Value} {r r' : List V → Hp → VK → Prop} (h : CallR X f r) (i : ∀ xs H Q, r' xs H Q → r xs H Q) : CallR X f r' := fun pins s σ H xs us Q I rx q => h pins s σ H xs us Q I rx (i xs H Q q)
/-- a new object o, told -/
def New (o : HO) (H : Hp) (Q : VK) : Prop := ∀ p H2, H p = none → Same H H2 → H2 p = some o → Q (.ref p) H2
theorem New.at {o : HO} {H : Hp} {Q : VK} (h : New o H Q) {p : Addr} (n : H p = none) : Q (.ref p) (upd H p o) := h p _ n (Same.new n) upd_same
def tLstS (t : TA) : TE := fun σ H Q => t σ H fun xs H1 => xs.length ≤ sizeLine ∧ New (.lst xs) H1 Q
def tTupS (t : TA) : TE := fun σ H Q => t σ H fun xs H1 => xs.length ≤ sizeLine ∧ New (.tup xs) H1 Q
theorem pe_lstS (h : PA X es t) : PE X (.List es pos) (tLstS t) := by
  refine ⟨fun pins s σ H Q I hq => ?_⟩
  refine wpAny_List_spliced (thn (h.run pos pins s σ H _ I hq) fun us s1 ⟨xs, H1, J, r, z, q⟩ => ⟨r.length ▸ z, ?_⟩)
  have n := J.hok.fresh (Nat.le_refl s1.heap.objs.size)
  refine ⟨.ref s1.heap.objs.size, upd H1 s1.heap.objs.size (.lst xs), J.laid (t' := s1.toks) (fun b u w => Heap.get?_push_of_some _ w) (Nat.le_refl _) ?_, rfl, q.at n⟩
  exact ⟨z, us, 0, r, Heap.get?_push_size _ rfl⟩
theorem pe_tupS {c} (h : PA X es t) : PE X (.Tuple es c pos) (tTupS t) := by
  refine ⟨fun pins s σ H Q I hq => ?_⟩
  refine wpAny_Tuple_spliced (thn (h.run pos pins s σ H _ I hq) fun us s1 ⟨xs, H1, J, r, z, q⟩ => ⟨r.length ▸ z, ?_⟩)
  have n := J.hok.fresh (Nat.le_refl s1.heap.objs.size)
  refine ⟨.ref s1.heap.objs.size, upd H1 s1.heap.objs.size (.tup xs), J.laid (t' := s1.toks) (fun b u w => Heap.get?_push_of_some _ w) (Nat.le_refl _) ?_, rfl, q.at n⟩
  exact ⟨z, us, r, ⟨_, Heap.get?_push_size _ rfl, rfl, _, rfl⟩⟩
/-- {} -/
theorem pe_d0S : PE X (.Dict [] [] pos) (fun _ H Q => New (.dK []) H Q) := PE.imp pe_dnewK fun _ _ _ h _ n => h.at n
/-- {'a': 'b'} -/
theorem pe_d1S {k v : Str} {i j : Nat} {p q : Pos} : PE X (.Dict [some (.Constant (.str k) i p)] [.Constant (.str v) j q] pos) (fun _ H Q => New (.dK [(Sum.inr k, .str v)]) H Q) := by
  refine PE.imp (pe_disp (pps_cons pe_str pe_str pps_nil) rfl rfl (fun z => by cases z) (by simp)) fun σ H Q h => ?_
  intro l n
  refine ⟨upd_same, [(Sum.inr k, .str v)], rfl, by simp, ?_⟩
  rw [upd_upd]
  exact h.at n
/-- xs[lo:hi] of a list -/
def rSlS (K : PySem.W.Frag) : V → Option Int → Option Int → Hp → VK → Prop := fun x lo hi H Q => ∃ a xs, x = .ref a ∧ SqL K H a xs ∧ New (.lst (cutV xs lo hi)) H Q
theorem pe_slS {e : Expr} {te : TE} {lo hi : Option Expr} {tl th} {p2 : Pos} (he : PE X e te) (hl : PO X lo tl) (hu : PO X hi th) : PE X (.Subscript e (.Slice lo hi none p2) pos) (tSl (rSlS X.K) te tl th) := by
  refine pe_slice (r := rSlS X.K) ?_ he hl hu
  intro pins s σ H x v vl vu lo hi sl Q I rx hs pl pu h
  obtain ⟨a, xs, ex, sq, q⟩ := h
  exact sl_list pins s σ H x v vl vu lo hi sl Q I rx hs pl pu ⟨a, xs, ex, sq, fun p n => q.at n⟩
/-- list(xs) -/
theorem call_listS : CallR X (.type "list") (fun xs H Q => ∃ p ys, xs = [.ref p] ∧ (SqL X.K H p ys ∨ SqT X.K H p ys) ∧ New (.lst ys) H Q) :=
  CallR.imp call_list_of fun _ _ _ ⟨p, ys, e, s, q⟩ => ⟨p, ys, e, s, fun _ n => q.at n⟩
/-- xs + ys -/
def rCatS : R2 := fun x y H Q => ∃ l b xs zs, x = .ref l ∧ y = .ref b ∧ H l = some (.lst xs) ∧ H b = some (.lst zs) ∧ xs.length + zs.length ≤ sizeLine ∧ New (.lst (xs ++ zs)) H Q
theorem op_catS : OpR X (binaryOp .Add) rCatS := OpR.imp op_cat fun _ _ _ _ ⟨l, b, xs, zs, e1, e2, h1, h2, z, q⟩ => ⟨l, b, xs, zs, e1, e2, h1, h2, z, fun _ n => q.at n⟩
/-- xs * k -/
def rRepS : R2 := fun x y H Q => ∃ l k xs, x = .ref l ∧ y = .int k ∧ H l = some (.lst xs) ∧ -(2 ^ 63) ≤ k ∧ k < 2 ^ 63 ∧ xs.length * k.toNat ≤ sizeLine ∧ New (.lst (List.replicate k.toNat xs).flatten) H Q
theorem op_repS : OpR X (binaryOp .Mult) rRepS := OpR.imp op_rep fun _ _ _ _ ⟨l, k, xs, e1, e2, h1, h2, h3, z, q⟩ => ⟨l, k, xs, e1, e2, h1, h2, h3, z, fun _ n => q.at n⟩
end

/-! ### the pen -/
theorem cut63 {xs : List V} (h : xs.length ≤ 63) : cutV xs none (some 63) = xs := by
  have e1 : HT.sIx xs.length 0 none = 0 := by simp [HT.sIx]
  have e2 : HT.sIx xs.length xs.length (some 63) = xs.length := by
    simp [HT.sIx]
    omega
  unfold cutV
  rw [e1, e2]
  simp
def spPen (K : PySem.W.Frag) : Sp := fun vs H Q _ => ∃ (a : Addr) (ns : List Int), vs = [.ref a] ∧ SqL K H a (ns.map V.int) ∧ ns.length ≤ 63 ∧ ∀ p c H2, Same H H2 → PenAt H2 p c ns 0 0 → Q (.ref p) H2
/-- one of some things -/
def spPick : Sp := fun vs H Q _ => ∃ (p c q : Addr) (ns : List Int) (i r : Int) (xs : List V), vs = [.ref p, .ref q] ∧ PenAt H p c ns i r ∧ i ≤ 1000000 ∧ H q = some (.lst xs) ∧ q ≠ p ∧ xs ≠ [] ∧ xs.length < 1000 ∧
  ∀ (x : V) (i' r' : Int) (H' : Hp), x ∈ xs → i ≤ i' → i' ≤ i + 1 → PenAt H' p c ns i' r' → But p H H' → Q x H'
theorem at_mem {xs : List V} {d : Int} (h0 : 0 ≤ d) (h1 : d < (xs.length : Int)) : ∃ x, x ∈ xs ∧ atI xs d = some x := by
  obtain ⟨j, rfl⟩ := Int.eq_ofNat_of_zero_le h0
  have hj : j < xs.length := by omega
  exact ⟨xs[j], List.getElem_mem hj, atI_nat (List.getElem?_eq_getElem hj)⟩
theorem yes_if {σ : L2.St} {H : Hp} {A B : Hp → Prop} (h : A H) : tYes σ H (fun b H3 => if b = true then A H3 else B H3) := by
  show (if true = true then A H else B H)
  rw [if_pos rfl]
  exact h
end Lw
end
section
set_option maxRecDepth 100000
set_option maxHeartbeats 4000000
/-! Any values: their kinds. -/
namespace Lw
open PySem PySem.Spec PyProof.Rows L2
def vIntB : V → Bool
  | .int _ => true
  | .bl _ => true
  | _ => false
def vBl : V → Bool
  | .bl _ => true
  | _ => false
def vStr : V → Bool
  | .str _ => true
  | _ => false
def intV : V → Option Int
  | .int i => some i
  | _ => none
def strV : V → Option Str
  | .str z => some z
  | _ => none
/-- what isinstance says of a value -/
structure Knd (K : PySem.W.Frag) (H : Hp) (v : V) : Prop where
  ex : ∃ t, TyX K H v t ∧ PySem.W.kitOne K t (.type "int") = some (vIntB v) ∧ PySem.W.kitOne K t (.type "bool") = some (vBl v) ∧ PySem.W.kitOne K t (.type "str") = some (vStr v)
section
variable {K : PySem.W.Frag} {H : Hp}
theorem Knd.int (i : Int) : Knd K H (.int i) := ⟨_, .base (.int i), kit_ty (by kernel_rfl), kit_ty (by kernel_rfl), kit_ty (by kernel_rfl)⟩
theorem Knd.str (z : Str) : Knd K H (.str z) := ⟨_, .base (.str z), kit_ty (by kernel_rfl), kit_ty (by kernel_rfl), kit_ty (by kernel_rfl)⟩
theorem Knd.bl (b : Bool) : Knd K H (.bl b) := ⟨_, .base (.bl b), kit_ty (by kernel_rfl), kit_ty (by kernel_rfl), kit_ty (by kernel_rfl)⟩
theorem Knd.non : Knd K H .non := ⟨_, .base .non, kit_ty (by kernel_rfl), kit_ty (by kernel_rfl), kit_ty (by kernel_rfl)⟩
theorem Knd.of_da {v : V} {d : PyData} (h : Da K H v d) : Knd K H v := by
  cases h with
  | non => exact .non
  | bl b => exact .bl b
  | int i => exact .int i
  | str z => exact .str z
  | lst e _ => exact ⟨_, .base (.lst e), kit_ty (by kernel_rfl), kit_ty (by kernel_rfl), kit_ty (by kernel_rfl)⟩
  | tup e _ => exact ⟨_, .base (.tup e), kit_ty (by kernel_rfl), kit_ty (by kernel_rfl), kit_ty (by kernel_rfl)⟩
  | dic e _ => exact ⟨_, .base (.dK e), kit_ty (by kernel_rfl), kit_ty (by kernel_rfl), kit_ty (by kernel_rfl)⟩
end
/-! ### what the looks answer -/
def withinV (v : V) (lo hi : Int) : Bool := match intV v with
  | some i => decide (lo ≤ i) && decide (i ≤ hi)
  | none => false
def amountV (v : V) : Bool := match intV v with
  | some i => decide (0 ≤ i)
  | none => false
def loB (c : Nat) : Bool := decide (97 ≤ c) && decide (c ≤ 122)
def nameS (z : Str) : Bool := decide (1 ≤ z.length) && (decide (z.length ≤ 8) && (!decide (z = "self") && z.cps.toList.all loB))
def nameV (v : V) : Bool := match strV v with
  | some z => nameS z
  | none => false
theorem intV_of {v : V} (h1 : vIntB v = true) (h2 : vBl v = false) : ∃ i, v = .int i := by
  cases v <;> simp_all [vIntB, vBl]
theorem intV_no {v : V} (h : vIntB v = false ∨ vBl v = true) : intV v = none := by
  cases v <;> simp_all [vIntB, vBl, intV]
theorem str_of {v : V} (h : vStr v = true) : ∃ z, v = .str z := by
  cases v <;> simp_all [vStr]
theorem strV_no {v : V} (h : vStr v = false) : strV v = none := by
  cases v <;> simp_all [vStr, strV]
def spIsInt (K : PySem.W.Frag) : Sp := fun vs H Q _ => ∃ v, vs = [v] ∧ Knd K H v ∧ Q (.bl (intV v).isSome) H
def spWithin (K : PySem.W.Frag) : Sp := fun vs H Q _ => ∃ v lo hi, vs = [v, .int lo, .int hi] ∧ Knd K H v ∧ Q (.bl (withinV v lo hi)) H
def spAmount (K : PySem.W.Frag) : Sp := fun vs H Q _ => ∃ v, vs = [v] ∧ Knd K H v ∧ Q (.bl (amountV v)) H
def spName (K : PySem.W.Frag) : Sp := fun vs H Q _ => ∃ v, vs = [v] ∧ Knd K H v ∧ (∀ z, v = .str z → z.length ≤ 1000) ∧ ∀ H2, Same H H2 → Q (.bl (nameV v)) H2
structure TxtC (mg : Str → Option Value) : Prop where
  isi : mg "isinstance" = none
  int : mg "int" = none
  bool : mg "bool" = none
  str : mg "str" = none
  len : mg "len" = none
  all : mg "all" = none
theorem sz {n : Nat} (h : n ≤ 1000) : n ≤ sizeLine := Nat.le_trans h (by decide)
theorem three_ok (a b c : Bool) : (PyData.list [.bool a, .bool b, .bool c]).shown.length ≤ sizeLine := by cases a <;> cases b <;> cases c <;> decide +kernel
theorem lt_sign (c d : Nat) : decide (([c] : List Nat) < [d]) = decide (c < d) := by
  simp [List.cons_lt_cons_iff]
theorem le_sign (c d : Nat) : (!decide (([c] : List Nat) < [d])) = decide (d ≤ c) := by
  rw [lt_sign]
  by_cases h : c < d
  · simp [h]
  · simp [h]; omega
end Lw
end
section
set_option maxRecDepth 100000
set_option maxHeartbeats 4000000
/-! bool of own instances; walks of either kind; dict comprehensions turn by turn. -/
namespace Lw
open PySem PySem.Spec PyProof.Rows L2 PySem.Calls
/-! data of at most one plain part -/
def pdS : PyData → Bool
  | .none => true
  | .bool _ => true
  | .int _ => true
  | .str _ => true
  | _ => false
def flD : PyData → Bool
  | .list ds => ds.all pdS && decide (ds.length ≤ 1)
  | .tuple ds => ds.all pdS && decide (ds.length ≤ 1)
  | .dict ps => (ps.map (·.2)).all pdS && decide (ps.length ≤ 1)
  | d => pdS d
def tupD : PyData → Bool
  | .tuple _ => true
  | _ => false
def lstD : PyData → Bool
  | .list _ => true
  | _ => false
def dicD : PyData → Bool
  | .dict _ => true
  | _ => false
def okD (b : Bool) (d : PyData) : Bool := bif b then flD d else pdS d
theorem bool_asks {prog : Program} {w : World} {A : Around} {E : Value → Shared → Prop} {s : Shared} {v : Value} {Q : Value → Shared → Prop} (h : wpAny (model prog w) A.in1.in1 (truthy v) (fun b s1 => Q (.bool b) s1) E s) :
    wpAny (model prog w) A (call (.type "bool") [v]) Q E s := by
  refine callType_codes (T := "bool") (Bi := Builtin.«object.__init__») (Q₁ := fun r s₁ => ∃ b, r = .bool b ∧ Q r s₁) PySem.F.called_bool (PySem.F.typeCall_bool_1 _) PySem.F.entry_object_init ?_ ?_
  · refine codeAny_of_tree ?_
    show wpAny _ A.in1.in1 (do checkBuiltinCall "bool.__new__" ⟨[.type "bool", v], []⟩; again (.builtin "bool.__new__" ⟨[.type "bool", v], []⟩)) _ _ s
    refine wpAny_bind (wpAny_of_eq (PySem.F.newCall_bool_1 _) (wpAny_pure ⟨plainId_quiet (by decide +kernel) _, codeAny_builtin PySem.F.entry_bool_new ?_⟩))
    rw [Around.under_plainId (by decide +kernel) _]
    unfold Builtin.«bool.__new__»
    have f1 := PySem.F.conv_sub_bool
    repeat (any_goals (first | assumption | wp_step))
    exact wpAny_mono (show wpAny (model prog w) A.in1.in1 (truthy v) _ _ _ from h) (fun b s' hb => wpAny_pure ⟨b, rfl, hb⟩) (fun e s' he => he)
  · rintro obj s₁ ⟨b, rfl, hq⟩
    exact ⟨PySem.typeIs_bool _ _, PySem.F.args_object_init_2 _ _, object_init_meets PySem.F.called_bool.init.lookup PySem.F.called_bool.made (by decide) prog w A.in1 _ s₁ ⟨PySem.typeIs_bool _ _, rfl, hq⟩⟩
section
variable {X : Cx} {tg e : Expr} {wi wj : TI}
/-- either reading of what is walked -/
theorem pi_or (h : PI X tg e wi) (j : PI X tg e wj) : PI X tg e (fun σ H R => wi σ H R ∨ wj σ H R) := ⟨fun pins s σ H R I q => by
  rcases q with q | q
  · exact h.run pins s σ H R I q
  · exact j.run pins s σ H R I q⟩
end
/-- the turns of a dict comprehension, by what holds ahead of each -/
theorem dc_turns {J : It} {n : Nat} {Okay : Hp → Prop} {Y : Nat → Hp → V → Hp → Prop} (w : Walk J n Okay Y) {g : TG} {tt : TT} {tk tv : TE} {vs : List Nat} {σ : L2.St} {H0 : Hp} {D : Addr} {Fin : Hp → Prop} (Pv : Nat → Hp → Prop)
    (base : Pv 0 (upd H0 D (.dK []))) (okay : ∀ i H, i ≤ n → Pv i H → Okay H)
    (turn : ∀ i x H H', i < n → Pv i H → Y i H x H' → g x (wipe σ vs) H' fun σ2 H2 => wipe σ2 vs = wipe σ vs ∧ tt σ2 H2 fun b H3 =>
      if b = true then tk σ2 H3 fun y H4 => tv σ2 H4 fun z H5 => ∃ kvs k, y = kV k ∧ H5 D = some (.dK kvs) ∧ kvs.length < sizeLine ∧ Pv (i + 1) (upd H5 D (.dK (putK kvs k z))) else Pv (i + 1) H3)
    (fin : ∀ H, Pv n H → Fin H) :
    ∃ W : Nat → Nat → Hp → Prop, (∃ m, W 0 m (upd H0 D (.dK []))) ∧ ∀ i m H, W i m H →
      (J.stop i H ∧ Fin H) ∨ (J.go i H ∧ ∃ Nx : Hp → Prop, (∀ H', Nx H' → ∃ m', m' < m ∧ W (i + 1) m' H') ∧ ∀ x H', J.yld i H x H' → g x (wipe σ vs) H' fun σ2 H2 => wipe σ2 vs = wipe σ vs ∧ tt σ2 H2 fun b H3 =>
        if b = true then tk σ2 H3 fun y H4 => tv σ2 H4 fun z H5 => ∃ kvs k, y = kV k ∧ H5 D = some (.dK kvs) ∧ kvs.length < sizeLine ∧ Nx (upd H5 D (.dK (putK kvs k z))) else Nx H3) := by
  refine ⟨fun j left T => left + j = n ∧ Pv j T, ⟨n, rfl, base⟩, fun j left T ⟨sum, here⟩ => ?_⟩
  have le : j ≤ n := by omega
  have oz := okay j T le here
  rcases Nat.lt_or_ge j n with lt | ge
  · refine .inr ⟨w.goes j T lt oz, Pv (j + 1), fun T' p' => ⟨n - (j + 1), by omega, by omega, p'⟩, fun x T' y => ?_⟩
    exact turn j x T T' lt here (w.yields j T x T' lt oz y)
  · obtain rfl : j = n := by omega
    exact .inl ⟨w.stops T oz, fin T here⟩
section
variable {X : Cx} {n : Nat} {a C0 dx g : Addr} {sp : Sp}
theorem ins_here {pins : List (Addr × Obj)} {σ : L2.St} {H : Hp} {s : Shared} {fs : List (Str × V)} (I : Inv X pins σ H s) (e : H a = some (.ins C0 dx fs)) : ∃ ox od, PySem.W.InstAt s.heap a ox C0 (some od) := by
  obtain ⟨mA, O, _⟩ := ins_get I.hok e
  obtain ⟨od, J, _⟩ := O.look
  exact ⟨_, od, J⟩
/-- bool(x): x's class has a __bool__ -/
theorem call_boolM {CX : CXT} {E : XK} (at_ : PySem.W.findIn X.K (.ref C0) "__bool__" = some (some (.ref g))) (fn : PySem.W.isFn X.K (.ref g) = true) (F : FnR X.prog X.w X.K X.mg X.base CX n g sp) (hr : Room (n + 2) X.A) (hx : Passes CX X E) :
    CallR X (.type "bool") (fun xs H Q => ∃ a dx fs, xs = [.ref a] ∧ H a = some (.ins C0 dx fs) ∧ sp [.ref a] H (fun v H1 => ∃ b, v = .bl b ∧ Q (.bl b) H1) E) := by
  intro pins s σ H xs us Q I r h
  obtain ⟨a, dx, fs, rfl, ea, q⟩ := h
  obtain ⟨u, rfl, rx⟩ := vals1 r
  cases (show u = Value.ref a from rx)
  obtain ⟨ox, od, J⟩ := ins_here I ea
  obtain ⟨m, hF⟩ := I.fr
  refine bool_asks (PySem.W.truthy_K hF I.ok.mod.kin J at_ fn (wpAny_call (codeAny_mono (F X.A.in1.in1 X.stack s H [.ref a] [.ref a] _ E hr.in1.in1 I.env0.in1.in1 (.cons rfl .nil) q) fun r s' hq => ?_)))
  cases r with
  | error e => exact hx pins σ H s e s' I hq
  | ok fl =>
    cases fl with
    | ret u =>
      obtain ⟨v, H1, I1, rv, b, eb, z⟩ := I.after hq
      subst eb
      cases rv
      exact ⟨.bl b, H1, I1, rfl, z⟩
    | next => exact False.elim hq
    | brk => exact False.elim hq
    | cont => exact False.elim hq
/-- bool(x): x's class has neither __bool__ nor __len__ -/
theorem call_boolN (nb : PySem.W.findIn X.K (.ref C0) "__bool__" = some none) (nl : PySem.W.findIn X.K (.ref C0) "__len__" = some none) :
    CallR X (.type "bool") (fun xs H Q => ∃ a dx fs, xs = [.ref a] ∧ H a = some (.ins C0 dx fs) ∧ Q (.bl true) H) := by
  intro pins s σ H xs us Q I r h
  obtain ⟨a, dx, fs, rfl, ea, q⟩ := h
  obtain ⟨u, rfl, rx⟩ := vals1 r
  cases (show u = Value.ref a from rx)
  obtain ⟨ox, od, J⟩ := ins_here I ea
  obtain ⟨m, hF⟩ := I.fr
  exact bool_asks (PySem.W.truthy_K0 hF I.ok.mod.kin J nb nl ⟨.bl true, H, I, rfl, q⟩)
end
end Lw
end
section
set_option maxRecDepth 100000
set_option maxHeartbeats 4000000
/-! int(text) of up to 4300 figures. -/
namespace Lw
open PySem PySem.Spec PySem.Calls PySem.NumText PyProof.Rows PySem.W
theorem wp_most {M : Model} {A : Around} {E : Value → Shared → Prop} {s : Shared} {Q : Nat → Shared → Prop} (d : s.heap.NoDigits) (h : Q 4300 s) : wpAny M A Builtin.intMaxStrDigits Q E s := by
  obtain ⟨mc, hns, hno⟩ := d
  unfold Builtin.intMaxStrDigits
  refine wpAny_bind (wpAny_nsGet hns ?_)
  rw [hno]
  exact wpAny_pure h
theorem wp_long {M : Model} {A : Around} {E : Value → Shared → Prop} {hp : Heap} {g d tk os} {Q : Value → Shared → Prop} {v : Value} {text : List Nat} {n : Int}
    (far : ¬ (text.takeWhile (· != 0)).length ≤ 640) (dg : hp.NoDigits) (rd : (int_private% "readNumeral") 4300 10 (text.takeWhile (· != 0)) = (int_private% "Numeral.value") n)
    (al : ((text.takeWhile (· != 0)).length == text.length) = true) (h : Q (.int n tk) ⟨hp, g, d, tk + 1, os⟩) :
    wpAny M A ((int_private% "intFromText") v text 10) Q E ⟨hp, g, d, tk, os⟩ := by
  repeat (any_goals (first
    | assumption
    | (with_reducible refine wpAny_ite_false far ?_)
    | (with_reducible refine wp_most dg ?_)
    | (with_reducible refine wpAny_ite_true al ?_)
    | wp_step))
  all_goals (try rw [rd])
  all_goals (try dsimp only)
  repeat (any_goals (first
    | assumption
    | (with_reducible refine wpAny_ite_true al ?_)
    | wp_step))
structure Box (p : Prop) : Prop where
  get : p
/-- a long text that is a number, where the limit of figures is the usual one -/
theorem new_long {x : PySem.Str} {u : Tok} {n : Int} (far : ¬ (numSeenOf x).length ≤ 640) (hx : x.length ≤ sizeLine) (hn : PySem.intText? x = some n) :
    Meets (Builtin.«int.__new__» ⟨[.type "int", .str x u], []⟩) (fun _ R s => s.heap.NoDigits ∧ R (.ok (.ret (.int n s.toks))) { s with toks := s.toks + 1 }) := by
  intro M w A R s z
  obtain ⟨dg, h⟩ := z
  obtain ⟨hp, g, d, tk, os⟩ := s
  have v1 := F.conv_sub_int
  have v2 := F.madeHere_int
  have v3 := KIN.str_int
  have v4 := KIN.str_idx
  have v5 := KIN.str_trunc
  have v6 : typeOf (.str x u) = pure (.type "str") := rfl
  have rd : (int_private% "readNumeral") 4300 10 (numSeenOf x) = (int_private% "Numeral.value") n ∧ ((numSeenOf x).length == (numTextOf x).length) = true := by
    rcases read4300 x hx with ⟨m, h1, h2, h3⟩ | ⟨h1, _⟩
    · rw [hn] at h1
      injection h1 with h1
      subst h1
      exact ⟨h3, h2⟩
    · rw [hn] at h1
      cases h1
  have bx := Box.mk (And.intro (And.intro far dg) rd)
  clear far rd hx hn dg
  repeat (any_goals (first
    | assumption
    | ((with_reducible show wpAny _ _ ((int_private% "intFromText") _ _ _) _ _ _); refine wp_long bx.get.1.1 bx.get.1.2 bx.get.2.1 bx.get.2.2 ?_)
    | wp_step))

section
open L2
variable {X : Cx}
/-- int(text), the text of figures and signs, of at most 4300 signs -/
def rIntS : List V → Hp → VK → Prop := fun xs H Q => ∃ (a : Str) (n : Int), xs = [.str a] ∧ (∀ c ∈ a.cps.toList, c = 45 ∨ (48 ≤ c ∧ c ≤ 57)) ∧ PySem.intText? a = some n ∧ a.length ≤ 4300 ∧ Q (.int n) H
theorem call_intS (hN : X.base.NoDigits) : CallR X (.type "int") rIntS := by
  intro pins s σ H xs us Q I r h
  obtain ⟨a, n, rfl, hd, hn, hl, q⟩ := h
  obtain ⟨u, rfl, t, rfl⟩ := vals1 r
  by_cases near : a.length ≤ 640
  · exact PySem.W.KIN.call_text hn near ⟨.int n, H, I.tok _, ⟨_, rfl⟩, q⟩
  · have e := (numText_signs hd).2
    have far : ¬ (numSeenOf a).length ≤ 640 := by
      show ¬ (numSeenOf a).length ≤ 640
      rw [e]
      have : a.cps.toList.length = a.length := Array.length_toList
      omega
    refine call_int_1 (new_long far (Nat.le_trans hl (by decide)) hn) ⟨hN.keeps fun b o z => (I.bs b o z).1, rfl, ?_⟩
    exact ⟨.int n, H, I.tok _, ⟨_, rfl⟩, q⟩
end
end Lw
end
section
set_option maxRecDepth 100000
set_option maxHeartbeats 4000000
/-! Texts of numbers. -/
namespace Lw
open PySem PySem.Spec PyProof.Rows L2
theorem starts_one (x : Str) (c : Nat) : Txt.startswith x ⟨#[c]⟩ = (x.cps.toList.head? == some c) := by
  obtain ⟨⟨l⟩⟩ := x
  cases l with
  | nil => rfl
  | cons a l =>
    unfold Txt.startswith
    have e : decide (0 + (⟨#[c]⟩ : Str).length ≤ (⟨⟨a :: l⟩⟩ : Str).length) = true := decide_eq_true (by show 0 + 1 ≤ (a :: l).length; simp)
    rw [e, Bool.true_and]
    unfold Builtin.Str.subAt
    show ((⟨a :: l⟩ : Array Nat).extract 0 (0 + 1) == #[c]) = (some a == some c)
    have e2 : (⟨a :: l⟩ : Array Nat).extract 0 (0 + 1) = #[a] := by
      apply Array.toList_inj.mp
      simp
    rw [e2]
    simp
def figL (l : List Nat) : List Nat := if l.head? == some 45 then l.tail else l
def digB (c : Nat) : Bool := decide (48 ≤ c) && decide (c ≤ 57)
/-- the integer of at most 1000 figures that a text writes as str does -/
def numS (z : Str) : Option Int :=
  if (decide (1 ≤ (figL z.cps.toList).length) && (decide ((figL z.cps.toList).length ≤ 1000) && ((figL z.cps.toList).all digB && !((figL z.cps.toList).head? == some 48 && !decide (z = "0"))))) = true then PySem.intText? z else none
def numV (v : V) : Option Int := match strV v with
  | some z => numS z
  | none => none
def optV : Option Int → V
  | some i => .int i
  | none => .non
theorem cut_tail (z : Str) : (cutS z (some 1) none).cps.toList = z.cps.toList.tail := by
  unfold cutS
  show ((z.cps.toList.drop (HT.sIx z.length 0 (some 1))).take (HT.sIx z.length z.length none - HT.sIx z.length 0 (some 1))) = _
  have hl : z.cps.toList.length = z.length := Array.length_toList
  have e1 : HT.sIx z.length 0 (some 1) = min 1 z.length := HT.sIx_nat z.length 0 1
  have e2 : HT.sIx z.length z.length none = z.length := rfl
  rw [e1, e2]
  generalize z.cps.toList = l at *
  cases l with
  | nil => simp
  | cons a l =>
    simp only [List.length_cons] at hl
    have : min 1 z.length = 1 := by omega
    rw [this]
    simp only [List.drop_succ_cons, List.drop_zero, List.tail_cons]
    exact List.take_of_length_le (by omega)
theorem intText_is {z : Str} (h1 : 1 ≤ (figL z.cps.toList).length) (h2 : (figL z.cps.toList).length ≤ 1000) (h3 : (figL z.cps.toList).all digB = true) :
    ∃ n, PySem.intText? z = some n ∧ (∀ c ∈ z.cps.toList, c = 45 ∨ (48 ≤ c ∧ c ≤ 57)) ∧ z.length ≤ 4300 := by
  have hl : z.cps.toList.length = z.length := Array.length_toList
  have dg : ∀ c ∈ figL z.cps.toList, 48 ≤ c ∧ c ≤ 57 := by
    intro c hc
    have := List.all_eq_true.mp h3 c hc
    simpa [digB] using this
  by_cases e : z.cps.toList.head? == some 45
  · have ef : figL z.cps.toList = z.cps.toList.tail := if_pos e
    have ec : z.cps.toList = 45 :: z.cps.toList.tail := by
      cases q : z.cps.toList with
      | nil => simp [q] at e
      | cons a l => simp [q] at e; simp [e]
    rw [ef] at dg h1 h2
    have hlen : z.length ≤ 4300 := by
      rw [← hl, ec]
      simp only [List.length_cons]
      omega
    refine ⟨_, PySem.intText_neg ec dg (by intro q; rw [q] at h1; simp at h1) hlen, fun c hc => ?_, hlen⟩
    rw [ec] at hc
    rcases List.mem_cons.mp hc with q | q
    · exact .inl q
    · exact .inr (dg c q)
  · have ef : figL z.cps.toList = z.cps.toList := if_neg e
    rw [ef] at dg h1 h2
    exact ⟨_, PySem.intText_digits dg (by intro q; rw [q] at h1; simp at h1) (by omega), fun c hc => .inr (dg c hc), by omega⟩
end Lw
end
section
set_option maxRecDepth 100000
set_option maxHeartbeats 4000000
/-! A text is what str writes of its number, or it isn't. -/
namespace Lw
open PySem PySem.Spec PyProof.Rows L2 PySem.NumText
theorem ofNat_digit : ∀ c : Nat, 48 ≤ c → c ≤ 57 → (Char.ofNat c).toNat = c := by
  intro c h1 h2
  have : ∀ d : Nat, d < 10 → (Char.ofNat (48 + d)).toNat = 48 + d := by decide
  have z := this (c - 48) (by omega)
  rw [show 48 + (c - 48) = c by omega] at z
  exact z
theorem back_digits : ∀ cs : List Nat, AllDigits cs → (cs.map Char.ofNat).map Char.toNat = cs
  | [], _ => rfl
  | c :: cs, h => by
    have hc := h c List.mem_cons_self
    show (Char.ofNat c).toNat :: (cs.map Char.ofNat).map Char.toNat = c :: cs
    rw [ofNat_digit c hc.1 hc.2, back_digits cs fun d hd => h d (List.mem_cons_of_mem _ hd)]
theorem drop_digits {cs : List Nat} (h : AllDigits cs) : AllDigits (cs.dropWhile (· == 48)) := fun c hc => h c (List.dropWhile_sublist _ |>.subset hc)
/-- the figures that str writes of the value of some figures -/
theorem numL_val_of {cs : List Nat} (h : AllDigits cs) : TL.numL (digitsVal cs) = (match cs.dropWhile (· == 48) with
    | [] => [48]
    | c :: r => c :: r) := by
  show (Nat.toDigits 10 (digitsVal cs)).map Char.toNat = _
  rw [toDigits_all cs h]
  have hd := drop_digits h
  cases e : cs.dropWhile (· == 48) with
  | nil => rfl
  | cons c r =>
    rw [e] at hd
    exact back_digits (c :: r) hd
theorem drop_len (cs : List Nat) : (cs.dropWhile (· == 48)).length ≤ cs.length := (List.dropWhile_sublist _).length_le
/-- some figures are what str writes of their value: no needless 0 ahead -/
theorem numL_eq {cs : List Nat} (h : AllDigits cs) (h1 : cs ≠ []) : TL.numL (digitsVal cs) = cs ↔ (cs = [48] ∨ cs.head? ≠ some 48) := by
  rw [numL_val_of h]
  cases cs with
  | nil => exact absurd rfl h1
  | cons c r =>
    by_cases e : c = 48
    · subst e
      have ed : List.dropWhile (· == 48) (48 :: r) = r.dropWhile (· == 48) := by simp [List.dropWhile_cons]
      rw [ed]
      have hl := drop_len r
      cases q : r.dropWhile (· == 48) with
      | nil =>
        constructor
        · intro z
          exact .inl z.symm
        · rintro (z | z)
          · exact z.symm
          · exact absurd rfl z
      | cons a b =>
        rw [q] at hl
        simp only [List.length_cons] at hl
        constructor
        · intro z
          have := congrArg List.length z
          simp only [List.length_cons] at this
          omega
        · rintro (z | z)
          · injection z with _ z
            subst z
            cases q
          · exact absurd rfl z
    · have ed : List.dropWhile (· == 48) (c :: r) = c :: r := by
        have : (c == 48) = false := by simpa using e
        simp [List.dropWhile_cons, this]
      rw [ed]
      exact ⟨fun _ => .inr (by simpa using e), fun _ => rfl⟩
theorem val_lt : ∀ cs : List Nat, AllDigits cs → ∀ a : Nat, cs.foldl (fun acc c => acc * 10 + (c - 48)) a < (a + 1) * 10 ^ cs.length
  | [], _, a => by simp
  | c :: cs, h, a => by
    have hc := h c List.mem_cons_self
    have ih := val_lt cs (fun d hd => h d (List.mem_cons_of_mem _ hd)) (a * 10 + (c - 48))
    show cs.foldl _ (a * 10 + (c - 48)) < _
    refine Nat.lt_of_lt_of_le ih ?_
    rw [List.length_cons, Nat.pow_succ, Nat.mul_comm (10 ^ cs.length) 10, ← Nat.mul_assoc]
    exact Nat.mul_le_mul_right _ (by omega)
theorem digitsVal_lt {cs : List Nat} (h : AllDigits cs) : digitsVal cs < 10 ^ cs.length := by
  have := val_lt cs h 0
  simpa [digitsVal] using this
end Lw
namespace Lw
open PySem PySem.Spec PyProof.Rows L2 PySem.NumText
theorem tl_neg {m : Nat} (h : 0 < m) : TL.tl (Str.ofString (toString (-(m : Int)))) = 45 :: TL.numL m := by
  obtain ⟨k, rfl⟩ : ∃ k, m = k + 1 := ⟨m - 1, by omega⟩
  have e : toString (-((k + 1 : Nat) : Int)) = "-" ++ toString (k + 1) := rfl
  rw [e, TL.tl_ofString, String.toList_append, List.map_append]
  have e2 := TL.tl_num (k + 1)
  rw [TL.tl_ofString] at e2
  have e3 : toString (((k + 1 : Nat)) : Int) = toString (k + 1) := rfl
  rw [e3] at e2
  rw [e2]
  rfl
theorem zero_is {z : Str} : z = "0" ↔ z.cps.toList = [48] := by
  constructor
  · rintro rfl
    rfl
  · intro h
    exact TL.ext_tl h
theorem all_dig {l : List Nat} (h : l.all digB = true) : AllDigits l := by
  intro c hc
  have := List.all_eq_true.mp h c hc
  simpa [digB] using this
/-- str(int(z)) is z just where the text is written as str does -/
theorem canon {z : Str} {n : Int} (h1 : 1 ≤ (figL z.cps.toList).length) (h2 : z.length ≤ 4300) (h3 : (figL z.cps.toList).all digB = true) (hn : PySem.intText? z = some n) :
    (Str.ofString (toString n) = z ↔ ¬ (((figL z.cps.toList).head? == some 48) = true ∧ z ≠ "0")) ∧ n.natAbs < 10 ^ z.length := by
  have dg := all_dig h3
  have hl : z.cps.toList.length = z.length := Array.length_toList
  have ne : figL z.cps.toList ≠ [] := by
    intro q
    rw [q] at h1
    simp at h1
  by_cases e : z.cps.toList.head? == some 45
  · have ef : figL z.cps.toList = z.cps.toList.tail := if_pos e
    have ec : z.cps.toList = 45 :: z.cps.toList.tail := by
      cases q : z.cps.toList with
      | nil => simp [q] at e
      | cons a l => simp [q] at e; simp [e]
    rw [ef] at dg ne ⊢
    have z0 : z ≠ "0" := fun y => by
      have y2 := zero_is.mp y
      rw [y2] at ec
      cases ec
    have hv := hn.symm.trans (PySem.intText_neg ec dg ne h2)
    injection hv with hv
    subst hv
    refine ⟨?_, ?_⟩
    · by_cases q : 0 < digitsVal z.cps.toList.tail
      · constructor
        · intro y
          rintro ⟨y2, _⟩
          have t := tl_neg q
          rw [y] at t
          have t2 : z.cps.toList = 45 :: TL.numL (digitsVal z.cps.toList.tail) := t
          rw [ec] at t2
          injection t2 with _ t2
          rcases (numL_eq dg ne).mp t2.symm with r | r
          · rw [r] at q
            exact absurd q (by decide)
          · exact r (beq_iff_eq.mp y2)
        · intro y
          have r : z.cps.toList.tail.head? ≠ some 48 := fun y2 => y ⟨by simpa using y2, z0⟩
          refine TL.ext_tl ?_
          rw [tl_neg q, (numL_eq dg ne).mpr (.inr r)]
          exact ec.symm
      · have q0 : digitsVal z.cps.toList.tail = 0 := by omega
        rw [q0]
        constructor
        · intro y
          exact absurd y.symm z0
        · intro y
          exfalso
          refine y ⟨?_, z0⟩
          cases q2 : z.cps.toList.tail with
          | nil => exact absurd q2 ne
          | cons a b =>
            rw [q2] at dg q0
            have ha := dg a List.mem_cons_self
            by_cases a48 : a = 48
            · simp [a48]
            · have := digitsVal_pos (c := a) (cs := b) (by omega)
              omega
    · have lt := digitsVal_lt dg
      have : (z.cps.toList.tail).length ≤ z.length := by
        rw [List.length_tail, hl]
        omega
      have p := Nat.pow_le_pow_right (n := 10) (by decide) this
      rw [Int.natAbs_neg, Int.natAbs_natCast]
      omega
  · have ef : figL z.cps.toList = z.cps.toList := if_neg e
    rw [ef] at dg ne ⊢
    have hv := hn.symm.trans (PySem.intText_digits dg ne h2)
    injection hv with hv
    subst hv
    refine ⟨?_, ?_⟩
    · have t := TL.tl_num (digitsVal z.cps.toList)
      constructor
      · intro y
        rintro ⟨y2, y3⟩
        rw [y] at t
        rcases (numL_eq dg ne).mp t.symm with r | r
        · exact y3 (zero_is.mpr r)
        · exact r (beq_iff_eq.mp y2)
      · intro y
        refine TL.ext_tl ?_
        rw [t]
        refine (numL_eq dg ne).mpr ?_
        by_cases r : z.cps.toList.head? = some 48
        · refine .inl (zero_is.mp ?_)
          exact Classical.byContradiction fun y2 => y ⟨by simpa using r, y2⟩
        · exact .inr r
    · have lt := digitsVal_lt dg
      rw [hl] at lt
      exact lt
end Lw
end
section
set_option maxRecDepth 100000
set_option maxHeartbeats 4000000
/-! A def called with keywords alone; text * number. -/
namespace Lw
open PySem PySem.Spec PyProof.Rows L2
section
variable {X : Cx} {CX : CXT} {k : Nat} {f : Addr} {fd : FuncData} {ps ks : List Str} {sp : Sp} {E : XK} {x : Str} {p pos : Pos} {kws : List Keyword} {tk : TA} {g : List Value → List Value → List Value} {gV : List V → List V → List V}
/-- f(k=v, ..) -/
theorem pe_callK0 (F : FnOk X.prog X.w X.K X.mg X.base CX k f fd ps sp) (hr : Room k X.A) (hg : Gl X x) (hm : X.mg x = some (.ref f)) (hk : PySem.W.keepIn X.K (.ref f) = true) (hb : KBinds X.K fd ps ks g gV) (hx : Passes CX X E) (hkw : PK X kws tk)
    (hall : (backToKw pos (keywordEach kws X.env)).all (·.1.isSome) = true := by rfl) (hks : (backToKw pos (keywordEach kws X.env)).filterMap (·.1) = ks := by rfl) (hdb : (x == ("__debug__" : Str)) = false := by decide)
    (hpl : ((backTo pos (starEach [] X.env)).any (·.1) || (backToKw pos (keywordEach kws X.env)).any (·.1.isNone)) = false := by rfl) :
    PE X (.Call (.Name x p) [] kws pos) (tCallK sp gV E tNil tk) := by
  refine ⟨fun pins s σ H Q I h => ?_⟩
  refine wpAny_Call_Name_kw (ld_glob I hg hm ?_ hdb)
  refine PySem.W.callWith_KW0 (h₀ := X.base) I.ok.mod.kin hk hall ?_ hpl
  refine thn (hkw.run pos pins s σ H _ I h) fun ws s1 ⟨zs, H1, I1, r, q⟩ => ⟨I1.kIn, ?_⟩
  rw [hks]
  exact run_fnk (us := []) (vs := []) F hr hb hx I1 .nil r q
/-- text * number -/
theorem op_mulS : OpR X (binaryOp .Mult) (fun x y H Q => ∃ (z : Str) (n : Int), x = .str z ∧ y = .int n ∧ MulOk z n ∧ Q (.str (Txt.mul z n)) H) := by
  intro pins s σ H x y v u Q I rx ry h
  obtain ⟨z, n, rfl, rfl, ok, q⟩ := h
  obtain ⟨t, rfl⟩ := rx
  obtain ⟨t', rfl⟩ := ry
  exact SB.mul ok fun t'' k => ⟨.str _, H, I.tok _, ⟨_, rfl⟩, q⟩
end
end Lw
end
section
set_option maxRecDepth 100000
set_option maxHeartbeats 4000000
namespace K01
open PySem PySem.Spec PyProof.Rows L2 Lw
def top (i : Nat) : Stmt := PySem.Challenge.pw_stayhouse_k01_looks_at_any_values.main.body.getD i (.Pass ⟨0, 0, 0, 0⟩)
abbrev sPen : Stmt := top 18
abbrev sDraw : Stmt := top 19
abbrev sPick : Stmt := top 20

section
variable {P : Program} {w : World} {K : PySem.W.Frag} {mg : Str → Option Value} {base : Heap}
theorem scD : FnScope ["_law_pen_here", "_law_many", "_law_digit", "_law_spot", "_law_cell", "_law_great", "_law_stirred"] ["_law_pen_here", "_law_many"] (defScope sDraw) := ⟨rfl, rfl, rfl, by decide +kernel, rfl, by decide +kernel, by decide +kernel⟩
theorem ok_draw {f : Addr} {fd : FuncData} (F : Fun K "_law_draw" "_law_draw" sDraw f fd) (T : TxtB mg) : FnOk P w K mg base CX0 1 f fd ["_law_pen_here", "_law_many"] spDraw := by
  refine F.ok scD (fun vs H Q E h => ?_) (fun cdv A outer s H vs Q E hr h => ?_)
  · obtain ⟨p, c, ns, i, r, m, rfl, _⟩ := h
    rfl
  · obtain ⟨p, c, ns, i, r, m, rfl, D, hm0, hm1, hi, k⟩ := h
    refine ⟨_, pss_cons (ps_if (pt_cmpR op_gt (pe_ix ix_list (pv 0) pe_int (fun _ _ => rfl)) pe_int (nomark _))
        (pss_cons (ps_set (i := 2) scD.nd rfl (Or.inl rfl) (pe_op op_modN (pe_callTy call_int1 (by rfl) T.int (by decide +kernel) (pa_cons (pe_ix ix_list (pv 0) pe_int (fun _ _ => rfl)) pa_nil)) (pv 1)))
        (pss_cons (ps_asg (pe_op op_fdivN (pe_callTy call_int1 (by rfl) T.int (by decide +kernel) (pa_cons (pe_ix ix_list (pv 0) pe_int (fun _ _ => rfl)) pa_nil)) (pv 1)) (pg_sub (pv 0) pe_int set_list))
        (pss_one (ps_ret (pv 2))))) pss_nil)
      (pss_cons (ps_set (i := 3) scD.nd rfl (Or.inl rfl) (pe_ix ix_list (pv 0) pe_int (fun _ _ => rfl)))
      (pss_cons (ps_asg (pe_op op_add (pv 3) pe_int) (pg_sub (pv 0) pe_int set_list))
      (pss_cons (ps_set (i := 4) scD.nd rfl (Or.inl rfl) (pe_op op_add (pe_op op_mul pe_int (pv 3)) pe_int))
      (pss_cons (ps_if (pt_cmpR (op_neD (hr.units)) (pe_ix ix_list (pv 0) pe_int (fun _ _ => rfl)) (pe_lst pa_nil) (nomark _))
        (pss_one (ps_set (i := 4) scD.nd rfl (Or.inl rfl) (pe_ix ix_list (pe_ix ix_list (pv 0) pe_int (fun _ _ => rfl)) (pe_op op_modN (pe_callTy call_int1 (by rfl) T.int (by decide +kernel) (pa_cons (pv 3) pa_nil)) (pe_callB call_len_seq (by rfl) T.len PySem.boot_len (pa_cons (pe_ix ix_list (pv 0) pe_int (fun _ _ => rfl)) pa_nil))) (fun _ _ => rfl)))) pss_nil)
      (pss_cons (ps_if (PW.pt (pw_and (pt_cmpR op_lt (pv 3) (pe_callB call_len_seq (by rfl) T.len PySem.boot_len (pa_cons (pe_ix ix_list (pv 0) pe_int (fun _ _ => rfl)) pa_nil)) (nomark _))
            (pw_and1 (pt_cmpR op_ge (pe_callB call_abs (by rfl) T.abs (by decide +kernel) (pa_cons (pv 4) pa_nil)) (pe_op op_pow pe_int pe_int) (nomark _)))))
          (pss_cons (ps_set (i := 5) scD.nd rfl (Or.inl rfl) (pe_op op_add (pe_op op_mul pe_int (pe_op op_sub (pe_callB call_abs (by rfl) T.abs (by decide +kernel) (pa_cons (pv 4) pa_nil)) (pe_op op_pow pe_int pe_int)))
              (pe_callTy call_int1 (by rfl) T.int (by decide +kernel) (pa_cons (pe_cmpR op_lt (pv 4) pe_int (nomark _)) pa_nil))))
          (pss_cons (ps_asg (pe_op op_fdivN (pe_callTy call_int1 (by rfl) T.int (by decide +kernel) (pa_cons (pv 5) pa_nil)) (pv 1)) (pg_sub (pv 0) pe_int set_list))
          (pss_one (ps_ret (pe_op op_modN (pe_callTy call_int1 (by rfl) T.int (by decide +kernel) (pa_cons (pv 5) pa_nil)) (pv 1)))))) pss_nil)
      (pss_cons (ps_set (i := 6) scD.nd rfl (Or.inl rfl) (pe_op op_modN (pe_callTy call_int1 (by rfl) T.int (by decide +kernel) (pa_cons (pe_op op_pow (pe_op op_add (pe_op op_add (pe_op op_modN (pe_callTy call_int1 (by rfl) T.int (by decide +kernel) (pa_cons (pv 4) pa_nil)) pe_int) (pe_op op_mul pe_int (pv 3))) pe_int) pe_int) pa_nil)) pe_int))
      (pss_cons (ps_set (i := 6) scD.nd rfl (Or.inl rfl) (pe_op op_modN (pe_callTy call_int1 (by rfl) T.int (by decide +kernel) (pa_cons (pe_op op_pow (pe_op op_add (pe_op op_add (pe_op op_mul (pv 6) (pe_op op_add (pe_op op_mul pe_int (pv 3)) pe_int)) (pe_op op_mul (pe_op op_mul pe_int (pv 3)) (pv 3))) pe_int) pe_int) pa_nil)) pe_int))
      (pss_one (ps_ret (pe_op op_modN (pe_callTy call_int1 (by rfl) T.int (by decide +kernel) (pa_cons (pe_op op_fdivN (pv 6) pe_int) pa_nil)) (pv 1))))))))))), ?_⟩
    have hpc := D.ne
    obtain ⟨h1, h2, i0, r0, l63⟩ := id D
    refine ⟨_, rfl, _, _, _, _, rfl, rfl, SqL.of h1, rfl, _, _, rfl, rfl, _, rfl, ?_⟩
    refine ite2 (fun c1 => ?_) (fun c1 => ?_)
    · refine ⟨_, rfl, _, _, _, _, rfl, rfl, SqL.of h1, rfl, Or.inl ⟨_, rfl, _, rfl, _, _, rfl, rfl, (by omega), ?_⟩⟩
      refine ⟨_, rfl, _, _, _, _, rfl, rfl, SqL.of h1, rfl, Or.inl ⟨_, rfl, _, rfl, _, _, rfl, rfl, (by constructor <;> omega), _, rfl, _, _, _, _, rfl, rfl, h1, rfl, _, rfl, ?_⟩⟩
      have z : (0 : Int) ≤ r.fdiv m := by
        rw [Int.fdiv_eq_ediv_of_nonneg _ (by omega)]
        exact Int.ediv_nonneg r0 (by omega)
      exact k _ _ _ _ (fm hm0).1 (fm hm0).2 (Int.le_refl _) (by omega) (D.next (But.upd (But.refl _ _)) upd_same i0 z) (But.upd (But.refl _ _))
    · refine ⟨_, rfl, _, _, _, _, rfl, rfl, SqL.of h1, rfl, ?_⟩
      refine ⟨_, rfl, _, _, rfl, rfl, _, rfl, _, _, _, _, rfl, rfl, h1, rfl, ?_⟩
      have hc : ∀ o, upd H p o c = some (.lst (ns.map V.int)) := fun o => by rw [upd_ne hpc.symm]; exact h2
      refine ⟨_, rfl, _, _, rfl, rfl, mul_okL (by omega) (by omega), _, _, rfl, rfl, ?_⟩
      refine ⟨_, rfl, _, _, _, _, rfl, rfl, SqL.of upd_same, rfl, (by decide), fun l hl => ?_⟩
      have hpl : p ≠ l := ne_of_none upd_same hl
      have hcl : c ≠ l := ne_of_none (hc _) hl
      have g1 : ∀ o, upd (upd H p (.lst [.ref c, .int (i + 1), .int r])) l o p = some (.lst [.ref c, .int (i + 1), .int r]) := fun o => by rw [upd_ne hpl]; exact upd_same
      have g2 : ∀ o, upd (upd H p (.lst [.ref c, .int (i + 1), .int r])) l o c = some (.lst (ns.map V.int)) := fun o => by rw [upd_ne hcl]; exact hc _
      refine ⟨_, _, .lst (SqL.of (g2 _)) (dp_ints ns), .lst (SqL.of upd_same) .nil, shaped_ints ns, rfl, _, rfl, ?_⟩
      have B1 : ∀ {o u : HO}, But p H (upd (upd H p o) l u) := fun {o u} => by
        refine But.new (But.upd (But.refl _ _)) ?_
        by_cases e : l = p
        · exact absurd e.symm hpl
        · rw [upd_ne e]
          rw [upd_ne e] at hl
          exact hl
      refine ite2 (fun c2 => ?_) (fun c2 => ?_)
      focus
        have hne : ns.isEmpty = false := by simpa [eqv_ints_nil] using c2
        obtain ⟨z, hz⟩ := at_fmod (i := i) hne
        have hl0 : (((ns.map V.int).length : Nat) : Int) ≠ 0 := by
          rw [List.length_map]
          have : ns.length ≠ 0 := by
            intro e
            rw [List.isEmpty_eq_false_iff] at hne
            exact hne (List.length_eq_zero_iff.mp e)
          omega
        refine ⟨_, rfl, _, _, _, _, rfl, rfl, SqL.of (g1 _), rfl, _, rfl, Or.inl ⟨_, rfl, _, rfl, _, _, _, _, rfl, rfl, SqL.of (g1 _), rfl, _, _, rfl, Or.inl (SqL.of (g2 _)), _, _, rfl, rfl, hl0, _, _, _, _, rfl, rfl, SqL.of (g2 _), hz, ?_⟩⟩
      all_goals
        refine ⟨_, rfl, _, rfl, _, _, _, _, rfl, rfl, SqL.of (g1 _), rfl, _, _, rfl, Or.inl (SqL.of (g2 _)), _, _, rfl, rfl, _, rfl, ?_⟩
        refine ite2 (fun c3 => ?_) (fun c3 => ?_)
        focus
          refine ⟨_, rfl, _, rfl, _, _, rfl, rfl, p18, _, _, rfl, rfl, _, rfl, ?_⟩
          refine ite2 (fun c4 => ?_) (fun c4 => ?_)
          · refine ⟨_, rfl, _, rfl, _, _, rfl, rfl, p18, _, _, rfl, rfl, _, _, rfl, rfl, mul_okL (by omega) (by omega), _, rfl, _, _, rfl, rfl, Or.inr ⟨_, rfl, _, _, rfl, rfl, ?_⟩⟩
            have gn := great_nn c4
            refine ⟨_, rfl, Or.inl ⟨_, rfl, _, rfl, _, _, rfl, rfl, (by constructor <;> omega), _, rfl, _, _, _, _, rfl, rfl, g1 _, rfl, ?_⟩⟩
            refine ⟨_, rfl, Or.inl ⟨_, rfl, _, rfl, _, _, rfl, rfl, (by omega), ?_⟩⟩
            exact k _ _ _ _ (fm hm0).1 (fm hm0).2 (by omega) (Int.le_refl _) (D.next (But.upd B1) upd_same (by omega) (fdiv_nn gn hm0)) (But.upd B1)
        rotate_left
        focus refine iteF ?_
        all_goals
          refine ⟨_, rfl, Or.inl ⟨_, rfl, _, _, rfl, rfl, (by intro z; omega), _, rfl, _, _, rfl, rfl, mul_okL (by omega) (by omega), _, _, rfl, rfl, _, _, rfl, rfl, _, _, rfl, rfl, ?_, Or.inl ⟨_, rfl, _, _, rfl, rfl, (by intro z; omega), ?_⟩⟩⟩
          · exact pow_ok _ (st1_nn i0 (by omega)) (st1_lt (by omega) (by omega) ⟨i0, hi⟩) (by omega) (by omega)
          refine ⟨_, rfl, _, rfl, _, _, rfl, rfl, mul_okL (by omega) (by omega), _, _, rfl, rfl, _, _, rfl, rfl, ?_, _, rfl, _, _, rfl, rfl, mul_okL (by omega) (by omega), _, rfl, _, _, rfl, rfl, ?_, _, _, rfl, rfl, _, _, rfl, rfl, _, _, rfl, rfl, ?_, Or.inl ⟨_, rfl, _, _, rfl, rfl, (by intro z; omega), ?_⟩⟩
          · exact st2_a (by omega)
          · exact st2_b ⟨i0, hi⟩ (by omega)
          · exact pow_ok _ (st2_nn i0 (by omega)) (st2_lt (by omega) (by omega) ⟨i0, hi⟩) (by omega) (by omega)
          refine ⟨_, rfl, _, _, rfl, rfl, (by constructor <;> omega), Or.inl ⟨_, rfl, _, rfl, _, _, rfl, rfl, (by omega), ?_⟩⟩
          exact k _ _ _ _ (fm hm0).1 (fm hm0).2 (by omega) (Int.le_refl _) (D.next B1 (g1 _) (by omega) r0) B1
theorem scPen : FnScope ["_law_script"] ["_law_script"] (defScope sPen) := ⟨rfl, rfl, rfl, by decide +kernel, rfl, by decide +kernel, by decide +kernel⟩
theorem ok_pen {f : Addr} {fd : FuncData} (F : Fun K "_law_pen" "_law_pen" sPen f fd) (T : TxtB mg) : FnOk P w K mg base CX0 1 f fd ["_law_script"] (spPen K) := by
  refine F.ok scPen (fun vs H Q E h => ?_) (fun cdv A outer s H vs Q E hr h => ?_)
  · obtain ⟨a, ns, rfl, _⟩ := h
    rfl
  · obtain ⟨a, ns, rfl, hS, hl, k⟩ := h
    refine ⟨_, pss_one (ps_ret (pe_lstS (pa_cons (pe_callTy call_listS (by rfl) T.list (by decide +kernel) (pa_cons (pe_slS (pv 0) po_none (po_some pe_int)) pa_nil)) (pa_cons pe_int (pa_cons pe_int pa_nil))))), ?_⟩
    have e := cut63 (xs := ns.map V.int) (by rw [List.length_map]; exact hl)
    refine ⟨_, rfl, _, rfl, _, _, rfl, hS, fun l1 H1 n1 s1 g1 => ?_⟩
    refine ⟨_, _, rfl, Or.inl (SqL.of g1), fun l2 H2 n2 s2 g2 => ⟨by show 3 ≤ sizeLine; decide, fun l3 H3 n3 s3 g3 => ?_⟩⟩
    rw [e] at g2
    exact k _ _ _ (Same.trans (Same.trans s1 s2) s3) ⟨g3, s3 _ _ g2, by omega, by omega, hl⟩
theorem scPick : FnScope ["_law_pen_here", "_law_some"] ["_law_pen_here", "_law_some"] (defScope sPick) := ⟨rfl, rfl, rfl, by decide +kernel, rfl, by decide +kernel, by decide +kernel⟩
theorem ok_pick {f g : Addr} {fd gd : FuncData} (F : Fun K "_law_pick" "_law_pick" sPick f fd) (T : TxtB mg) (FD : Fun K "_law_draw" "_law_draw" sDraw g gd) (mgD : mg "_law_draw" = some (.ref g)) (bD : Binds K gd ["_law_pen_here", "_law_many"] []) :
    FnOk P w K mg base CX0 2 f fd ["_law_pen_here", "_law_some"] spPick := by
  have GD : FnOk P w K mg base CX0 1 g gd ["_law_pen_here", "_law_many"] spDraw := ok_draw FD T
  refine F.ok scPick (fun vs H Q E h => ?_) (fun cdv A outer s H vs Q E hr h => ?_)
  · obtain ⟨p, c, q, ns, i, r, xs, rfl, _⟩ := h
    rfl
  · obtain ⟨p, c, q, ns, i, r, xs, rfl, D, hi, hq, hqp, hne, hl, k⟩ := h
    refine ⟨_, pss_one (ps_ret (pe_ix ix_list (pv 1) (pe_call GD hr rfl mgD FD.kp bD .nil pass0 (pa_cons (pv 0) (pa_cons (pe_callB call_len_seq (by rfl) T.len PySem.boot_len (pa_cons (pv 1) pa_nil)) pa_nil))) (fun _ _ => rfl))), ?_⟩
    have l0 : 0 < xs.length := List.length_pos_iff.mpr hne
    refine ⟨_, rfl, _, rfl, _, rfl, _, _, rfl, Or.inl (SqL.of hq), ?_⟩
    refine ⟨p, c, ns, i, r, _, rfl, D, by omega, by omega, hi, fun d i' r' H' d0 d1 i1 i2 D' B => ?_⟩
    obtain ⟨x, hx, ha⟩ := at_mem d0 d1
    exact ⟨_, _, _, _, rfl, rfl, SqL.of (B _ _ hqp hq), ha, k x i' r' H' hx i1 i2 D' B⟩
end
end K01
end
section
set_option maxRecDepth 100000
set_option maxHeartbeats 4000000
namespace K01
open PySem PySem.Spec PyProof.Rows L2 Lw
abbrev sIsInt : Stmt := top 1
abbrev sWithin : Stmt := top 2
abbrev sAmount : Stmt := top 3
abbrev sName : Stmt := top 4
section
variable {P : Program} {w : World} {K : PySem.W.Frag} {mg : Str → Option Value} {base : Heap}
theorem scIsInt : FnScope ["value"] ["value"] (defScope sIsInt) := ⟨rfl, rfl, rfl, by decide +kernel, rfl, by decide +kernel, by decide +kernel⟩
theorem ok_isint {f : Addr} {fd : FuncData} (F : Fun K "is_integer" "is_integer" sIsInt f fd) (T : TxtC mg) : FnOk P w K mg base CX0 1 f fd ["value"] (spIsInt K) := by
  refine F.ok scIsInt (fun vs H Q E h => ?_) (fun cdv A outer s H vs Q E hr h => ?_)
  · obtain ⟨v, rfl, _⟩ := h
    rfl
  · obtain ⟨v, rfl, ⟨t, ty, k1, k2, k3⟩, q⟩ := h
    refine ⟨_, pss_one (ps_ret (pe_and (pe_callB call_isi (by rfl) T.isi (by decide +kernel) (pa_cons (pv 0) (pa_cons (pe_bltn (v := .ty "int") (by rfl) T.int (by decide +kernel) rfl) pa_nil)))
      (pe_one (pe_not (pe_callB call_isi (by rfl) T.isi (by decide +kernel) (pa_cons (pv 0) (pa_cons (pe_bltn (v := .ty "bool") (by rfl) T.bool (by decide +kernel) rfl) pa_nil))))))), ?_⟩
    refine ⟨_, rfl, v, .ty "int", t, _, _, rfl, ClsV.ty "int", ty, k1, _, rfl, ?_⟩
    refine ite2 (fun c => ?_) (fun c => ?_)
    · refine ⟨_, rfl, v, .ty "bool", t, _, _, rfl, ClsV.ty "bool", ty, k2, _, rfl, ?_⟩
      cases e : vBl v with
      | true =>
        rw [intV_no (.inr e)] at q
        exact q
      | false =>
        obtain ⟨i, rfl⟩ := intV_of c e
        exact q
    · have c2 : vIntB v = false := by simpa using c
      rw [intV_no (.inl c2)] at q
      exact q
theorem scWithin : FnScope ["value", "least", "most"] ["value", "least", "most"] (defScope sWithin) := ⟨rfl, rfl, rfl, by decide +kernel, rfl, by decide +kernel, by decide +kernel⟩
theorem ok_within {f g : Addr} {fd gd : FuncData} (F : Fun K "is_within" "is_within" sWithin f fd) (GI : FnOk P w K mg base CX0 1 g gd ["value"] (spIsInt K)) (mI : mg "is_integer" = some (.ref g)) (kI : PySem.W.keepIn K (.ref g) = true) (bI : Binds K gd ["value"] []) :
    FnOk P w K mg base CX0 2 f fd ["value", "least", "most"] (spWithin K) := by
  refine F.ok scWithin (fun vs H Q E h => ?_) (fun cdv A outer s H vs Q E hr h => ?_)
  · obtain ⟨v, lo, hi, rfl, _⟩ := h
    rfl
  · obtain ⟨v, lo, hi, rfl, kn, q⟩ := h
    refine ⟨_, pss_one (ps_ret (pe_and (pe_call GI hr rfl mI kI bI .nil pass0 (pa_cons (pv 0) pa_nil)) (pe_one (pe_chain op_le op_le (pv 1) (pv 0) (pv 2))))), ?_⟩
    refine ⟨_, rfl, v, rfl, kn, _, rfl, ?_⟩
    cases e : intV v with
    | none =>
      refine iteF ?_
      unfold withinV at q
      rw [e] at q
      exact q
    | some i =>
      obtain rfl : v = .int i := by
        cases v <;> simp_all [intV]
      refine iteT ?_
      refine ⟨_, rfl, _, rfl, _, _, rfl, rfl, _, rfl, ?_⟩
      have q2 : Q (.bl (decide (lo ≤ i) && decide (i ≤ hi))) H := q
      refine ite2 (fun c => ?_) (fun c => ?_)
      · refine ⟨_, rfl, _, _, rfl, rfl, ?_⟩
        rw [c] at q2
        exact q2
      · have c2 : decide (lo ≤ i) = false := by simpa using c
        rw [c2] at q2
        exact q2
theorem scAmount : FnScope ["value"] ["value"] (defScope sAmount) := ⟨rfl, rfl, rfl, by decide +kernel, rfl, by decide +kernel, by decide +kernel⟩
theorem ok_amount {f g : Addr} {fd gd : FuncData} (F : Fun K "is_amount" "is_amount" sAmount f fd) (GI : FnOk P w K mg base CX0 1 g gd ["value"] (spIsInt K)) (mI : mg "is_integer" = some (.ref g)) (kI : PySem.W.keepIn K (.ref g) = true) (bI : Binds K gd ["value"] []) :
    FnOk P w K mg base CX0 2 f fd ["value"] (spAmount K) := by
  refine F.ok scAmount (fun vs H Q E h => ?_) (fun cdv A outer s H vs Q E hr h => ?_)
  · obtain ⟨v, rfl, _⟩ := h
    rfl
  · obtain ⟨v, rfl, kn, q⟩ := h
    refine ⟨_, pss_one (ps_ret (pe_and (pe_call GI hr rfl mI kI bI .nil pass0 (pa_cons (pv 0) pa_nil)) (pe_one (pe_cmpR op_ge (pv 0) pe_int (nomark _))))), ?_⟩
    refine ⟨_, rfl, v, rfl, kn, _, rfl, ?_⟩
    cases e : intV v with
    | none =>
      refine iteF ?_
      unfold amountV at q
      rw [e] at q
      exact q
    | some i =>
      obtain rfl : v = .int i := by
        cases v <;> simp_all [intV]
      refine iteT ?_
      exact ⟨_, rfl, _, _, rfl, rfl, q⟩
end
end K01
end
section
set_option maxRecDepth 100000
set_option maxHeartbeats 4000000
namespace K01
open PySem PySem.Spec PyProof.Rows L2 Lw
section
variable {P : Program} {w : World} {K : PySem.W.Frag} {mg : Str → Option Value} {base : Heap}
theorem take_more {l : List Nat} {i : Nat} {c : Nat} (h : l[i]? = some c) : l.take (i + 1) = l.take i ++ [c] := by
  rw [List.take_add_one, h]
  rfl
theorem scName : FnScope ["value", "letter"] ["value"] (defScope sName) := ⟨rfl, rfl, rfl, by decide +kernel, rfl, by decide +kernel, by decide +kernel⟩
theorem ok_name {f : Addr} {fd : FuncData} (F : Fun K "is_name" "is_name" sName f fd) (T : TxtC mg) : FnOk P w K mg base CX0 1 f fd ["value"] (spName K) := by
  refine F.ok scName (fun vs H Q E h => ?_) (fun cdv A outer s H vs Q E hr h => ?_)
  · obtain ⟨v, rfl, _⟩ := h
    rfl
  · obtain ⟨v, rfl, ⟨t, ty, k1, k2, k3⟩, hz, q⟩ := h
    refine ⟨_, pss_cons (ps_if (PW.pt (pw_or (pt_not (pt_val (pe_callB call_isi (by rfl) T.isi (by decide +kernel) (pa_cons (pv 0) (pa_cons (pe_bltn (v := .ty "str") (by rfl) T.str (by decide +kernel) rfl) pa_nil)))))
        (pw_or (pt_not (pt_chain op_le op_le pe_int (pe_callB call_len_str (by rfl) T.len PySem.boot_len (pa_cons (pv 0) pa_nil)) pe_int)) (pw_or1 (pt_cmpR op_eq (pv 0) pe_str (nomark _)))))) (pss_one (ps_ret pe_bl)) pss_nil)
      (pss_one (ps_ret (pe_callB (cr_all rfl) (by rfl) T.all (by decide +kernel) (pa_cons (pe_lc (own := [("letter", 1)]) (g := gName 1) (tt := tYes) (te := tChain (fun x y H Q => ∃ i j, x = .str i ∧ y = .str j ∧ Q (.bl (!decide (j.cps.toList < i.cps.toList))) H) (fun x y H Q => ∃ i j, x = .str i ∧ y = .str j ∧ Q (.bl (!decide (j.cps.toList < i.cps.toList))) H) (tC (.str "a")) (tVar 1) (tC (.str "z")))
        rfl scName.nd (pi_str (pv 0)) (blkOk_by (N := ["value", "letter"]) (sc := defScope sName) (own := [("letter", 1)]) (by decide +kernel))
        (fun _ _ _ _ _ => pg_name (i := 1) scName.nd rfl (Or.inl rfl)) (fun _ _ _ _ _ => pts_nil) (fun _ _ _ _ _ => pe_chain op_le_str op_le_str pe_str (pv 1) pe_str)) pa_nil)))), ?_⟩
    refine ⟨_, rfl, v, .ty "str", t, _, _, rfl, ClsV.ty "str", ty, k3, _, rfl, ?_⟩
    cases e : vStr v with
    | false =>
      refine iteT ?_
      have := q H (Same.refl _)
      unfold nameV at this
      rw [strV_no e] at this
      exact this
    | true =>
      obtain ⟨z, rfl⟩ := str_of e
      refine iteF ?_
      have hl := hz z rfl
      have key : ∀ b, nameS z = b → ∀ H2, Same H H2 → Q (.bl b) H2 := fun b e2 H2 s2 => by
        have := q H2 s2
        show Q (.bl b) H2
        rw [← e2]
        exact this
      refine ⟨_, rfl, z, rfl, Nat.le_trans hl (by decide), _, _, rfl, rfl, _, rfl, ?_⟩
      have hlen : z.cps.toList.length = z.cps.size := Array.length_toList
      have last : (1 ≤ z.length) → (z.length ≤ 8) → z ≠ "self" → Q (.bl (z.cps.toList.all loB)) = Q (.bl (nameS z)) := fun h1 h2 h3 => by
        congr 2
        unfold nameS
        rw [decide_eq_true h1, decide_eq_true h2, decide_eq_false h3]
        rfl
      refine ite2 (fun c1 => ?_) (fun c1 => ?_)
      · have g1 : 1 ≤ z.length := by
          have y : (1 : Int) ≤ ((z.length : Nat) : Int) := by simpa using c1
          omega
        refine ⟨_, _, rfl, rfl, _, rfl, ?_⟩
        refine ite2 (fun c2 => ?_) (fun c2 => ?_)
        · refine key false ?_ H (Same.refl _)
          have : ¬ z.length ≤ 8 := by
            intro y
            have y2 : ((z.length : Nat) : Int) ≤ 8 := by omega
            simp [y2] at c2
          simp [nameS, this]
        · have g2 : z.length ≤ 8 := by
            have y : ((z.length : Nat) : Int) ≤ 8 := by simpa using c2
            omega
          refine ⟨_, rfl, rfl, _, rfl, ?_⟩
          refine ite2 (fun c3 => ?_) (fun c3 => ?_)
          · refine key false ?_ H (Same.refl _)
            have : z = "self" := by simpa using c3
            simp [nameS, this]
          · have g3 : z ≠ "self" := by simpa using c3
            refine ⟨_, rfl, z, rfl, fun D hD => lc_it walk_str (fun i H' => Same H H' ∧ H' D = some (.lst (((z.cps.toList.take i).map loB).map V.bl))) ⟨Same.new hD, upd_same⟩ (fun _ _ _ _ => trivial) ?_ ?_⟩
            · rintro i x H' H2 hi ⟨q1, q2⟩ ⟨rfl, c, hc, rfl⟩
              refine ⟨rfl, ?_⟩
              refine yes_if ?_
              have hc2 : z.cps.toList[i]? = some c := by rw [Array.getElem?_toList]; exact hc
              have step : ∀ b, b = loB c → ∃ acc, H2 D = some (.lst acc) ∧ acc.length < sizeLine ∧ (Same H (upd H2 D (.lst (acc ++ [.bl b]))) ∧ upd H2 D (.lst (acc ++ [.bl b])) D = some (.lst (((z.cps.toList.take (i + 1)).map loB).map V.bl))) := by
                rintro b rfl
                refine ⟨_, q2, ?_, fun b o e => ?_, ?_⟩
                · refine Nat.lt_of_le_of_lt (m := 1000) ?_ (by decide)
                  rw [List.length_map, List.length_map, List.length_take]
                  have : i < 8 := Nat.lt_of_lt_of_le hi g2
                  omega
                · rw [upd_ne (ne_of_none e hD)]
                  exact q1 b o e
                · rw [upd_same, take_more hc2, List.map_append, List.map_append]
                  rfl
              refine ⟨_, rfl, _, _, rfl, rfl, _, rfl, ?_⟩
              have e1 : (!decide ((⟨#[c]⟩ : Str).cps.toList < (("a" : Str)).cps.toList)) = decide (97 ≤ c) := le_sign c 97
              have e2 : (!decide ((("z" : Str)).cps.toList < (⟨#[c]⟩ : Str).cps.toList)) = decide (c ≤ 122) := le_sign 122 c
              rw [e1]
              refine ite2 (fun c4 => ?_) (fun c4 => ?_)
              · refine ⟨_, _, rfl, rfl, step _ ?_⟩
                rw [e2]
                simp [loB, c4]
              · refine step _ ?_
                have : decide (97 ≤ c) = false := by simpa using c4
                simp [loB, this]
            · rintro H' ⟨q1, q2⟩
              refine ⟨_, z.cps.toList.map loB, rfl, SqL.of ?_, ?_⟩
              · rw [q2]
                show some (HO.lst (((z.cps.toList.take z.cps.size).map loB).map V.bl)) = _
                rw [← hlen, List.take_length]
              · have e3 : (z.cps.toList.map loB).all id = z.cps.toList.all loB := by
                  rw [List.all_map]
                  rfl
                rw [e3]
                have := last g1 g2 g3
                show Q (V.bl (z.cps.toList.all loB)) H'
                rw [this]
                exact q H' q1
      · have g1 : ¬ 1 ≤ z.length := by
          intro y
          have y2 : (1 : Int) ≤ ((z.length : Nat) : Int) := by omega
          simp [y2] at c1
        exact ⟨_, rfl, key false (by simp [nameS, g1]) H (Same.refl _)⟩
end
end K01
end
section
set_option maxRecDepth 100000
set_option maxHeartbeats 4000000
namespace K01
open PySem PySem.Spec PyProof.Rows L2 Lw
abbrev sIntOf : Stmt := top 7
abbrev sNumOf : Stmt := top 8
def spIntOf (K : PySem.W.Frag) : Sp := fun vs H Q _ => ∃ v, vs = [v] ∧ Knd K H v ∧ (∀ z, v = .str z → z.length ≤ 100000) ∧ ∀ H2, Same H H2 → Q (optV (numV v)) H2
theorem figL_len (l : List Nat) : (figL l).length ≤ l.length := by
  unfold figL
  split
  · rw [List.length_tail]; omega
  · exact Nat.le_refl _
section
variable {P : Program} {w : World} {K : PySem.W.Frag} {mg : Str → Option Value} {base : Heap}
theorem scIntOf : FnScope ["word", "figures", "figure"] ["word"] (defScope sIntOf) := ⟨rfl, rfl, rfl, by decide +kernel, rfl, by decide +kernel, by decide +kernel⟩
theorem ok_intof {f : Addr} {fd : FuncData} (F : Fun K "integer_of" "integer_of" sIntOf f fd) (T : TxtC mg) (mF : ∃ t, mg "FIGURES" = some (.int 1000 t)) (hN : base.NoDigits) : FnOk P w K mg base CX0 1 f fd ["word"] (spIntOf K) := by
  obtain ⟨tf, mF⟩ := mF
  refine F.ok scIntOf (fun vs H Q E h => ?_) (fun cdv A outer s H vs Q E hr h => ?_)
  · obtain ⟨v, rfl, _⟩ := h
    rfl
  · obtain ⟨v, rfl, ⟨t, ty, k1, k2, k3⟩, hz, q⟩ := h
    refine ⟨_, pss_cons (ps_if (pt_not (pt_val (pe_callB call_isi (by rfl) T.isi (by decide +kernel) (pa_cons (pv 0) (pa_cons (pe_bltn (v := .ty "str") (by rfl) T.str (by decide +kernel) rfl) pa_nil))))) (pss_one (ps_ret pe_non)) pss_nil)
      (pss_cons (ps_set (i := 1) scIntOf.nd rfl (Or.inl rfl) (pe_ifExp (pt_val (pe_m1 PySem.F.slot_str_startswith PySem.F.type_str_startswith mt_startswith (pv 0) pe_str)) (pe_slice sl_str (pv 0) (po_some pe_int) po_none) (pv 0)))
      (pss_cons (ps_if (PW.pt (pw_or (pt_not (pt_chain op_le op_le pe_int (pe_callB call_len_str (by rfl) T.len PySem.boot_len (pa_cons (pv 1) pa_nil)) (pe_glob (v := .int 1000) rfl mF ⟨_, rfl⟩)))
          (pw_or1 (pt_not (pt_val (pe_callB (cr_all rfl) (by rfl) T.all (by decide +kernel) (pa_cons (pe_lc (own := [("figure", 2)]) (g := gName 2) (tt := tYes) (te := tChain (fun x y H Q => ∃ i j, x = .str i ∧ y = .str j ∧ Q (.bl (!decide (j.cps.toList < i.cps.toList))) H) (fun x y H Q => ∃ i j, x = .str i ∧ y = .str j ∧ Q (.bl (!decide (j.cps.toList < i.cps.toList))) H) (tC (.str "0")) (tVar 2) (tC (.str "9")))
            rfl scIntOf.nd (pi_str (pv 1)) (blkOk_by (N := ["word", "figures", "figure"]) (sc := defScope sIntOf) (own := [("figure", 2)]) (by decide +kernel))
            (fun _ _ _ _ _ => pg_name (i := 2) scIntOf.nd rfl (Or.inl rfl)) (fun _ _ _ _ _ => pts_nil) (fun _ _ _ _ _ => pe_chain op_le_str op_le_str pe_str (pv 2) pe_str)) pa_nil))))))) (pss_one (ps_ret pe_non)) pss_nil)
      (pss_cons (ps_if (PW.pt (pw_and (pt_val (pe_m1 PySem.F.slot_str_startswith PySem.F.type_str_startswith mt_startswith (pv 1) pe_str)) (pw_and1 (pt_cmpR op_ne (pv 0) pe_str (nomark _))))) (pss_one (ps_ret pe_non)) pss_nil)
      (pss_one (ps_ret (pe_callTy (call_intS hN) (by rfl) T.int (by decide +kernel) (pa_cons (pv 0) pa_nil))))))), ?_⟩
    refine ⟨_, rfl, v, .ty "str", t, _, _, rfl, ClsV.ty "str", ty, k3, _, rfl, ?_⟩
    cases e : vStr v with
    | false =>
      have := q H (Same.refl _)
      unfold numV at this
      rw [strV_no e] at this
      exact this
    | true =>
      obtain ⟨z, rfl⟩ := str_of e
      have hl := hz z rfl
      have hlen : z.cps.toList.length = z.length := Array.length_toList
      have key : ∀ b, numS z = b → ∀ H2, Same H H2 → Q (optV b) H2 := fun b e2 H2 s2 => by
        have := q H2 s2
        show Q (optV b) H2
        rw [← e2]
        exact this
      refine iteF ?_
      refine ⟨_, rfl, ⟨_, rfl⟩, z, _, rfl, rfl, _, rfl, ?_⟩
      have sw : Txt.startswith z "-" = (z.cps.toList.head? == some 45) := starts_one z 45
      rw [sw]
      have e1 : ∀ c : Nat, (!decide ((⟨#[c]⟩ : Str).cps.toList < (("0" : Str)).cps.toList)) = decide (48 ≤ c) := fun c => le_sign c 48
      have e2 : ∀ c : Nat, (!decide ((("9" : Str)).cps.toList < (⟨#[c]⟩ : Str).cps.toList)) = decide (c ≤ 57) := fun c => le_sign 57 c
      have nlen : ¬ 1 ≤ (figL z.cps.toList).length ∨ ¬ (figL z.cps.toList).length ≤ 1000 ∨ (figL z.cps.toList).all digB = false → numS z = none := by
        intro h
        unfold numS
        refine if_neg ?_
        simp only [Bool.and_eq_true, decide_eq_true_eq]
        rintro ⟨h1, h2, h3, _⟩
        rcases h with h | h | h
        · exact h h1
        · exact h h2
        · rw [h] at h3
          cases h3
      refine ite2 (fun c0 => ?_) (fun c0 => ?_)
      focus
        have ef : (cutS z (some 1) none).cps.toList = figL z.cps.toList := (cut_tail z).trans (if_pos c0).symm
        refine ⟨_, rfl, _, rfl, z, rfl, Nat.le_trans hl (by decide), ?_⟩
        revert ef
        generalize cutS z (some 1) none = fg
        intro ef
      rotate_left
      focus
        have ef : z.cps.toList = figL z.cps.toList := (if_neg c0).symm
        refine ⟨_, rfl, ?_⟩
      all_goals
        have el := congrArg List.length ef
        rw [Array.length_toList] at el
        refine ⟨_, rfl, _, rfl, Nat.le_trans (Nat.le_of_eq el) (Nat.le_trans (figL_len _) (by rw [hlen]; exact Nat.le_trans hl (by decide))), _, _, rfl, rfl, _, rfl, ?_⟩
        refine ite2 (fun c1 => ?_) (fun c1 => ?_)
        focus
          have y1 := of_decide_eq_true c1
          have g1 : 1 ≤ (figL z.cps.toList).length := by
            rw [← el]
            exact Int.ofNat_le.mp y1
          refine ⟨_, _, rfl, rfl, _, rfl, ?_⟩
          refine ite2 (fun c2 => ?_) (fun c2 => ?_)
          focus
            refine key none (nlen (.inr (.inl fun y => ?_))) H (Same.refl _)
            rw [← el] at y
            have y2 := decide_eq_true (Int.ofNat_le.mpr y)
            exact absurd (c2.symm.trans (congrArg Bool.not y2)) (by decide)
          have g2 : (figL z.cps.toList).length ≤ 1000 := by
            rw [← el]
            have y : ∀ b : Bool, ¬ (!b) = true → b = true := by decide
            exact Int.ofNat_le.mp (of_decide_eq_true (y _ c2))
          refine ⟨_, rfl, _, rfl, fun D hD => lc_it walk_str (fun i H' => Same H H' ∧ H' D = some (.lst ((((figL z.cps.toList).take i).map digB).map V.bl))) ⟨Same.new hD, upd_same⟩ (fun _ _ _ _ => trivial) ?_ ?_⟩
          focus
            rintro i x H' H2 hi ⟨q1, q2⟩ ⟨rfl, c, hc, rfl⟩
            refine ⟨rfl, ?_⟩
            refine yes_if ?_
            have hc2 : (figL z.cps.toList)[i]? = some c := by
              rw [← ef, Array.getElem?_toList]
              exact hc
            rw [el] at hi
            have step : ∀ b, b = digB c → ∃ acc, H2 D = some (.lst acc) ∧ acc.length < sizeLine ∧ (Same H (upd H2 D (.lst (acc ++ [.bl b]))) ∧ upd H2 D (.lst (acc ++ [.bl b])) D = some (.lst ((((figL z.cps.toList).take (i + 1)).map digB).map V.bl))) := by
              rintro b rfl
              refine ⟨_, q2, ?_, fun b o e => ?_, ?_⟩
              · refine Nat.lt_of_le_of_lt (m := 1000) ?_ (by decide)
                rw [List.length_map, List.length_map, List.length_take]
                omega
              · rw [upd_ne (ne_of_none e hD)]
                exact q1 b o e
              · rw [upd_same, take_more hc2, List.map_append, List.map_append]
                rfl
            refine ⟨_, rfl, _, _, rfl, rfl, _, rfl, ?_⟩
            rw [e1 c]
            refine ite2 (fun c4 => ?_) (fun c4 => ?_)
            focus
              refine ⟨_, _, rfl, rfl, step _ ?_⟩
              rw [e2 c]
              simp [digB, c4]
            refine step _ ?_
            have : decide (48 ≤ c) = false := by simpa using c4
            simp [digB, this]
          rintro H' ⟨q1, q2⟩
          refine ⟨_, (figL z.cps.toList).map digB, rfl, SqL.of ?_, ?_⟩
          focus
            rw [q2, el, List.take_length]
          have e3 : ((figL z.cps.toList).map digB).all id = (figL z.cps.toList).all digB := by
            rw [List.all_map]
            rfl
          rw [e3]
          refine ⟨_, rfl, ?_⟩
          refine ite2 (fun c3 => ?_) (fun c3 => ?_)
          focus exact key none (nlen (.inr (.inr (by simpa using c3)))) H' q1
          have g3 : (figL z.cps.toList).all digB = true := by simpa using c3
          obtain ⟨n, hn, hd, hb⟩ := intText_is g1 g2 g3
          have sw0 : ∀ x : Str, Txt.startswith x "0" = (x.cps.toList.head? == some 48) := fun x => starts_one x 48
          refine ⟨_, rfl, ⟨_, rfl⟩, _, _, rfl, rfl, _, rfl, ?_⟩
          rw [sw0, ef]
          refine ite2 (fun c4 => ?_) (fun c4 => ?_)
          focus
            refine ⟨_, rfl, rfl, _, rfl, ?_⟩
            refine ite2 (fun c5 => ?_) (fun c5 => ?_)
            focus
              refine key none ?_ H' q1
              have y : z ≠ "0" := by simpa using c5
              unfold numS
              refine if_neg ?_
              rw [c4, decide_eq_false y]
              simp
            have y : z = "0" := by simpa using c5
            refine ⟨_, rfl, z, n, rfl, hd, hn, hb, ?_⟩
            have f0 : numS z = some n := by
              unfold numS
              rw [g3, decide_eq_true g1, decide_eq_true g2, c4, decide_eq_true y]
              exact hn
            exact key (some n) f0 H' q1
          refine ⟨_, rfl, z, n, rfl, hd, hn, hb, ?_⟩
          have f0 : numS z = some n := by
            have y : ((figL z.cps.toList).head? == some 48) = false := by simpa using c4
            unfold numS
            rw [g3, decide_eq_true g1, decide_eq_true g2, y]
            exact hn
          exact key (some n) f0 H' q1
        refine ⟨_, rfl, key none (nlen (.inl fun y => c1 ?_)) H (Same.refl _)⟩
        rw [← el] at y
        exact decide_eq_true (Int.ofNat_le.mpr y)
end
end K01
end
section
set_option maxRecDepth 100000
set_option maxHeartbeats 4000000
namespace K01
open PySem PySem.Spec PyProof.Rows L2 Lw
def numIn (v : V) (lo hi : Int) : Option Int := match numV v with
  | some i => if lo ≤ i ∧ i ≤ hi then some i else none
  | none => none
def spNumOf (K : PySem.W.Frag) : Sp := fun vs H Q _ => ∃ v lo hi, vs = [v, .int lo, .int hi] ∧ Knd K H v ∧ (∀ z, v = .str z → z.length ≤ 100000) ∧ ∀ H2, Same H H2 → Q (optV (numIn v lo hi)) H2
section
variable {P : Program} {w : World} {K : PySem.W.Frag} {mg : Str → Option Value} {base : Heap}
theorem scNumOf : FnScope ["word", "least", "most", "number"] ["word", "least", "most"] (defScope sNumOf) := ⟨rfl, rfl, rfl, by decide +kernel, rfl, by decide +kernel, by decide +kernel⟩
theorem ok_numof {f g : Addr} {fd gd : FuncData} (F : Fun K "number_of" "number_of" sNumOf f fd) (GI : FnOk P w K mg base CX0 1 g gd ["word"] (spIntOf K)) (mI : mg "integer_of" = some (.ref g)) (kI : PySem.W.keepIn K (.ref g) = true) (bI : Binds K gd ["word"] []) :
    FnOk P w K mg base CX0 2 f fd ["word", "least", "most"] (spNumOf K) := by
  refine F.ok scNumOf (fun vs H Q E h => ?_) (fun cdv A outer s H vs Q E hr h => ?_)
  · obtain ⟨v, lo, hi, rfl, _⟩ := h
    rfl
  · obtain ⟨v, lo, hi, rfl, kn, hz, q⟩ := h
    refine ⟨_, pss_cons (ps_set (i := 3) scNumOf.nd rfl (Or.inl rfl) (pe_call GI hr rfl mI kI bI .nil pass0 (pa_cons (pv 0) pa_nil)))
      (pss_cons (ps_if (PW.pt (pw_or (pt_cmpR op_isN (pv 3) pe_non (nomark _)) (pw_or1 (pt_not (pt_chain op_le op_le (pv 1) (pv 3) (pv 2)))))) (pss_one (ps_ret pe_non)) pss_nil)
      (pss_one (ps_ret (pv 3)))), ?_⟩
    refine ⟨_, rfl, v, rfl, kn, hz, fun H2 s2 => ?_⟩
    have key : ∀ b, numIn v lo hi = b → Q (optV b) H2 := fun b e => by
      rw [← e]
      exact q H2 s2
    cases e : numV v with
    | none =>
      refine ⟨_, rfl, rfl, _, rfl, ?_⟩
      exact key none (by unfold numIn; rw [e])
    | some i =>
      refine ⟨_, rfl, rfl, _, rfl, ?_⟩
      refine iteF ?_
      refine ⟨_, rfl, _, rfl, _, _, rfl, rfl, _, rfl, ?_⟩
      refine ite2 (fun c => ?_) (fun c => ?_)
      · have c' := of_decide_eq_true c
        refine ⟨_, rfl, _, _, rfl, rfl, _, rfl, ?_⟩
        refine ite2 (fun d => ?_) (fun d => ?_)
        · refine key none ?_
          unfold numIn
          rw [e]
          refine if_neg fun y => ?_
          have := decide_eq_true y.2
          rw [this] at d
          exact absurd d (by decide)
        · have y : ∀ b : Bool, ¬ (!b) = true → b = true := by decide
          have d' := of_decide_eq_true (y _ d)
          exact ⟨_, rfl, key (some i) (by unfold numIn; rw [e]; exact if_pos ⟨c', d'⟩)⟩
      · refine ⟨_, rfl, key none ?_⟩
        unfold numIn
        rw [e]
        exact if_neg fun y => c (decide_eq_true y.1)
end
end K01
end
section
set_option maxRecDepth 100000
set_option maxHeartbeats 4000000
namespace K01
open PySem PySem.Spec PyProof.Rows L2 Lw
abbrev sPlain : Stmt := top 24
abbrev sRight : Stmt := top 26
/-- a def that is called by its name -/
structure Cal (P : Program) (w : World) (K : PySem.W.Frag) (mg : Str → Option Value) (base : Heap) (nm : Str) (k : Nat) (ps : List Str) (sp : Sp) (f : Addr) (fd : FuncData) : Prop where
  ok : FnOk P w K mg base CX0 k f fd ps sp
  gl : mg nm = some (.ref f)
  kp : PySem.W.keepIn K (.ref f) = true
  bi : Binds K fd ps []
section
variable {P : Program} {w : World} {K : PySem.W.Frag} {mg : Str → Option Value} {base : Heap}
theorem scPlain : FnScope ["_law_thing_here"] ["_law_thing_here"] (defScope sPlain) := ⟨rfl, rfl, rfl, by decide +kernel, rfl, by decide +kernel, by decide +kernel⟩
theorem ok_plain {f : Addr} {fd : FuncData} (F : Fun K "_law_is_plain" "_law_is_plain" sPlain f fd) (T : TxtC mg) : FnOk P w K mg base CX0 1 f fd ["_law_thing_here"] (spIsInt K) := by
  refine F.ok scPlain (fun vs H Q E h => ?_) (fun cdv A outer s H vs Q E hr h => ?_)
  · obtain ⟨v, rfl, _⟩ := h
    rfl
  · obtain ⟨v, rfl, ⟨t, ty, k1, k2, k3⟩, q⟩ := h
    refine ⟨_, pss_one (ps_ret (pe_and (pe_callB call_isi (by rfl) T.isi (by decide +kernel) (pa_cons (pv 0) (pa_cons (pe_bltn (v := .ty "int") (by rfl) T.int (by decide +kernel) rfl) pa_nil)))
      (pe_one (pe_not (pe_callB call_isi (by rfl) T.isi (by decide +kernel) (pa_cons (pv 0) (pa_cons (pe_bltn (v := .ty "bool") (by rfl) T.bool (by decide +kernel) rfl) pa_nil))))))), ?_⟩
    refine ⟨_, rfl, v, .ty "int", t, _, _, rfl, ClsV.ty "int", ty, k1, _, rfl, ?_⟩
    refine ite2 (fun c => ?_) (fun c => ?_)
    · refine ⟨_, rfl, v, .ty "bool", t, _, _, rfl, ClsV.ty "bool", ty, k2, _, rfl, ?_⟩
      cases e : vBl v with
      | true =>
        rw [intV_no (.inr e)] at q
        exact q
      | false =>
        obtain ⟨i, rfl⟩ := intV_of c e
        exact q
    · have c2 : vIntB v = false := by simpa using c
      rw [intV_no (.inl c2)] at q
      exact q
theorem scRight : FnScope ["_law_thing_here", "_law_low", "_law_high", "_law_told_so", "_law_is_plain_here"] ["_law_thing_here", "_law_low", "_law_high"] (defScope sRight) := ⟨rfl, rfl, rfl, by decide +kernel, rfl, by decide +kernel, by decide +kernel⟩
def spRight (K : PySem.W.Frag) : Sp := fun vs H Q _ => ∃ v lo hi, vs = [v, .int lo, .int hi] ∧ Knd K H v ∧ (∀ H2, Same H H2 → Knd K H2 v) ∧ ∀ H2, Same H H2 → Q (.bl true) H2
variable {f1 f2 f3 f4 : Addr} {g1 g2 g3 g4 : FuncData}
theorem ok_right {f : Addr} {fd : FuncData} (F : Fun K "_law_right" "_law_right" sRight f fd) (mR : mg "repr" = none) (hS : ∃ m, base.Ns sysModules m)
    (c1 : Cal P w K mg base "is_integer" 1 ["value"] (spIsInt K) f1 g1) (c2 : Cal P w K mg base "is_within" 2 ["value", "least", "most"] (spWithin K) f2 g2) (c3 : Cal P w K mg base "is_amount" 2 ["value"] (spAmount K) f3 g3)
    (c4 : Cal P w K mg base "_law_is_plain" 1 ["_law_thing_here"] (spIsInt K) f4 g4) : FnG P w K mg base CX0 3 f fd ["_law_thing_here", "_law_low", "_law_high"] (spRight K) := by
  refine okG F scRight (fun vs H Q E h => ?_) (fun cdv A outer s H vs Q E hG hr h => ?_)
  · obtain ⟨v, lo, hi, rfl, _⟩ := h
    rfl
  · obtain ⟨v, lo, hi, rfl, kn, kk, q⟩ := h
    have hr1 : Room 1 _ := hr.mono (by decide)
    refine ⟨_, pss_cons (ps_set (i := 3) scRight.nd rfl (Or.inl rfl) (pe_lstS (pa_cons (pe_call c1.ok hr1 rfl c1.gl c1.kp c1.bi .nil pass0 (pa_cons (pv 0) pa_nil)) (pa_cons (pe_call c2.ok hr rfl c2.gl c2.kp c2.bi .nil pass0 (pa_cons (pv 0) (pa_cons (pv 1) (pa_cons (pv 2) pa_nil)))) (pa_cons (pe_call c3.ok hr rfl c3.gl c3.kp c3.bi .nil pass0 (pa_cons (pv 0) pa_nil)) pa_nil)))))
      (pss_cons (ps_set (i := 4) scRight.nd rfl (Or.inl rfl) (pe_call c4.ok hr1 rfl c4.gl c4.kp c4.bi .nil pass0 (pa_cons (pv 0) pa_nil)))
      (pss_one (ps_ret (pe_cmpR op_eq (pe_callB (call_repr hG hr.units hS) (by rfl) mR (by decide +kernel) (pa_cons (pv 3) pa_nil))
        (pe_callB (call_repr hG hr.units hS) (by rfl) mR (by decide +kernel) (pa_cons (pe_lstS (pa_cons (pv 4) (pa_cons (pe_and (pv 4) (pe_one (pe_chain op_le op_le (pv 1) (pv 0) (pv 2)))) (pa_cons (pe_and (pv 4) (pe_one (pe_cmpR op_ge (pv 0) pe_int (nomark _)))) pa_nil)))) pa_nil)) (nomark _))))), ?_⟩
    refine ⟨_, rfl, v, rfl, kn, _, rfl, _, rfl, _, rfl, v, lo, hi, rfl, kn, _, rfl, v, rfl, kn, sz (by simp), fun l H2 n2 s2 g2 => ?_⟩
    have kn2 := kk H2 s2
    refine ⟨_, rfl, v, rfl, kn2, ?_⟩
    cases e : intV v with
    | none =>
      have e1 : withinV v lo hi = false := by unfold withinV; rw [e]
      have e2 : amountV v = false := by unfold amountV; rw [e]
      rw [e, e1, e2] at g2
      refine ⟨_, rfl, .ref l, .list [.bool false, .bool false, .bool false], rfl, .lst g2 (.cons (.bl _) (.cons (.bl _) (.cons (.bl _) .nil))), rfl, by decide, three_ok _ _ _, ?_⟩
      refine ⟨_, rfl, _, rfl, _, rfl, iteF ⟨_, rfl, _, rfl, iteF ⟨sz (by simp), fun m H3 n3 s3 g3 => ?_⟩⟩⟩
      refine ⟨.ref m, .list [.bool false, .bool false, .bool false], rfl, .lst g3 (.cons (.bl _) (.cons (.bl _) (.cons (.bl _) .nil))), rfl, by decide, three_ok _ _ _, rfl, ?_⟩
      exact q H3 (s2.trans s3)
    | some i =>
      obtain rfl : v = .int i := by
        cases v <;> simp_all [intV]
      have e1 : withinV (.int i) lo hi = (decide (lo ≤ i) && decide (i ≤ hi)) := rfl
      have e2 : amountV (.int i) = decide (0 ≤ i) := rfl
      have e3 : (intV (.int i)).isSome = true := rfl
      rw [e1, e2, e3] at g2
      refine ⟨_, rfl, .ref l, .list [.bool true, .bool (decide (lo ≤ i) && decide (i ≤ hi)), .bool (decide (0 ≤ i))], rfl, .lst g2 (.cons (.bl _) (.cons (.bl _) (.cons (.bl _) .nil))), rfl, ?_, three_ok _ _ _, ?_⟩
      · show 1 ≤ 60
        decide
      refine ⟨_, rfl, _, rfl, _, rfl, iteT ⟨_, rfl, _, rfl, _, _, rfl, rfl, _, rfl, ?_⟩⟩
      have last : ∀ b, b = (decide (lo ≤ i) && decide (i ≤ hi)) → ∀ m H3, H3 m = some (.lst [.bl true, .bl b, .bl (decide (0 ≤ i))]) → Da K H3 (.ref m) (.list [.bool true, .bool (decide (lo ≤ i) && decide (i ≤ hi)), .bool (decide (0 ≤ i))]) := by
        rintro b rfl m H3 g3
        exact .lst g3 (.cons (.bl _) (.cons (.bl _) (.cons (.bl _) .nil)))
      refine ite2 (fun c => ?_) (fun c => ?_)
      · refine ⟨_, rfl, _, _, rfl, rfl, _, rfl, _, rfl, iteT ⟨_, rfl, _, _, rfl, rfl, sz (by simp), fun m H3 n3 s3 g3 => ?_⟩⟩
        refine ⟨.ref m, _, rfl, last _ (by rw [c]; rfl) m H3 g3, rfl, ?_, three_ok _ _ _, rfl, ?_⟩
        · show 1 ≤ 60
          decide
        have z := q H3 (s2.trans s3)
        rw [← decide_eq_true (rfl : V.str (PyData.list [PyData.bool true, PyData.bool (decide (lo ≤ i) && decide (i ≤ hi)), PyData.bool (decide (0 ≤ i))]).shown = _)] at z
        exact z
      · have c' : decide (lo ≤ i) = false := by simpa using c
        refine ⟨_, rfl, _, rfl, iteT ⟨_, rfl, _, _, rfl, rfl, sz (by simp), fun m H3 n3 s3 g3 => ?_⟩⟩
        refine ⟨.ref m, _, rfl, last _ (by rw [c']; rfl) m H3 g3, rfl, ?_, three_ok _ _ _, rfl, ?_⟩
        · show 1 ≤ 60
          decide
        have z := q H3 (s2.trans s3)
        rw [← decide_eq_true (rfl : V.str (PyData.list [PyData.bool true, PyData.bool (decide (lo ≤ i) && decide (i ≤ hi)), PyData.bool (decide (0 ≤ i))]).shown = _)] at z
        exact z
end
end K01
end
section
set_option maxRecDepth 100000
set_option maxHeartbeats 4000000
namespace Lw
open PySem PySem.Spec PyProof.Rows L2
def sgV (c : Nat) : V := .str ⟨#[c]⟩
def sgD (c : Nat) : PyData := .str ⟨#[c]⟩
theorem dp_signs {K : PySem.W.Frag} {H : Hp} : ∀ cs : List Nat, DpAll K H (cs.map sgV) (cs.map sgD)
  | [] => .nil
  | c :: t => .cons (.str _) (dp_signs t)
theorem eqv_signs (cs : List Nat) : PyData.eqv (.list (cs.map sgD)) (.list []) = cs.isEmpty := by
  cases cs with
  | nil => rfl
  | cons c r => rfl
theorem lay_signs : ∀ cs : List Nat, (∀ c ∈ cs, c < 1114112) → PyData.canLayAll0 (cs.map sgD) = true
  | [], _ => rfl
  | c :: t, h => by
    have hc := h c List.mem_cons_self
    simp [PyData.canLayAll0, PyData.canLay0, sgD, PyData.strOk]
    exact ⟨hc, lay_signs t fun d hd => h d (List.mem_cons_of_mem _ hd)⟩
theorem depth_signs : ∀ cs : List Nat, PyData.depthAll (cs.map sgD) = 0
  | [] => rfl
  | c :: t => by
    show max (PyData.depth (sgD c)) (PyData.depthAll (t.map sgD)) = 0
    rw [depth_signs t]
    rfl
theorem shaped_signs (cs : List Nat) (h : ∀ c ∈ cs, c < 1114112) : SeqAt.shaped (.list (cs.map sgD)) = true := by
  simp [SeqAt.shaped, PyData.canLay0, PyData.depth, lay_signs cs h, depth_signs]
theorem digB_in (c : Nat) : decide (c ∈ ("0123456789" : Str).cps.toList) = digB c := by
  show decide (c ∈ [48, 49, 50, 51, 52, 53, 54, 55, 56, 57]) = (decide (48 ≤ c) && decide (c ≤ 57))
  rw [← Bool.decide_and]
  apply decide_eq_decide.mpr
  simp only [List.mem_cons, List.not_mem_nil, or_false]
  omega
theorem cut_head (z : Str) : (cutS z none (some 1)).cps.toList = z.cps.toList.take 1 := by
  unfold cutS
  show ((z.cps.toList.drop (HT.sIx z.length 0 none)).take (HT.sIx z.length z.length (some 1) - HT.sIx z.length 0 none)) = _
  have hl : z.cps.toList.length = z.length := Array.length_toList
  have e1 : HT.sIx z.length 0 none = 0 := rfl
  have e2 : HT.sIx z.length z.length (some 1) = min 1 z.length := HT.sIx_nat z.length z.length 1
  rw [e1, e2]
  generalize z.cps.toList = l at *
  cases l with
  | nil => simp
  | cons a l =>
    simp only [List.length_cons] at hl
    have : min 1 z.length = 1 := by omega
    rw [this]
    rfl
theorem head_is (z : Str) : decide (V.str (cutS z none (some 1)) = V.str "-") = (z.cps.toList.head? == some 45) := by
  have h := cut_head z
  have e : (V.str (cutS z none (some 1)) = V.str "-") ↔ z.cps.toList.take 1 = [45] := by
    rw [← h]
    constructor
    · intro y
      injection y with y
      rw [y]
      rfl
    · intro y
      exact congrArg V.str (TL.ext_tl y)
  cases q : z.cps.toList with
  | nil =>
    rw [q] at e
    have : ¬ (V.str (cutS z none (some 1)) = V.str "-") := fun y => by
      have := e.mp y
      cases this
    rw [decide_eq_false this]
    rfl
  | cons a l =>
    rw [q] at e
    by_cases r : a = 45
    · rw [decide_eq_true (e.mpr (by rw [r]; rfl)), r]
      rfl
    · have : ¬ (V.str (cutS z none (some 1)) = V.str "-") := fun y => by
        have := e.mp y
        injection this with this
        exact r this
      rw [decide_eq_false this]
      simp [r]
theorem empty_is {z : Str} : decide (V.str z = V.str "") = decide (z.cps.toList = []) := by
  apply decide_eq_decide.mpr
  constructor
  · intro y
    injection y with y
    rw [y]
    rfl
  · intro y
    exact congrArg V.str (TL.ext_tl y)
def rNis : R2 := fun x y H Q => ∃ (c : Nat) (z : Str), x = .str ⟨#[c]⟩ ∧ y = .str z ∧ Q (.bl (!decide (c ∈ z.cps.toList))) H
end Lw
namespace K01
open PySem PySem.Spec PyProof.Rows L2 Lw
abbrev sWritten : Stmt := top 25
def spWritten : Sp := fun vs H Q _ => ∃ z, vs = [.str z] ∧ z.length ≤ 500 ∧ (∀ c ∈ z.cps.toList, c < 1114112) ∧ ∀ H2, Same H H2 → Q (optV (numS z)) H2
theorem figL_sub (l : List Nat) : ∀ c ∈ figL l, c ∈ l := by
  intro c hc
  unfold figL at hc
  split at hc
  · exact List.mem_of_mem_tail hc
  · exact hc
section
variable {P : Program} {w : World} {K : PySem.W.Frag} {mg : Str → Option Value} {base : Heap}
theorem scWritten : FnScope ["_law_page", "_law_plain", "_law_sign"] ["_law_page"] (defScope sWritten) := ⟨rfl, rfl, rfl, by decide +kernel, rfl, by decide +kernel, by decide +kernel⟩
theorem ok_written {f : Addr} {fd : FuncData} (F : Fun K "_law_written" "_law_written" sWritten f fd) (T : TxtC mg) (hN : base.NoDigits) : FnOk P w K mg base CX0 1 f fd ["_law_page"] spWritten := by
  refine F.ok scWritten (fun vs H Q E h => ?_) (fun cdv A outer s H vs Q E hr h => ?_)
  · obtain ⟨z, rfl, _⟩ := h
    rfl
  · obtain ⟨z, rfl, hl, hu, q⟩ := h
    refine ⟨_, pss_cons (ps_set (i := 1) scWritten.nd rfl (Or.inl rfl) (pe_ifExp (pt_cmpR op_eq (pe_slice sl_str (pv 0) po_none (po_some pe_int)) pe_str (nomark _)) (pe_slice sl_str (pv 0) (po_some pe_int) po_none) (pv 0)))
      (pss_cons (ps_if (PW.pt (pw_or (pt_cmpR op_eq (pv 1) pe_str (nomark _)) (pw_or1 (pt_cmpR (op_neD hr.units) (pe_lc (own := [("_law_sign", 2)]) (g := gName 2) (tt := tTest (tOp rNis (tVar 2) (tC (.str "0123456789")))) (te := tVar 2)
            rfl scWritten.nd (pi_str (pv 1)) (blkOk_by (N := ["_law_page", "_law_plain", "_law_sign"]) (sc := defScope sWritten) (own := [("_law_sign", 2)]) (by decide +kernel))
            (fun _ _ _ _ _ => pg_name (i := 2) scWritten.nd rfl (Or.inl rfl)) (fun _ _ _ _ _ => pts_one (pt_cmpR op_notIn_sign (pv 2) pe_str rfl)) (fun _ _ _ _ _ => pv 2)) (pe_lstS pa_nil) (nomark _))))) (pss_one (ps_ret pe_non)) pss_nil)
      (pss_one (ps_ret (pe_ifExp (pt_cmpR op_eq (pe_callTy call_str_int (by rfl) T.str (by decide +kernel) (pa_cons (pe_callTy (call_intS hN) (by rfl) T.int (by decide +kernel) (pa_cons (pv 0) pa_nil)) pa_nil)) (pv 0) (nomark _))
        (pe_callTy (call_intS hN) (by rfl) T.int (by decide +kernel) (pa_cons (pv 0) pa_nil)) pe_non)))), ?_⟩
    have hlen : z.cps.toList.length = z.length := Array.length_toList
    have key : ∀ b, numS z = b → ∀ H2, Same H H2 → Q (optV b) H2 := fun b e2 H2 s2 => by
      rw [← e2]
      exact q H2 s2
    have nlen : ¬ 1 ≤ (figL z.cps.toList).length ∨ (figL z.cps.toList).all digB = false → numS z = none := by
      intro h
      unfold numS
      refine if_neg ?_
      simp only [Bool.and_eq_true, decide_eq_true_eq]
      rintro ⟨h1, h2, h3, _⟩
      rcases h with h | h
      · exact h h1
      · rw [h] at h3
        cases h3
    have fl : (figL z.cps.toList).length ≤ 500 := Nat.le_trans (figL_len _) (by rw [hlen]; exact hl)
    refine ⟨_, rfl, _, rfl, z, rfl, Nat.le_trans hl (by decide), rfl, _, rfl, ?_⟩
    rw [head_is]
    refine ite2 (fun c0 => ?_) (fun c0 => ?_)
    focus
      have ef : (cutS z (some 1) none).cps.toList = figL z.cps.toList := (cut_tail z).trans (if_pos c0).symm
      refine ⟨_, rfl, _, rfl, z, rfl, Nat.le_trans hl (by decide), ?_⟩
      revert ef
      generalize cutS z (some 1) none = fg
      intro ef
    rotate_left
    focus
      have ef : z.cps.toList = figL z.cps.toList := (if_neg c0).symm
      refine ⟨_, rfl, ?_⟩
    all_goals
      have el := congrArg List.length ef
      rw [Array.length_toList] at el
      refine ⟨_, rfl, rfl, _, rfl, ?_⟩
      rw [empty_is, ef]
      refine ite2 (fun c1 => ?_) (fun c1 => ?_)
      focus
        refine key none (nlen (.inl fun y => ?_)) H (Same.refl _)
        rw [of_decide_eq_true c1] at y
        exact absurd y (by decide)
      have g0 : figL z.cps.toList ≠ [] := by simpa using c1
      have g1 : 1 ≤ (figL z.cps.toList).length := List.length_pos_iff.mpr g0
      have bad : ∀ i, ∀ c ∈ ((figL z.cps.toList).take i).filter (fun c => !digB c), c < 1114112 := fun i c hc => hu c (figL_sub _ c (List.mem_of_mem_take (List.mem_filter.mp hc).1))
      refine ⟨_, rfl, _, rfl, fun D hD => lc_it walk_str (fun i H' => Same H H' ∧ H' D = some (.lst ((((figL z.cps.toList).take i).filter (fun c => !digB c)).map sgV))) ⟨Same.new hD, upd_same⟩ (fun _ _ _ _ => trivial) ?_ ?_⟩
      focus
        rintro i x H' H2 hi ⟨q1, q2⟩ ⟨rfl, c, hc, rfl⟩
        refine ⟨rfl, ?_⟩
        have hc2 : (figL z.cps.toList)[i]? = some c := by
          rw [← ef, Array.getElem?_toList]
          exact hc
        rw [el] at hi
        refine ⟨_, rfl, c, _, rfl, rfl, _, rfl, ?_⟩
        rw [digB_in]
        have tk : ((figL z.cps.toList).take (i + 1)).filter (fun c => !digB c) = ((figL z.cps.toList).take i).filter (fun c => !digB c) ++ (if (!digB c) = true then [c] else []) := by
          rw [take_more hc2, List.filter_append]
          congr 1
          by_cases r : (!digB c) = true
          · rw [if_pos r]
            simp only [List.filter_cons, List.filter_nil, if_pos r]
          · rw [if_neg r]
            simp only [List.filter_cons, List.filter_nil, if_neg r]
        refine ite2 (fun c4 => ?_) (fun c4 => ?_)
        focus
          refine ⟨_, rfl, _, q2, ?_, fun b o e => ?_, ?_⟩
          · refine Nat.lt_of_le_of_lt (m := 1000) ?_ (by decide)
            rw [List.length_map]
            have y := List.length_filter_le (fun c => !digB c) ((figL z.cps.toList).take i)
            have y2 : ((figL z.cps.toList).take i).length ≤ (figL z.cps.toList).length := by
              rw [List.length_take]
              omega
            omega
          · rw [upd_ne (ne_of_none e hD)]
            exact q1 b o e
          · rw [upd_same, tk, if_pos c4, List.map_append]
            rfl
        refine ⟨q1, ?_⟩
        rw [tk, if_neg c4, List.append_nil]
        exact q2
      rintro H' ⟨q1, q2⟩
      rw [el, List.take_length] at q2
      refine ⟨sz (by simp), fun l H2 n2 s2 g2 => ?_⟩
      have bad' : ∀ c ∈ (figL z.cps.toList).filter (fun c => !digB c), c < 1114112 := fun c hc => hu c (figL_sub _ c (List.mem_filter.mp hc).1)
      refine ⟨_, .list [], .lst (SqL.of (s2 _ _ q2)) (dp_signs _), .lst (SqL.of g2) .nil, shaped_signs _ bad', rfl, _, rfl, ?_⟩
      rw [eqv_signs]
      have fe : ((figL z.cps.toList).filter (fun c => !digB c)).isEmpty = (figL z.cps.toList).all digB := by
        generalize figL z.cps.toList = l
        induction l with
        | nil => rfl
        | cons a t ih =>
          by_cases r : digB a = true
          · simp [List.filter_cons, r, ih]
          · simp [List.filter_cons, r]
      rw [fe]
      refine ite2 (fun c3 => ?_) (fun c3 => ?_)
      focus exact key none (nlen (.inr (by simpa using c3))) H2 (q1.trans s2)
      have g3 : (figL z.cps.toList).all digB = true := by simpa using c3
      have sAll := q1.trans s2
      obtain ⟨n, hn, hd, hb⟩ := intText_is g1 (Nat.le_trans fl (by decide)) g3
      obtain ⟨cn, ab⟩ := canon g1 hb g3 hn
      have lg : n.natAbs.log2 < 1920 := by
        by_cases n0 : n.natAbs = 0
        · rw [n0]
          decide
        · refine (Nat.log2_lt n0).mpr ?_
          have p := Nat.pow_le_pow_right (n := 10) (by decide) hl
          exact Nat.lt_of_lt_of_le ab (Nat.le_trans p (by decide +kernel))
      refine ⟨_, rfl, z, n, rfl, hd, hn, hb, n, rfl, lg, _, rfl, rfl, _, rfl, ?_⟩
      refine ite2 (fun c5 => ?_) (fun c5 => ?_)
      focus
        have y := cn.mp (by
          have := of_decide_eq_true c5
          injection this)
        have f0 : numS z = some n := by
          unfold numS
          have y2 : ((figL z.cps.toList).head? == some 48 && !decide (z = "0")) = false := by
            by_cases r : ((figL z.cps.toList).head? == some 48) = true
            · have r2 : z = "0" := Classical.byContradiction fun r2 => y ⟨r, r2⟩
              rw [decide_eq_true r2]
              simp
            · have r3 : ((figL z.cps.toList).head? == some 48) = false := by simpa using r
              rw [r3]
              rfl
          rw [g3, decide_eq_true g1, decide_eq_true (Nat.le_trans fl (by decide : (500 : Nat) ≤ 1000)), y2]
          exact hn
        exact ⟨_, rfl, z, n, rfl, hd, hn, hb, key (some n) f0 H2 sAll⟩
      refine key none ?_ H2 sAll
      unfold numS
      refine if_neg fun y => ?_
      simp only [Bool.and_eq_true, decide_eq_true_eq] at y
      refine c5 (decide_eq_true (congrArg V.str (cn.mpr ?_)))
      rintro ⟨r1, r2⟩
      rw [r1, decide_eq_false r2] at y
      exact absurd y.2.2.2 (by decide)
end
end K01
end
section
set_option maxRecDepth 100000
set_option maxHeartbeats 4000000
namespace Lw
open PySem PySem.Spec PyProof.Rows L2
theorem loB_in (c : Nat) : decide (c ∈ ("abcdefghijklmnopqrstuvwxyz" : Str).cps.toList) = loB c := by
  show decide (c ∈ [97, 98, 99, 100, 101, 102, 103, 104, 105, 106, 107, 108, 109, 110, 111, 112, 113, 114, 115, 116, 117, 118, 119, 120, 121, 122]) = (decide (97 ≤ c) && decide (c ≤ 122))
  rw [← Bool.decide_and]
  apply decide_eq_decide.mpr
  simp only [List.mem_cons, List.not_mem_nil, or_false]
  omega
def optD : Option Int → PyData
  | some i => .int i
  | none => .none
theorem da_opt {K : PySem.W.Frag} {H : Hp} (o : Option Int) : Da K H (optV o) (optD o) := by
  cases o with
  | none => exact .non
  | some i => exact .int i
theorem filter_not_empty (p : Nat → Bool) (l : List Nat) : (l.filter (fun c => !p c)).isEmpty = l.all p := by
  induction l with
  | nil => rfl
  | cons a t ih =>
    by_cases r : p a = true
    · simp [List.filter_cons, r, ih]
    · simp [List.filter_cons, r]
/-- [c for c in z if c not in t] -/
theorem comp_strange {p : Nat → Bool} {t z : Str} {a s : Nat} {σ : L2.St} {J : Hp} {Q : VK} (hp : ∀ c, decide (c ∈ t.cps.toList) = p c) (hl : z.length ≤ 900) (hs : σ[s]? = some (some (.str z)))
    (hw : ∀ x, wipe ((wipe σ [a]).set a x) [a] = wipe σ [a]) (ha : ∀ x, ((wipe σ [a]).set a x)[a]? = some x)
    (q : ∀ r H2, Same J H2 → H2 r = some (.lst ((z.cps.toList.filter (fun c => !p c)).map sgV)) → Q (.ref r) H2) :
    tLc (iStr (tVar s)) (gName a) (tTest (tOp rNis (tVar a) (tC (.str t)))) (tVar a) [a] σ J Q := by
  have hlen : z.cps.toList.length = z.cps.size := Array.length_toList
  have hl2 : z.cps.size ≤ 900 := hl
  refine ⟨_, hs, z, rfl, fun D hD => lc_it walk_str (fun i H' => Same J H' ∧ H' D = some (.lst (((z.cps.toList.take i).filter (fun c => !p c)).map sgV))) ⟨Same.new hD, upd_same⟩ (fun _ _ _ _ => trivial) ?_ ?_⟩
  · rintro i x H' H2 hi ⟨q1, q2⟩ ⟨rfl, c, hc, rfl⟩
    refine ⟨hw _, ?_⟩
    have hc2 : z.cps.toList[i]? = some c := by
      rw [Array.getElem?_toList]
      exact hc
    have tk : (z.cps.toList.take (i + 1)).filter (fun c => !p c) = (z.cps.toList.take i).filter (fun c => !p c) ++ (if (!p c) = true then [c] else []) := by
      rw [List.take_add_one, hc2, List.filter_append]
      congr 1
      by_cases r : (!p c) = true
      · rw [if_pos r]
        simp only [Option.toList, List.filter_cons, List.filter_nil, if_pos r]
      · rw [if_neg r]
        simp only [Option.toList, List.filter_cons, List.filter_nil, if_neg r]
    refine ⟨_, ha _, c, t, rfl, rfl, _, rfl, ?_⟩
    rw [hp]
    refine ite2 (fun c4 => ?_) (fun c4 => ?_)
    · refine ⟨_, ha _, _, q2, ?_, fun b o e => ?_, ?_⟩
      · refine Nat.lt_of_le_of_lt (m := 1000) ?_ (by decide)
        rw [List.length_map]
        have y := List.length_filter_le (fun c => !p c) (z.cps.toList.take i)
        have y2 : (z.cps.toList.take i).length ≤ z.cps.toList.length := by
          rw [List.length_take]
          omega
        omega
      · rw [upd_ne (ne_of_none e hD)]
        exact q1 b o e
      · rw [upd_same, tk, if_pos c4, List.map_append]
        rfl
    · refine ⟨q1, ?_⟩
      rw [tk, if_neg c4, List.append_nil]
      exact q2
  · rintro H' ⟨q1, q2⟩
    rw [← hlen, List.take_length] at q2
    exact q _ H' q1 q2
abbrev rLe : R2 := rI0 fun i j => .bl (decide (i ≤ j))
abbrev rNn : R2 := fun x y H Q => y = .non ∧ Q (.bl (!decide (x = .non))) H
def inO (o : Option Int) (lo hi : Int) : Option Int := match o with
  | some i => if lo ≤ i ∧ i ≤ hi then some i else none
  | none => none
/-- x if x is not None and lo <= x <= hi else None -/
def tInside (a b c : Nat) : TE := fun σ H Q => ∃ o lo hi, σ[a]? = some (some (optV o)) ∧ σ[b]? = some (some (.int lo)) ∧ σ[c]? = some (some (.int hi)) ∧ Q (optV (inO o lo hi)) H
theorem imp_inside {a b c : Nat} : ∀ (σ : L2.St) (H : Hp) (Q : VK), tInside a b c σ H Q → tIf (tAnd (tTest (tOp rNn (tVar a) (tC .non))) (tTest (tChain rLe rLe (tVar b) (tVar a) (tVar c)))) (tVar a) (tC .non) σ H Q := by
  rintro σ H Q ⟨o, lo, hi, h1, h2, h3, q⟩
  cases o with
  | none => exact ⟨_, h1, rfl, _, rfl, q⟩
  | some i =>
    refine ⟨_, h1, rfl, _, rfl, ?_⟩
    refine iteT ?_
    refine ⟨_, h2, _, h1, _, _, rfl, rfl, _, rfl, ?_⟩
    have z1 : lo ≤ i ∧ i ≤ hi → Q (.int i) H := fun y => by
      have e : inO (some i) lo hi = some i := if_pos y
      rw [e] at q
      exact q
    have z2 : ¬ (lo ≤ i ∧ i ≤ hi) → Q .non H := fun y => by
      have e : inO (some i) lo hi = none := if_neg y
      rw [e] at q
      exact q
    refine ite2 (fun c => ?_) (fun c => ?_)
    · refine ⟨_, h3, _, _, rfl, rfl, _, rfl, ?_⟩
      refine ite2 (fun d => ?_) (fun d => ?_)
      · exact ⟨_, h1, z1 ⟨of_decide_eq_true c, of_decide_eq_true d⟩⟩
      · exact z2 fun y => d (decide_eq_true y.2)
    · exact ⟨_, rfl, z2 fun y => c (decide_eq_true y.1)⟩
/-- 1 <= len(z) <= 8 and strange == [] and z != 'self' -/
def tFine (K : PySem.W.Frag) (a b : Nat) : TE := fun σ H Q => ∃ (z : Str) (r : Addr), σ[a]? = some (some (.str z)) ∧ σ[b]? = some (some (.ref r)) ∧ H r = some (.lst ((z.cps.toList.filter (fun c => !loB c)).map sgV)) ∧ z.length ≤ 500 ∧ (∀ c ∈ z.cps.toList, c < 1114112) ∧ ∀ H2, Same H H2 → Q (.bl (nameS z)) H2
theorem imp_fine {K : PySem.W.Frag} {a b : Nat} : ∀ (σ : L2.St) (H : Hp) (Q : VK), tFine K a b σ H Q →
    tAndV (tChain rLe rLe (tC (.int 1)) (tCB (fun xs H Q => ∃ z, xs = [V.str z] ∧ z.length ≤ sizeLine ∧ Q (V.int ↑z.length) H) (tCons (tVar a) tNil)) (tC (.int 8)))
      (tAndV (tOp (rEqD K) (tVar b) (tLstS tNil)) (tOp rNe (tVar a) (tC (.str "self")))) σ H Q := by
  rintro σ H Q ⟨z, r, h1, h2, g, hl, hu, q⟩
  refine ⟨_, h1, z, rfl, Nat.le_trans hl (by decide), _, _, rfl, rfl, _, rfl, ?_⟩
  have key : ∀ b H2, nameS z = b → Same H H2 → Q (.bl b) H2 := fun b H2 e s => by
    rw [← e]
    exact q H2 s
  refine ite2 (fun c1 => ?_) (fun c1 => ?_)
  · have g1 : 1 ≤ z.length := Int.ofNat_le.mp (of_decide_eq_true c1)
    refine ⟨_, _, rfl, rfl, _, rfl, ?_⟩
    refine ite2 (fun c2 => ?_) (fun c2 => ?_)
    · have g2 : z.length ≤ 8 := Int.ofNat_le.mp (of_decide_eq_true c2)
      refine ⟨_, h2, sz (by simp), fun l H2 n2 s2 gl => ?_⟩
      refine ⟨_, .list [], .lst (SqL.of (s2 _ _ g)) (dp_signs _), .lst (SqL.of gl) .nil, shaped_signs _ (fun c hc => hu c (List.mem_filter.mp hc).1), rfl, _, rfl, ?_⟩
      rw [eqv_signs, filter_not_empty]
      refine ite2 (fun c3 => ?_) (fun c3 => ?_)
      · refine ⟨_, h1, rfl, ?_⟩
        refine key _ H2 ?_ s2
        unfold nameS
        rw [decide_eq_true g1, decide_eq_true g2, c3]
        simp
      · refine key _ H2 ?_ s2
        have c3' : z.cps.toList.all loB = false := by simpa using c3
        unfold nameS
        rw [c3']
        simp
    · refine key _ H ?_ (Same.refl _)
      have : ¬ z.length ≤ 8 := fun y => c2 (decide_eq_true (Int.ofNat_le.mpr y))
      unfold nameS
      rw [decide_eq_false this]
      simp
  · refine ⟨_, rfl, ?_⟩
    refine key _ H ?_ (Same.refl _)
    have : ¬ 1 ≤ z.length := fun y => c1 (decide_eq_true (Int.ofNat_le.mpr y))
    unfold nameS
    rw [decide_eq_false this]
    simp
theorem numS_lt {z : Str} {n : Int} (hl : z.length ≤ 500) (h : numS z = some n) : n.natAbs < 10 ^ 500 := by
  unfold numS at h
  split at h
  · rename_i c
    simp only [Bool.and_eq_true, decide_eq_true_eq] at c
    obtain ⟨h1, h2, h3, _⟩ := c
    have y := (canon h1 (Nat.le_trans hl (by decide)) h3 h).2
    exact Nat.lt_of_lt_of_le y (Nat.pow_le_pow_right (by decide) hl)
  · cases h
theorem int_len {n : Int} (h : n.natAbs < 10 ^ 500) : (Str.ofString (toString n)).length ≤ 501 := by
  rw [TL.len_tl]
  rcases Int.lt_or_le n 0 with c | c
  · obtain ⟨m, rfl⟩ : ∃ m : Nat, n = -(m : Int) := ⟨n.natAbs, by omega⟩
    have hm : m < 10 ^ 500 := by
      rw [Int.natAbs_neg, Int.natAbs_natCast] at h
      exact h
    rw [tl_neg (by omega), List.length_cons]
    have := TL.numL_len (by decide) hm
    omega
  · obtain ⟨m, rfl⟩ := Int.eq_ofNat_of_zero_le c
    have hm : m < 10 ^ 500 := by
      rw [Int.natAbs_natCast] at h
      exact h
    rw [TL.tl_num]
    have := TL.numL_len (by decide) hm
    omega
theorem inO_ok {z : Str} {lo hi : Int} (hl : z.length ≤ 500) : ∀ n, inO (numS z) lo hi = some n → n.natAbs < 10 ^ 500 := by
  intro n h
  cases e : numS z with
  | none =>
    rw [e] at h
    cases h
  | some i =>
    rw [e] at h
    unfold inO at h
    dsimp only at h
    split at h
    · injection h with h
      subst h
      exact numS_lt hl e
    · cases h
theorem four_ok {b : Bool} {o : Option Int} (ob : ∀ n, o = some n → n.natAbs < 10 ^ 500) : (PyData.list [.bool b, optD o, .bool false, .bool false]).showable = true ∧ (PyData.list [.bool b, optD o, .bool false, .bool false]).depth ≤ 60 ∧ (PyData.list [.bool b, optD o, .bool false, .bool false]).shown.length ≤ sizeLine := by
  cases o with
  | none => cases b <;> exact ⟨by decide +kernel, by decide +kernel, by decide +kernel⟩
  | some n =>
    have h := ob n rfl
    have lg : n.natAbs.log2 < 1920 := by
      by_cases n0 : n.natAbs = 0
      · rw [n0]
        decide
      · refine (Nat.log2_lt n0).mpr ?_
        exact Nat.lt_of_lt_of_le h (by decide +kernel)
    refine ⟨?_, ?_, ?_⟩
    · simp [PyData.showable, PyData.showableAll, optD, lg]
    · show 1 ≤ 60
      decide
    · have y := listText_len_le (PyData.shownAll [.bool b, optD (some n), .bool false, .bool false])
      have y1 : ((PyData.bool b).shown).length ≤ 5 := by cases b <;> decide +kernel
      have y2 : ((PyData.bool false).shown).length ≤ 5 := by decide +kernel
      have y3 : ((PyData.int n).shown).length ≤ 501 := int_len h
      simp only [PyData.shownAll, List.map_cons, List.map_nil, List.sum_cons, List.sum_nil, List.length_cons, List.length_nil, optD] at y ⊢
      refine Nat.le_trans ?_ (show 5000 ≤ sizeLine by decide)
      have y' := y
      show (PyData.list [.bool b, .int n, .bool false, .bool false]).shown.length ≤ 5000
      refine Nat.le_trans y' ?_
      omega
end Lw
namespace K01
open PySem PySem.Spec PyProof.Rows L2 Lw
abbrev sPageR : Stmt := top 27
def spPageR : Sp := fun vs H Q _ => ∃ z lo hi, vs = [.str z, .int lo, .int hi] ∧ z.length ≤ 500 ∧ (∀ c ∈ z.cps.toList, c < 1114112) ∧ ∀ H2, Same H H2 → Q (.bl true) H2
abbrev nPageR : List Str := ["_law_page", "_law_low", "_law_high", "_law_found", "_law_strange", "_law_told_so", "_law_inside", "_law_is_fine", "_law_sign"]
section
variable {P : Program} {w : World} {K : PySem.W.Frag} {mg : Str → Option Value} {base : Heap}
theorem scPageR : FnScope nPageR ["_law_page", "_law_low", "_law_high"] (defScope sPageR) := ⟨rfl, rfl, rfl, by decide +kernel, rfl, by decide +kernel, by decide +kernel⟩
variable {f1 f2 f3 f4 f5 : Addr} {g1 g2 g3 g4 g5 : FuncData}
theorem ok_pager {f : Addr} {fd : FuncData} (F : Fun K "_law_page_right" "_law_page_right" sPageR f fd) (T : TxtC mg) (mR : mg "repr" = none) (hS : ∃ m, base.Ns sysModules m)
    (c1 : Cal P w K mg base "_law_written" 1 ["_law_page"] spWritten f1 g1) (c2 : Cal P w K mg base "is_name" 1 ["value"] (spName K) f2 g2) (c3 : Cal P w K mg base "number_of" 2 ["word", "least", "most"] (spNumOf K) f3 g3)
    (c4 : Cal P w K mg base "is_integer" 1 ["value"] (spIsInt K) f4 g4) (c5 : Cal P w K mg base "is_amount" 2 ["value"] (spAmount K) f5 g5) : FnG P w K mg base CX0 3 f fd ["_law_page", "_law_low", "_law_high"] spPageR := by
  refine okG F scPageR (fun vs H Q E h => ?_) (fun cdv A outer s H vs Q E hG hr h => ?_)
  · obtain ⟨z, lo, hi, rfl, _⟩ := h
    rfl
  · obtain ⟨z, lo, hi, rfl, hl, hu, q⟩ := h
    have hr1 : Room 1 _ := hr.mono (by decide)
    refine ⟨_, pss_cons (ps_set (i := 3) scPageR.nd rfl (Or.inl rfl) (pe_call c1.ok hr1 rfl c1.gl c1.kp c1.bi .nil pass0 (pa_cons (pv 0) pa_nil)))
      (pss_cons (ps_setLc (i := 4) (own := [("_law_sign", 8)]) (g := gName 8) (tt := tTest (tOp rNis (tVar 8) (tC (.str "abcdefghijklmnopqrstuvwxyz")))) (te := tVar 8) rfl scPageR.nd rfl rfl (sw_true rfl rfl rfl (by decide +kernel)) (pi_str (pv 0))
        (blkOk_by (N := nPageR) (sc := defScope sPageR) (own := [("_law_sign", 8)]) (by decide +kernel)) (fun _ _ _ _ _ => pg_name (i := 8) scPageR.nd rfl (Or.inl rfl)) (fun _ _ _ _ _ => pts_one (pt_cmpR op_notIn_sign (pv 8) pe_str rfl)) (fun _ _ _ _ _ => pv 8))
      (pss_cons (ps_set (i := 5) scPageR.nd rfl (Or.inl rfl) (pe_lstS (pa_cons (pe_call c2.ok hr1 rfl c2.gl c2.kp c2.bi .nil pass0 (pa_cons (pv 0) pa_nil)) (pa_cons (pe_call c3.ok hr rfl c3.gl c3.kp c3.bi .nil pass0 (pa_cons (pv 0) (pa_cons (pv 1) (pa_cons (pv 2) pa_nil))))
        (pa_cons (pe_call c4.ok hr1 rfl c4.gl c4.kp c4.bi .nil pass0 (pa_cons (pv 0) pa_nil)) (pa_cons (pe_call c5.ok hr rfl c5.gl c5.kp c5.bi .nil pass0 (pa_cons (pv 0) pa_nil)) pa_nil))))))
      (pss_cons (ps_set (i := 6) scPageR.nd rfl (Or.inl rfl) (PE.imp (pe_ifExp (PW.pt (pw_and (pt_cmpR op_notN (pv 3) pe_non (nomark _)) (pw_and1 (pt_chain op_le op_le (pv 1) (pv 3) (pv 2))))) (pv 3) pe_non) (imp_inside (a := 3) (b := 1) (c := 2))))
      (pss_cons (ps_set (i := 7) scPageR.nd rfl (Or.inl rfl) (PE.imp (pe_and (pe_chain op_le op_le pe_int (pe_callB call_len_str (by rfl) T.len PySem.boot_len (pa_cons (pv 0) pa_nil)) pe_int) (pe_and (pe_cmpR (op_eqD hr.units) (pv 4) (pe_lstS pa_nil) (nomark _)) (pe_one (pe_cmpR op_ne (pv 0) pe_str (nomark _))))) (imp_fine (K := K) (a := 0) (b := 4))))
      (pss_one (ps_ret (pe_cmpR op_eq (pe_callB (call_repr hG hr.units hS) (by rfl) mR (by decide +kernel) (pa_cons (pv 5) pa_nil))
        (pe_callB (call_repr hG hr.units hS) (by rfl) mR (by decide +kernel) (pa_cons (pe_lstS (pa_cons (pv 7) (pa_cons (pv 6) (pa_cons pe_bl (pa_cons pe_bl pa_nil))))) pa_nil)) (nomark _)))))))), ?_⟩
    rw [show L2.start nPageR [.str z, .int lo, .int hi] = [some (.str z), some (.int lo), some (.int hi), none, none, none, none, none, none] from rfl]
    refine ⟨_, rfl, z, rfl, hl, hu, fun H1 s1 => ?_⟩
    dsimp only [gName, List.set]
    dsimp only [gName, tSeq, tAsg]
    refine comp_strange (a := 8) (s := 0) (z := z) loB_in (Nat.le_trans hl (by decide)) rfl (fun _ => rfl) (fun _ => rfl) fun r H2 s2 g2 => ?_
    refine ⟨_, rfl, .str z, rfl, Knd.str z, (fun y e => by injection e with e; rw [← e]; exact Nat.le_trans hl (by decide)), fun H3 s3 => ?_⟩
    refine ⟨_, rfl, _, rfl, _, rfl, .str z, lo, hi, rfl, Knd.str z, (fun y e => by injection e with e; rw [← e]; exact Nat.le_trans hl (by decide)), fun H4 s4 => ?_⟩
    refine ⟨_, rfl, .str z, rfl, Knd.str z, _, rfl, .str z, rfl, Knd.str z, sz (by simp), fun l H5 n5 s5 g5 => ?_⟩
    dsimp only [gName, List.set]
    have S5 : Same H2 H5 := (s3.trans s4).trans s5
    refine ⟨numS z, lo, hi, rfl, rfl, rfl, ?_⟩
    dsimp only [gName, List.set]
    refine ⟨z, r, rfl, rfl, S5 _ _ g2, hl, hu, fun H6 s6 => ?_⟩
    dsimp only [gName, List.set]
    have ob := inO_ok (lo := lo) (hi := hi) hl
    have d6 : ∀ (H7 : Hp) (m : Addr), H7 m = some (.lst [.bl (nameS z), optV (inO (numS z) lo hi), .bl false, .bl false]) → Da K H7 (.ref m) (.list [.bool (nameS z), optD (inO (numS z) lo hi), .bool false, .bool false]) := fun H7 m g => .lst g (.cons (.bl _) (.cons (da_opt _) (.cons (.bl _) (.cons (.bl _) .nil))))
    obtain ⟨o1, o2, o3⟩ := four_ok (b := nameS z) ob
    refine ⟨_, rfl, .ref l, _, rfl, d6 H6 l (s6 _ _ g5), o1, o2, o3, _, rfl, _, rfl, sz (by simp), fun m H7 n7 s7 g7 => ?_⟩
    refine ⟨.ref m, _, rfl, d6 H7 m g7, o1, o2, o3, rfl, ?_⟩
    have z9 := q H7 (((s1.trans s2).trans S5).trans (s6.trans s7))
    rw [← decide_eq_true (rfl : V.str (PyData.list [.bool (nameS z), optD (inO (numS z) lo hi), .bool false, .bool false]).shown = _)] at z9
    exact z9
end
end K01
end
section
set_option maxRecDepth 100000
set_option maxHeartbeats 4000000
namespace Lw
open PySem PySem.Spec PyProof.Rows L2
section
variable {X : Cx} {pos : Pos}
/-- {1: 2} -/
theorem pe_d1I {k v : Int} {i j : Nat} {p q : Pos} : PE X (.Dict [some (.Constant (.int k) i p)] [.Constant (.int v) j q] pos) (fun _ H Q => New (.dK [(Sum.inl k, .int v)]) H Q) := by
  refine PE.imp (pe_disp (pps_cons pe_int pe_int pps_nil) rfl rfl (fun z => by cases z) (by simp)) fun σ H Q h => ?_
  intro l n
  refine ⟨upd_same, [(Sum.inl k, .int v)], rfl, by simp, ?_⟩
  rw [upd_upd]
  exact h.at n
end
theorem PenAt.keepS {H H' : Hp} {p c : Addr} {ns : List Int} {i r : Int} (h : PenAt H p c ns i r) (s : Same H H') : PenAt H' p c ns i r := ⟨s _ _ h.ob, s _ _ h.ce, h.i0, h.r0, h.l63⟩
theorem cutp_at {H : Hp} {p b : Addr} {o : HO} (n : b ≠ p) (h : H b = some o) : delH H p b = some o := (delH_ne n).trans h
end Lw
namespace K01
open PySem PySem.Spec PyProof.Rows L2 Lw
abbrev sThing : Stmt := top 21
def spThing (K : PySem.W.Frag) : Sp := fun vs H Q _ => ∃ (p c : Addr) (ns : List Int) (i r : Int), vs = [.ref p] ∧ PenAt H p c ns i r ∧ i ≤ 1000000 ∧
  ∀ (v : V) (d : PyData) (i' r' : Int) (H' : Hp), Da K (delH H' p) v d → okD true d = true → (∀ z, v = .str z → z.length ≤ 1000) → i ≤ i' → i' ≤ i + 1 → PenAt H' p c ns i' r' → But p H H' → Q v H'
theorem p39 : CPow 10 39 := ⟨by decide, by decide, by decide⟩
section
variable {P : Program} {w : World} {K : PySem.W.Frag} {mg : Str → Option Value} {base : Heap}
theorem scThing : FnScope ["_law_pen_here", "_law_some"] ["_law_pen_here"] (defScope sThing) := ⟨rfl, rfl, rfl, by decide +kernel, rfl, by decide +kernel, by decide +kernel⟩
theorem ok_thing {f g : Addr} {fd gd : FuncData} (F : Fun K "_law_thing" "_law_thing" sThing f fd) (c : Cal P w K mg base "_law_pick" 2 ["_law_pen_here", "_law_some"] spPick g gd) : FnOk P w K mg base CX0 3 f fd ["_law_pen_here"] (spThing K) := by
  refine F.ok scThing (fun vs H Q E h => ?_) (fun cdv A outer s H vs Q E hr h => ?_)
  · obtain ⟨p, c, ns, i, r, rfl, _⟩ := h
    rfl
  · obtain ⟨p, c0, ns, i, r, rfl, D, hi, k⟩ := h
    refine ⟨_, pss_cons (ps_set (i := 1) scThing.nd rfl (Or.inl rfl) (pe_lstS (pa_cons pe_non (pa_cons pe_bl (pa_cons pe_bl (pa_cons pe_int (pa_cons pe_int (pa_cons (pe_un un_neg pe_int) (pa_cons pe_int (pa_cons (pe_op op_pow pe_int pe_int) (pa_cons pe_str (pa_cons pe_str (pa_cons pe_str
        (pa_cons (pe_tupS pa_nil) (pa_cons (pe_tupS (pa_cons pe_int pa_nil)) (pa_cons (pe_tupS (pa_cons pe_str pa_nil)) (pa_cons (pe_lstS pa_nil) (pa_cons (pe_lstS (pa_cons pe_int pa_nil)) (pa_cons (pe_lstS (pa_cons pe_str pa_nil)) (pa_cons pe_d0S (pa_cons pe_d1I pa_nil)))))))))))))))))))))
      (pss_one (ps_ret (pe_call c.ok hr rfl c.gl c.kp c.bi .nil pass0 (pa_cons (pv 0) (pa_cons (pv 1) pa_nil))))), ?_⟩
    refine ⟨_, rfl, _, _, rfl, rfl, p39, (by decide), fun l1 H1 n1 s1 g1 => ⟨(by decide), fun l2 H2 n2 s2 g2 => ⟨(by decide), fun l3 H3 n3 s3 g3 => ⟨(by decide), fun l4 H4 n4 s4 g4 => ⟨(by decide), fun l5 H5 n5 s5 g5 => ⟨(by decide), fun l6 H6 n6 s6 g6 => fun l7 H7 n7 s7 g7 => fun l8 H8 n8 s8 g8 =>
      ⟨(sz (by simp)), fun l9 H9 n9 s9 g9 => ?_⟩⟩⟩⟩⟩⟩⟩
    have t8 := s9
    have t7 := s8.trans t8
    have t6 := s7.trans t7
    have t5 := s6.trans t6
    have t4 := s5.trans t5
    have t3 := s4.trans t4
    have t2 := s3.trans t3
    have t1 := s2.trans t2
    have S9 : Same H H9 := s1.trans t1
    have D9 := D.keepS S9
    have h8 := t8 _ _ g8
    have h7 := t7 _ _ g7
    have h6 := t6 _ _ g6
    have h5 := t5 _ _ g5
    have h4 := t4 _ _ g4
    have h3 := t3 _ _ g3
    have h2 := t2 _ _ g2
    have h1 := t1 _ _ g1
    refine ⟨_, rfl, _, rfl, p, c0, l9, ns, i, r, _, rfl, D9, hi, g9, ne_of g9 D9.ob (by intro z; cases z), (by simp), (by simp), fun x i' r' H' hx i1 i2 D' B => ?_⟩
    have B2 : But p H H' := (But.same S9).trans B
    have e8 := cutp_at (ne_of h8 D9.ob (by intro z; cases z)) (B _ _ (ne_of h8 D9.ob (by intro z; cases z)) h8)
    have e7 := cutp_at (ne_of h7 D9.ob (by intro z; cases z)) (B _ _ (ne_of h7 D9.ob (by intro z; cases z)) h7)
    have e6 := cutp_at (ne_of h6 D9.ob (by intro z; cases z)) (B _ _ (ne_of h6 D9.ob (by intro z; cases z)) h6)
    have e5 := cutp_at (ne_of h5 D9.ob (by intro z; cases z)) (B _ _ (ne_of h5 D9.ob (by intro z; cases z)) h5)
    have e4 := cutp_at (ne_of h4 D9.ob (by intro z; cases z)) (B _ _ (ne_of h4 D9.ob (by intro z; cases z)) h4)
    have e3 := cutp_at (ne_of h3 D9.ob (by intro z; cases z)) (B _ _ (ne_of h3 D9.ob (by intro z; cases z)) h3)
    have e2 := cutp_at (ne_of h2 D9.ob (by intro z; cases z)) (B _ _ (ne_of h2 D9.ob (by intro z; cases z)) h2)
    have e1 := cutp_at (ne_of h1 D9.ob (by intro z; cases z)) (B _ _ (ne_of h1 D9.ob (by intro z; cases z)) h1)
    have out : ∀ d, Da K (delH H' p) x d → okD true d = true → (∀ z, x = .str z → z.length ≤ 1000) → Q x H' := fun d da fl hz => k x d i' r' H' da fl hz i1 i2 D' B2
    simp only [List.mem_cons, List.not_mem_nil, or_false] at hx
    rcases hx with rfl | rfl | rfl | rfl | rfl | rfl | rfl | rfl | rfl | rfl | rfl | rfl | rfl | rfl | rfl | rfl | rfl | rfl | rfl
    · exact out _ .non rfl (by intro z e; cases e)
    · exact out _ (.bl true) rfl (by intro z e; cases e)
    · exact out _ (.bl false) rfl (by intro z e; cases e)
    · exact out _ (.int _) rfl (by intro z e; cases e)
    · exact out _ (.int _) rfl (by intro z e; cases e)
    · exact out _ (.int _) rfl (by intro z e; cases e)
    · exact out _ (.int _) rfl (by intro z e; cases e)
    · exact out _ (.int _) rfl (by intro z e; cases e)
    · exact out _ (.str _) rfl (by intro z e; injection e with e; rw [← e]; decide)
    · exact out _ (.str _) rfl (by intro z e; injection e with e; rw [← e]; decide)
    · exact out _ (.str _) rfl (by intro z e; injection e with e; rw [← e]; decide)
    · exact out _ (.tup e1 .nil) rfl (by intro z e; cases e)
    · exact out _ (.tup e2 (.cons (.int _) .nil)) rfl (by intro z e; cases e)
    · exact out _ (.tup e3 (.cons (.str _) .nil)) rfl (by intro z e; cases e)
    · exact out _ (.lst e4 .nil) rfl (by intro z e; cases e)
    · exact out _ (.lst e5 (.cons (.int _) .nil)) rfl (by intro z e; cases e)
    · exact out _ (.lst e6 (.cons (.str _) .nil)) rfl (by intro z e; cases e)
    · exact out _ (.dic e7 .nil) rfl (by intro z e; cases e)
    · exact out _ (.dic e8 (.cons (.int _) .nil)) rfl (by intro z e; cases e)
end
end K01
end
section
set_option maxRecDepth 100000
set_option maxHeartbeats 4000000
namespace Lw
open PySem PySem.Spec PyProof.Rows L2
/-- a text of at most n signs, all of them signs of texts -/
structure TxtOk (z : Str) (n : Nat) : Prop where
  len : z.cps.toList.length ≤ n
  uni : ∀ c ∈ z.cps.toList, c < 1114112
theorem TxtOk.mono {z : Str} {n m : Nat} (h : TxtOk z n) (l : n ≤ m) : TxtOk z m := ⟨Nat.le_trans h.len l, h.uni⟩
theorem TxtOk.app {x y : Str} {n m : Nat} (h : TxtOk x n) (g : TxtOk y m) : TxtOk (x ++ y) (n + m) := by
  have e : (x ++ y).cps.toList = x.cps.toList ++ y.cps.toList := TL.tl_append x y
  refine ⟨?_, ?_⟩
  · rw [e, List.length_append]
    exact Nat.add_le_add h.len g.len
  · rw [e]
    intro c hc
    rcases List.mem_append.mp hc with q | q
    · exact h.uni c q
    · exact g.uni c q
theorem TxtOk.cut {z : Str} {n : Nat} (h : TxtOk z n) (lo hi : Option Int) : TxtOk (cutS z lo hi) n := by
  have e : (cutS z lo hi).cps.toList = (z.cps.toList.drop (HT.sIx z.length 0 lo)).take (HT.sIx z.length z.length hi - HT.sIx z.length 0 lo) := rfl
  refine ⟨?_, ?_⟩
  · rw [e, List.length_take, List.length_drop]
    have := h.len
    omega
  · rw [e]
    exact fun c hc => h.uni c (List.mem_of_mem_drop (List.mem_of_mem_take hc))
theorem joinL_nil : ∀ ps : List (List Nat), TL.joinL [] ps = ps.flatten
  | [] => rfl
  | [p] => by simp [TL.joinL]
  | p :: q :: r => by
    show p ++ ([] ++ TL.joinL [] (q :: r)) = _
    rw [joinL_nil (q :: r)]
    simp
theorem TxtOk.join {ys : List Str} {n : Nat} (h : ∀ y ∈ ys, TxtOk y n) : TxtOk (Txt.join "" ys) (ys.length * n) := by
  have e : (Txt.join "" ys).cps.toList = (ys.map TL.tl).flatten := by
    rw [TL.join_eq]
    exact (TL.tl_join "" ys).trans (joinL_nil _)
  refine ⟨?_, ?_⟩
  · rw [e]
    clear e
    induction ys with
    | nil => simp
    | cons y r ih =>
      have h1 := (h y List.mem_cons_self).len
      have h2 := ih fun x hx => h x (List.mem_cons_of_mem _ hx)
      rw [List.map_cons, List.flatten_cons, List.length_append, List.length_cons, Nat.succ_mul]
      show (y.cps.toList).length + _ ≤ _
      omega
  · rw [e]
    intro c hc
    obtain ⟨l, hl, hcl⟩ := List.mem_flatten.mp hc
    obtain ⟨y, hy, rfl⟩ := List.mem_map.mp hl
    exact (h y hy).uni c hcl
theorem TxtOk.of {z : Str} {n : Nat} (h : (decide (z.cps.toList.length ≤ n) && z.cps.toList.all fun c => decide (c < 1114112)) = true) : TxtOk z n := by
  obtain ⟨h1, h2⟩ := Bool.and_eq_true_iff.mp h
  exact ⟨of_decide_eq_true h1, fun c hc => of_decide_eq_true (List.all_eq_true.mp h2 c hc)⟩
theorem TxtOk.str {z : Str} {n : Nat} (h : TxtOk z n) : z.length ≤ n := by
  have e : z.cps.toList.length = z.length := Array.length_toList
  have := h.len
  omega
def spText (k : Int) : Sp := fun vs H Q _ => ∃ (p c : Addr) (ns : List Int) (i r : Int), vs = [.ref p] ∧ PenAt H p c ns i r ∧ i ≤ 900000 ∧
  ∀ (z : Str) (i' r' : Int) (H' : Hp), TxtOk z 500 → i ≤ i' → i' ≤ i + k → PenAt H' p c ns i' r' → But p H H' → Q (.str z) H'
end Lw
namespace K01
open PySem PySem.Spec PyProof.Rows L2 Lw
abbrev sLetters : Stmt := top 22
abbrev nLetters : List Str := ["_law_pen_here", "_law_found", "_law_spot", "_law_lap"]
section
variable {P : Program} {w : World} {K : PySem.W.Frag} {mg : Str → Option Value} {base : Heap}
theorem scLetters : FnScope nLetters ["_law_pen_here"] (defScope sLetters) := ⟨rfl, rfl, rfl, by decide +kernel, rfl, by decide +kernel, by decide +kernel⟩
variable {f1 f2 : Addr} {g1 g2 : FuncData}
theorem ok_letters {f : Addr} {fd : FuncData} (F : Fun K "_law_letters" "_law_letters" sLetters f fd) (mRg : mg "range" = none) (mLen : mg "len" = none) (c1 : Cal P w K mg base "_law_draw" 1 ["_law_pen_here", "_law_many"] spDraw f1 g1) (c2 : Cal P w K mg base "_law_pick" 2 ["_law_pen_here", "_law_some"] spPick f2 g2) :
    FnOk P w K mg base CX0 3 f fd ["_law_pen_here"] (spText 20) := by
  refine F.ok scLetters (fun vs H Q E h => ?_) (fun cdv A outer s H vs Q E hr h => ?_)
  · obtain ⟨p, c, ns, i, r, rfl, _⟩ := h
    rfl
  · obtain ⟨p, c0, ns, i, r, rfl, D, hi, k⟩ := h
    have hr1 : Room 1 _ := hr.mono (by decide)
    refine ⟨_, pss_cons (ps_if (pt_cmpR op_eq (pe_call c1.ok hr1 rfl c1.gl c1.kp c1.bi .nil pass0 (pa_cons (pv 0) (pa_cons pe_int pa_nil))) pe_int (nomark _))
        (pss_one (ps_ret (pe_call c2.ok hr rfl c2.gl c2.kp c2.bi .nil pass0 (pa_cons (pv 0) (pa_cons (pe_lstS (pa_cons pe_str (pa_cons pe_str (pa_cons pe_str (pa_cons pe_str (pa_cons pe_str (pa_cons pe_str (pa_cons pe_str pa_nil)))))))) pa_nil))))) pss_nil)
      (pss_cons (ps_set (i := 1) scLetters.nd rfl (Or.inl rfl) (pe_join pe_str (pe_lc (own := [("_law_lap", 3)]) (g := gName 3) (tt := tYes) (te := tCall spPick [] E0 (tCons (tVar 0) (tCons (tLstS (tCons (tC (.str "a")) (tCons (tC (.str "e")) (tCons (tC (.str "k")) (tCons (tC (.str "q")) (tCons (tC (.str "z")) tNil)))))) tNil)))
        rfl scLetters.nd (pi_range1 rfl mRg (pa_cons (pe_call c1.ok hr1 rfl c1.gl c1.kp c1.bi .nil pass0 (pa_cons (pv 0) (pa_cons pe_int pa_nil))) pa_nil)) (blkOk_by (N := nLetters) (sc := defScope sLetters) (own := [("_law_lap", 3)]) (by decide +kernel))
        (fun _ _ _ _ _ => pg_name (i := 3) scLetters.nd rfl (Or.inl rfl)) (fun _ _ _ _ _ => pts_nil) (fun _ _ _ _ _ => pe_call c2.ok hr rfl c2.gl c2.kp c2.bi .nil pass0 (pa_cons (pv 0) (pa_cons (pe_lstS (pa_cons pe_str (pa_cons pe_str (pa_cons pe_str (pa_cons pe_str (pa_cons pe_str pa_nil)))))) pa_nil))))))
      (pss_cons (ps_set (i := 2) scLetters.nd rfl (Or.inl rfl) (pe_call c1.ok hr1 rfl c1.gl c1.kp c1.bi .nil pass0 (pa_cons (pv 0) (pa_cons (pe_op op_add (pe_callB call_len_str (by rfl) mLen PySem.boot_len (pa_cons (pv 1) pa_nil)) pe_int) pa_nil))))
      (pss_one (ps_ret (pe_op op_add_str (pe_op op_add_str (pe_slice sl_str (pv 1) po_none (po_some (pv 2))) (pe_call c2.ok hr rfl c2.gl c2.kp c2.bi .nil pass0 (pa_cons (pv 0) (pa_cons (pe_lstS (pa_cons pe_str (pa_cons pe_str (pa_cons pe_str (pa_cons pe_str (pa_cons pe_str (pa_cons pe_str (pa_cons pe_str (pa_cons pe_str (pa_cons pe_str (pa_cons pe_str pa_nil))))))))))) pa_nil))))
        (pe_slice sl_str (pv 1) (po_some (pv 2)) po_none)))))), ?_⟩
    rw [show L2.start nLetters [.ref p] = [some (.ref p), none, none, none] from rfl]
    refine ⟨_, rfl, p, c0, ns, i, r, 8, rfl, D, by decide, by decide, by omega, fun d i1 r1 H1 d0 d8 a1 b1 D1 B1 => ?_⟩
    refine ⟨rfl, _, rfl, ?_⟩
    refine ite2 (fun c => ?_) (fun c => ?_)
    · refine ⟨_, rfl, sz (by simp), fun l H2 n2 s2 g2 => ?_⟩
      have D2 := D1.keepS s2
      refine ⟨p, c0, l, ns, i1, r1, _, rfl, D2, by omega, g2, ne_of g2 D2.ob (by intro z; cases z), by simp, by simp, fun x i' r' H' hx a2 b2 D' B' => ?_⟩
      have BB : But p H H' := (B1.trans (But.same s2)).trans B'
      simp only [List.mem_cons, List.not_mem_nil, or_false] at hx
      rcases hx with rfl | rfl | rfl | rfl | rfl | rfl | rfl
      all_goals exact k _ i' r' H' (.of (by decide +kernel)) (by omega) (by omega) D' BB
    · refine ⟨⟨_, rfl⟩, _, rfl, p, c0, ns, i1, r1, 10, rfl, D1, by decide, by decide, by omega, fun m i2 r2 H2 m0 m10 a2 b2 D2 B2 => ?_⟩
      have BB2 : But p H H2 := B1.trans B2
      refine ⟨m, rfl, by omega, by omega, fun Dl hD => lc_range (lo := 0) (n := m.toNat) (fun t H' => ∃ (i' r' : Int) (ys : List Str), PenAt H' p c0 ns i' r' ∧ i2 ≤ i' ∧ i' ≤ i2 + (t : Int) ∧ H' Dl = some (.lst (ys.map V.str)) ∧ ys.length = t ∧ (∀ y ∈ ys, TxtOk y 1) ∧ But p H2 H') ?_ ?_ ?_⟩
      · have pD : p ≠ Dl := ne_of_none D2.ob hD
        refine ⟨i2, r2, [], D2.keepS (Same.new hD), by omega, by omega, upd_same, rfl, (fun y hy => by cases hy), But.new (But.refl _ _) hD⟩
      · rintro t H' ht ⟨i', r', ys, D', a', b', g', l', o', B'⟩
        refine ⟨rfl, yes_if ?_⟩
        refine ⟨_, rfl, sz (by simp), fun l H3 n3 s3 g3 => ?_⟩
        have D3 := D'.keepS s3
        refine ⟨p, c0, l, ns, i', r', _, rfl, D3, by omega, g3, ne_of g3 D3.ob (by intro z; cases z), by simp, by simp, fun x i4 r4 H4 hx a4 b4 D4 B4 => ?_⟩
        have gD : H4 Dl = some (.lst (ys.map V.str)) := by
          have e : H3 Dl = some (.lst (ys.map V.str)) := s3 _ _ g'
          refine B4 _ _ (fun q => ?_) e
          rw [q] at hD
          rw [D2.ob] at hD
          cases hD
        have nD : p ≠ Dl := ne_of_none D2.ob hD
        have fin : ∀ y : Str, x = .str y → TxtOk y 1 → ∃ acc, H4 Dl = some (.lst acc) ∧ acc.length < sizeLine ∧ ∃ (i' r' : Int) (ys : List Str), PenAt (L2.upd H4 Dl (.lst (acc ++ [x]))) p c0 ns i' r' ∧ i2 ≤ i' ∧ i' ≤ i2 + ((t + 1 : Nat) : Int) ∧ (L2.upd H4 Dl (.lst (acc ++ [x]))) Dl = some (.lst (ys.map V.str)) ∧ ys.length = t + 1 ∧ (∀ y ∈ ys, TxtOk y 1) ∧ But p H2 (L2.upd H4 Dl (.lst (acc ++ [x]))) := by
          rintro y rfl hy
          have cD : c0 ≠ Dl := ne_of_none D2.ce hD
          refine ⟨_, gD, ?_, i4, r4, ys ++ [y], ⟨by rw [upd_ne nD]; exact D4.ob, by rw [upd_ne cD]; exact D4.ce, D4.i0, D4.r0, D4.l63⟩, by omega, by omega, ?_, by simp [l'], ?_, ?_⟩
          · rw [List.length_map, l']
            refine Nat.lt_of_lt_of_le (m := 1000) ?_ (by decide)
            omega
          · rw [upd_same, List.map_append]
            rfl
          · intro y' hy'
            rcases List.mem_append.mp hy' with q | q
            · exact o' y' q
            · have : y' = y := by simpa using q
              rw [this]
              exact hy
          · intro b o nb e
            rw [upd_ne (ne_of_none e hD)]
            exact B4 b o nb (s3 _ _ (B' b o nb e))
        simp only [List.mem_cons, List.not_mem_nil, or_false] at hx
        rcases hx with rfl | rfl | rfl | rfl | rfl
        all_goals exact fin _ rfl (.of (by decide +kernel))
      · rintro H3 ⟨i', r', ys, D', a', b', g', l', o', B'⟩
        have jo := TxtOk.join o'
        have jl : ys.length * 1 ≤ 10 := by omega
        have jo2 : TxtOk (Txt.join "" ys) 10 := jo.mono jl
        have sm : (ys.map (·.length)).sum + ys.length * ("" : Str).length ≤ 16777216 := by
          have e0 : ("" : Str).length = 0 := rfl
          have : ∀ zs : List Str, (∀ y ∈ zs, TxtOk y 1) → (zs.map (·.length)).sum ≤ zs.length := by
            intro zs
            induction zs with
            | nil => intro _; simp
            | cons y t ih =>
              intro h
              have h1 := (h y List.mem_cons_self).str
              have h2 := ih fun x hx => h x (List.mem_cons_of_mem _ hx)
              rw [List.map_cons, List.sum_cons, List.length_cons]
              omega
          have h1 := this ys o'
          rw [e0]
          omega
        refine ⟨"", Dl, ys, rfl, rfl, .inl (SqL.of g'), sm, ?_⟩
        revert jo2
        generalize Txt.join "" ys = fo
        intro jo2
        dsimp only [gName, List.set]
        have fl : fo.length ≤ 10 := jo2.str
        have fz : fo.length ≤ sizeLine := Nat.le_trans fl (by decide)
        refine ⟨_, rfl, _, rfl, fo, rfl, fz, _, _, rfl, rfl, p, c0, ns, i', r', _, rfl, D', by omega, by omega, by omega, fun sp i5 r5 H5 sp0 sp1 a5 b5 D5 B5 => ?_⟩
        dsimp only [gName, List.set]
        refine ⟨_, rfl, _, rfl, _, rfl, fo, rfl, fz, _, rfl, sz (by simp), fun l H6 n6 s6 g6 => ?_⟩
        have D6 := D5.keepS s6
        refine ⟨p, c0, l, ns, i5, r5, _, rfl, D6, by omega, g6, ne_of g6 D6.ob (by intro z; cases z), by simp, by simp, fun x i7 r7 H7 hx a7 b7 D7 B7 => ?_⟩
        have BB : But p H H7 := (((BB2.trans B').trans B5).trans (But.same s6)).trans B7
        have fin : ∀ y : Str, x = .str y → TxtOk y 1 → tOp (fun x y H Q => ∃ i j, x = V.str i ∧ y = V.str j ∧ i.length + j.length ≤ sizeLine ∧ Q (V.str (i ++ j)) H) (fun _ H Q => Q (.str (cutS fo none (some sp))) H) (fun _ H Q => Q x H) [] H7 (fun v H => ∃ i j, v = V.str i ∧ j = cutS fo (some sp) none ∧ i.length + j.length ≤ sizeLine ∧ Q (.str (i ++ j)) H) := by
          rintro y rfl hy
          have c1 := jo2.cut none (some sp)
          have c2 := jo2.cut (some sp) none
          have c3 := c1.app hy
          have c4 := c3.app c2
          refine ⟨_, _, rfl, rfl, ?_, _, _, rfl, rfl, ?_, ?_⟩
          · have h1 := c1.str
            have h2 := hy.str
            exact Nat.le_trans (m := 500) (by omega) (by decide)
          · have h1 := c3.str
            have h2 := c2.str
            exact Nat.le_trans (m := 500) (by omega) (by decide)
          · exact k _ i7 r7 H7 (c4.mono (by decide)) (by omega) (by omega) D7 BB
        simp only [List.mem_cons, List.not_mem_nil, or_false] at hx
        rcases hx with rfl | rfl | rfl | rfl | rfl | rfl | rfl | rfl | rfl | rfl
        all_goals
          obtain ⟨u1, u2, e1, e2, h1, v1, v2, e3, e4, h2, q⟩ := fin _ rfl (.of (by decide +kernel))
          injection e1 with e1
          injection e2 with e2
          injection e3 with e3
          subst e1 e2 e3 e4
          exact ⟨_, _, rfl, rfl, h1, _, rfl, _, rfl, _, rfl, fo, rfl, fz, _, _, rfl, rfl, h2, q⟩
end
end K01
end
section
set_option maxRecDepth 100000
set_option maxHeartbeats 4000000
namespace Lw
open PySem PySem.Spec PyProof.Rows L2
theorem numL_uni (m : Nat) : ∀ c ∈ TL.numL m, c < 1114112 := fun c hc => by
  have := TL.numL_digits m c hc
  omega
theorem int_txt {n : Int} {k : Nat} (hk : 0 < k) (h : n.natAbs < 10 ^ k) : TxtOk (Str.ofString (toString n)) (k + 1) := by
  rcases Int.lt_or_le n 0 with c | c
  · obtain ⟨m, rfl⟩ : ∃ m : Nat, n = -(m : Int) := ⟨n.natAbs, by omega⟩
    have hm : m < 10 ^ k := by
      rw [Int.natAbs_neg, Int.natAbs_natCast] at h
      exact h
    have e : (Str.ofString (toString (-(m : Int)))).cps.toList = 45 :: TL.numL m := tl_neg (by omega)
    refine ⟨?_, ?_⟩
    · rw [e, List.length_cons]
      have := TL.numL_len hk hm
      omega
    · rw [e]
      intro c hc
      rcases List.mem_cons.mp hc with q | q
      · omega
      · exact numL_uni m c q
  · obtain ⟨m, rfl⟩ := Int.eq_ofNat_of_zero_le c
    have hm : m < 10 ^ k := by
      rw [Int.natAbs_natCast] at h
      exact h
    have e : (Str.ofString (toString (m : Int))).cps.toList = TL.numL m := TL.tl_num m
    refine ⟨?_, ?_⟩
    · rw [e]
      have := TL.numL_len hk hm
      omega
    · rw [e]
      exact numL_uni m
end Lw
namespace K01
open PySem PySem.Spec PyProof.Rows L2 Lw
abbrev sFigures : Stmt := top 23
abbrev nFigures : List Str := ["_law_pen_here", "_law_found", "_law_spot"]
theorem p29 : CPow 10 29 := ⟨by decide, by decide, by decide⟩
section
variable {P : Program} {w : World} {K : PySem.W.Frag} {mg : Str → Option Value} {base : Heap}
theorem scFigures : FnScope nFigures ["_law_pen_here"] (defScope sFigures) := ⟨rfl, rfl, rfl, by decide +kernel, rfl, by decide +kernel, by decide +kernel⟩
variable {f1 f2 : Addr} {g1 g2 : FuncData}
theorem ok_figures {f : Addr} {fd : FuncData} (F : Fun K "_law_figures" "_law_figures" sFigures f fd) (mStr : mg "str" = none) (mLen : mg "len" = none) (c1 : Cal P w K mg base "_law_draw" 1 ["_law_pen_here", "_law_many"] spDraw f1 g1) (c2 : Cal P w K mg base "_law_pick" 2 ["_law_pen_here", "_law_some"] spPick f2 g2) :
    FnOk P w K mg base CX0 3 f fd ["_law_pen_here"] (spText 20) := by
  refine F.ok scFigures (fun vs H Q E h => ?_) (fun cdv A outer s H vs Q E hr h => ?_)
  · obtain ⟨p, c, ns, i, r, rfl, _⟩ := h
    rfl
  · obtain ⟨p, c0, ns, i, r, rfl, D, hi, k⟩ := h
    have hr1 : Room 1 _ := hr.mono (by decide)
    refine ⟨_, pss_cons (ps_set (i := 1) scFigures.nd rfl (Or.inl rfl) (pe_callTy call_str_int (by rfl) mStr (by decide +kernel) (pa_cons (pe_call c2.ok hr rfl c2.gl c2.kp c2.bi .nil pass0 (pa_cons (pv 0) (pa_cons (pe_lstS (pa_cons pe_int (pa_cons pe_int (pa_cons (pe_un un_neg pe_int) (pa_cons pe_int (pa_cons pe_int (pa_cons (pe_op op_pow pe_int pe_int) (pa_cons (pe_un un_neg (pe_op op_pow pe_int pe_int)) (pa_cons (pe_call c1.ok hr1 rfl c1.gl c1.kp c1.bi .nil pass0 (pa_cons (pv 0) (pa_cons pe_int pa_nil))) pa_nil))))))))) pa_nil))) pa_nil)))
      (pss_cons (ps_set (i := 2) scFigures.nd rfl (Or.inl rfl) (pe_call c1.ok hr1 rfl c1.gl c1.kp c1.bi .nil pass0 (pa_cons (pv 0) (pa_cons (pe_op op_add (pe_callB call_len_str (by rfl) mLen PySem.boot_len (pa_cons (pv 1) pa_nil)) pe_int) pa_nil))))
      (pss_one (ps_ret (pe_op op_add_str (pe_op op_add_str (pe_slice sl_str (pv 1) po_none (po_some (pv 2))) (pe_call c2.ok hr rfl c2.gl c2.kp c2.bi .nil pass0 (pa_cons (pv 0) (pa_cons (pe_lstS (pa_cons pe_str (pa_cons pe_str (pa_cons pe_str (pa_cons pe_str (pa_cons pe_str (pa_cons pe_str (pa_cons pe_str (pa_cons pe_str (pa_cons pe_str (pa_cons pe_str (pa_cons pe_str pa_nil)))))))))))) pa_nil))))
        (pe_slice sl_str (pv 1) (po_some (pv 2)) po_none))))), ?_⟩
    rw [show L2.start nFigures [.ref p] = [some (.ref p), none, none] from rfl]
    refine ⟨_, rfl, _, rfl, _, _, rfl, rfl, p29, _, _, rfl, rfl, p29, _, rfl, _, rfl, p, c0, ns, i, r, 5000, rfl, D, by decide, by decide, by omega, fun d i1 r1 H1 d0 d8 a1 b1 D1 B1 => ?_⟩
    refine ⟨sz (by simp), fun l H2 n2 s2 g2 => ?_⟩
    have D2 := D1.keepS s2
    refine ⟨p, c0, l, ns, i1, r1, _, rfl, D2, by omega, g2, ne_of g2 D2.ob (by intro z; cases z), by simp, by simp, fun x i3 r3 H3 hx a3 b3 D3 B3 => ?_⟩
    have BB3 : But p H H3 := (B1.trans (But.same s2)).trans B3
    have main : ∃ n : Int, x = .int n ∧ n.natAbs < 10 ^ 40 := by
      simp only [List.mem_cons, List.not_mem_nil, or_false] at hx
      rcases hx with rfl | rfl | rfl | rfl | rfl | rfl | rfl | rfl
      · exact ⟨_, rfl, by decide⟩
      · exact ⟨_, rfl, by decide⟩
      · exact ⟨_, rfl, by decide⟩
      · exact ⟨_, rfl, by decide⟩
      · exact ⟨_, rfl, by decide⟩
      · exact ⟨_, rfl, by decide⟩
      · exact ⟨_, rfl, by decide⟩
      · refine ⟨_, rfl, ?_⟩
        have : d.natAbs < 5000 := by omega
        exact Nat.lt_trans this (by decide)
    obtain ⟨n, rfl, hn⟩ := main
    have jo2 : TxtOk (Str.ofString (toString n)) 41 := int_txt (by decide) hn
    have lg : n.natAbs.log2 < 1920 := by
      by_cases n0 : n.natAbs = 0
      · rw [n0]
        decide
      · refine (Nat.log2_lt n0).mpr ?_
        exact Nat.lt_of_lt_of_le hn (by decide +kernel)
    refine ⟨n, rfl, lg, ?_⟩
    revert jo2
    generalize Str.ofString (toString n) = fo
    intro jo2
    dsimp only [gName, List.set]
    have fl : fo.length ≤ 41 := jo2.str
    have fz : fo.length ≤ sizeLine := Nat.le_trans fl (by decide)
    refine ⟨_, rfl, _, rfl, fo, rfl, fz, _, _, rfl, rfl, p, c0, ns, i3, r3, _, rfl, D3, by omega, by omega, by omega, fun sp i5 r5 H5 sp0 sp1 a5 b5 D5 B5 => ?_⟩
    dsimp only [gName, List.set]
    refine ⟨_, rfl, _, rfl, _, rfl, fo, rfl, fz, _, rfl, sz (by simp), fun l6 H6 n6 s6 g6 => ?_⟩
    have D6 := D5.keepS s6
    refine ⟨p, c0, l6, ns, i5, r5, _, rfl, D6, by omega, g6, ne_of g6 D6.ob (by intro z; cases z), by simp, by simp, fun x i7 r7 H7 hx7 a7 b7 D7 B7 => ?_⟩
    have BB : But p H H7 := ((BB3.trans B5).trans (But.same s6)).trans B7
    have c1 := jo2.cut none (some sp)
    have c2 := jo2.cut (some sp) none
    have h1 := c1.str
    have h2 := c2.str
    have fin : ∀ y : Str, x = .str y → TxtOk y 1 → ∃ y : Str, x = .str y ∧ (cutS fo none (some sp)).length + y.length ≤ sizeLine ∧ (cutS fo none (some sp) ++ y).length + (cutS fo (some sp) none).length ≤ sizeLine ∧ Q (.str ((cutS fo none (some sp) ++ y) ++ cutS fo (some sp) none)) H7 := by
      rintro y rfl hy
      have c3 := c1.app hy
      have c4 := c3.app c2
      have h3 := hy.str
      have h4 := c3.str
      exact ⟨y, rfl, Nat.le_trans (m := 500) (by omega) (by decide), Nat.le_trans (m := 500) (by omega) (by decide), k _ i7 r7 H7 (c4.mono (by decide)) (by omega) (by omega) D7 BB⟩
    simp only [List.mem_cons, List.not_mem_nil, or_false] at hx7
    rcases hx7 with rfl | rfl | rfl | rfl | rfl | rfl | rfl | rfl | rfl | rfl | rfl
    all_goals
      obtain ⟨y, e1, h5, h6, q⟩ := fin _ rfl (.of (by decide +kernel))
      injection e1 with e1
      subst e1
      exact ⟨_, _, rfl, rfl, h5, _, rfl, _, rfl, _, rfl, fo, rfl, fz, _, _, rfl, rfl, h6, q⟩
end
end K01
end
section
set_option maxRecDepth 100000
set_option maxHeartbeats 4000000
namespace Lw
open PySem PySem.Spec PyProof.Rows L2
structure Kn3 (K : PySem.W.Frag) (H : Hp) (v : V) (d : PyData) : Prop where
  ex : ∃ t, TyX K H v t ∧ PySem.W.kitOne K t (.type "tuple") = some (tupD d) ∧ PySem.W.kitOne K t (.type "list") = some (lstD d) ∧ PySem.W.kitOne K t (.type "dict") = some (dicD d)
theorem Kn3.of {K : PySem.W.Frag} {H : Hp} {v : V} {d : PyData} (h : Da K H v d) : Kn3 K H v d := by
  cases h with
  | non => exact ⟨_, .base .non, kit_ty (by kernel_rfl), kit_ty (by kernel_rfl), kit_ty (by kernel_rfl)⟩
  | bl b => exact ⟨_, .base (.bl b), kit_ty (by kernel_rfl), kit_ty (by kernel_rfl), kit_ty (by kernel_rfl)⟩
  | int i => exact ⟨_, .base (.int i), kit_ty (by kernel_rfl), kit_ty (by kernel_rfl), kit_ty (by kernel_rfl)⟩
  | str z => exact ⟨_, .base (.str z), kit_ty (by kernel_rfl), kit_ty (by kernel_rfl), kit_ty (by kernel_rfl)⟩
  | lst e _ => exact ⟨_, .base (.lst e), kit_ty (by kernel_rfl), kit_ty (by kernel_rfl), kit_ty (by kernel_rfl)⟩
  | tup e _ => exact ⟨_, .base (.tup e), kit_ty (by kernel_rfl), kit_ty (by kernel_rfl), kit_ty (by kernel_rfl)⟩
  | dic e _ => exact ⟨_, .base (.dK e), kit_ty (by kernel_rfl), kit_ty (by kernel_rfl), kit_ty (by kernel_rfl)⟩
theorem kn3_at {K : PySem.W.Frag} {H H' : Hp} {v : V} {d : PyData} (h : Da K H v d) (s : Same H H') : Kn3 K H' v d := .of (h.keep s)
theorem any_two {K : PySem.W.Frag} {t c e : Value} {a b : Bool} (h1 : PySem.W.kitOne K t c = some a) (h2 : PySem.W.kitOne K t e = some b) : PySem.W.kitAny K t [c, e] = some (a || b) := by
  refine kitAny_cons h1 (fun z => ?_) (fun z => by rw [z]; rfl)
  rw [z]
  exact kitAny_cons h2 (fun y => by rw [y]; exact kitAny_nil) (fun y => by rw [y]; rfl)
structure TxtL (mg : Str → Option Value) : Prop where
  tup : mg "tuple" = none
  lst : mg "list" = none
  dic : mg "dict" = none
theorem DaAll.get {K : PySem.W.Frag} {H : Hp} : ∀ {vs : List V} {ds : List PyData} {i : Nat} {v : V}, DaAll K H vs ds → ds.all pdS = true → vs[i]? = some v → ∃ d, Da K H v d ∧ pdS d = true := by
  intro vs ds i v h
  induction vs generalizing ds i with
  | nil =>
    intro _ z
    simp at z
  | cons x t ih =>
    intro al z
    cases h with
    | cons h1 h2 =>
      simp only [List.all_cons, Bool.and_eq_true] at al
      cases i with
      | zero =>
        simp only [List.getElem?_cons_zero, Option.some.injEq] at z
        subst z
        exact ⟨_, h1, al.1⟩
      | succ j => exact ih h2 al.2 (by simpa using z)
end Lw
namespace K01
open PySem PySem.Spec PyProof.Rows L2 Lw
abbrev sIsl : Stmt := top 12
abbrev sLas : Stmt := top 13
def spIL (K : PySem.W.Frag) (b : Bool) : Sp := fun vs H Q _ => ∃ v d, vs = [v] ∧ Da K H v d ∧ okD b d = true ∧ ∀ x H2, Same H H2 → (pdS d = true → x = true) → Q (.bl x) H2
def spLa (K : PySem.W.Frag) (b : Bool) : Sp := fun vs H Q _ => ∃ v d, vs = [v] ∧ Da K H v d ∧ okD b d = true ∧ ∀ x H2, Same H H2 → (pdS d = true → x = v) → Q x H2
theorem sc_kind {d : PyData} (h : pdS d = true) : tupD d = false ∧ lstD d = false ∧ dicD d = false := by
  cases d <;> simp_all [pdS, tupD, lstD, dicD]
section
variable {P : Program} {w : World} {K : PySem.W.Frag} {mg : Str → Option Value} {base : Heap} {f : Addr} {fd : FuncData}
theorem scIsl : FnScope ["value", "part"] ["value"] (defScope sIsl) := ⟨rfl, rfl, rfl, by decide +kernel, rfl, by decide +kernel, by decide +kernel⟩
theorem isl_step {k : Nat} {b : Bool} {sp : Sp} (F : Fun K "is_lasting" "is_lasting" sIsl f fd) (T : TxtC mg) (L : TxtL mg) (c : Cal P w K mg base "is_lasting" k ["value"] sp f fd)
    (hs : b = true → ∀ v H Q, spIL K false [v] H Q E0 → sp [v] H Q E0) : FnOk P w K mg base CX0 (k + 1) f fd ["value"] (spIL K b) := by
  refine F.ok scIsl (fun vs H Q E h => ?_) (fun cdv A outer s H vs Q E hr h => ?_)
  · obtain ⟨v, d, rfl, _⟩ := h
    rfl
  · obtain ⟨v, d, rfl, da, ok, q⟩ := h
    obtain ⟨t, ty, kt, _, _⟩ := (Kn3.of da).ex
    refine ⟨_, pss_cons (ps_if (pt_val (pe_callB call_isi (by rfl) T.isi (by decide +kernel) (pa_cons (pv 0) (pa_cons (pe_bltn (v := .ty "tuple") (by rfl) L.tup (by decide +kernel) rfl) pa_nil))))
        (pss_one (ps_ret (pe_callB (cr_all rfl) (by rfl) T.all (by decide +kernel) (pa_cons (pe_lc (own := [("part", 1)]) (g := gName 1) (tt := tYes) (te := tCall sp [] E0 (tCons (tVar 1) tNil))
          rfl scIsl.nd (pi_tup (pv 0)) (blkOk_by (N := ["value", "part"]) (sc := defScope sIsl) (own := [("part", 1)]) (by decide +kernel)) (fun _ _ _ _ _ => pg_name (i := 1) scIsl.nd rfl (Or.inl rfl)) (fun _ _ _ _ _ => pts_nil)
          (fun _ _ _ _ _ => pe_call c.ok hr rfl c.gl c.kp c.bi .nil pass0 (pa_cons (pv 1) pa_nil))) pa_nil)))) pss_nil)
      (pss_one (ps_ret (pe_not (pe_callB call_isiT (by rfl) T.isi (by decide +kernel) (pa_cons (pv 0) (pa_cons (pe_tupS (pa_cons (pe_bltn (v := .ty "list") (by rfl) L.lst (by decide +kernel) rfl) (pa_cons (pe_bltn (v := .ty "dict") (by rfl) L.dic (by decide +kernel) rfl) pa_nil))) pa_nil)))))), ?_⟩
    rw [show L2.start ["value", "part"] [v] = [some v, none] from rfl]
    refine ⟨_, rfl, v, .ty "tuple", t, _, _, rfl, ClsV.ty "tuple", ty, kt, _, rfl, ?_⟩
    cases e : tupD d with
    | false =>
      refine iteF ?_
      refine ⟨_, rfl, sz (by simp), fun l H2 n2 s2 g2 => ?_⟩
      obtain ⟨t2, ty2, _, kl2, kd2⟩ := (kn3_at da s2).ex
      refine ⟨v, l, _, t2, _, _, rfl, g2, .cons (ClsV.ty "list") (.cons (ClsV.ty "dict") .nil), ty2, any_two kl2 kd2, _, rfl, ?_⟩
      refine q _ H2 s2 fun sc => ?_
      obtain ⟨_, z1, z2⟩ := sc_kind sc
      rw [z1, z2]
      rfl
    | true =>
      refine iteT ?_
      cases da with
      | @tup a xs ds ea dall =>
        cases b with
        | false => cases (show false = true from ok)
        | true =>
          simp only [okD, cond_true, flD, Bool.and_eq_true, decide_eq_true_eq] at ok
          obtain ⟨al, ln⟩ := ok
          have lx : xs.length ≤ 1 := by
            rw [dall.length]
            exact ln
          refine ⟨_, rfl, a, rfl, ⟨xs, SqT.of ea⟩, fun D hD => lc_it walk_tup (fun i H' => Same H H' ∧ ∃ bs : List Bool, bs.length = i ∧ H' D = some (.lst (bs.map V.bl))) ⟨Same.new hD, [], rfl, upd_same⟩ (fun i H' _ p => SqT.of (p.1 _ _ ea)) ?_ ?_⟩
          · rintro i x H' H2 hi ⟨q1, bs, lb, q2⟩ ⟨rfl, hx⟩
            obtain ⟨dx, dax, scx⟩ := dall.get al hx
            refine ⟨rfl, yes_if ?_⟩
            refine ⟨_, rfl, ?_⟩
            refine hs rfl _ _ _ ⟨x, dx, rfl, dax.keep q1, scx, fun y H3 s3 _ => ?_⟩
            refine ⟨_, s3 _ _ q2, ?_, fun b o e => ?_, bs ++ [y], by simp [lb], ?_⟩
            · rw [List.length_map, lb]
              exact Nat.lt_of_lt_of_le hi (Nat.le_trans lx (by decide))
            · rw [upd_ne (ne_of_none e hD)]
              exact s3 _ _ (q1 b o e)
            · rw [upd_same, List.map_append]
              rfl
          · rintro H' ⟨q1, bs, lb, q2⟩
            exact ⟨_, bs, rfl, SqL.of q2, q _ H' q1 fun z => by cases z⟩
      | _ => cases e
abbrev nLas : List Str := ["value", "parts", "key", "part"]
theorem scLas : FnScope nLas ["value"] (defScope sLas) := ⟨rfl, rfl, rfl, by decide +kernel, rfl, by decide +kernel, by decide +kernel⟩
theorem ok_fl {b : Bool} {d : PyData} (h : okD b d = true) : okD true d = true := by
  cases b with
  | true => exact h
  | false => cases d <;> simp_all [okD, pdS, flD]
theorem dc_end {H H' : Hp} {a : Addr} {od : Obj} {u : HO} (e : H a = some u) (b : ∀ c o, c ≠ a → H c = some o → H' c = some o) : Same H (upd H' a u) := fun c o z => by
  by_cases n : c = a
  · subst n
    rw [e] at z
    cases z
    exact upd_same
  · rw [upd_ne n]
    exact b c o n z
theorem las_step {k : Nat} {b : Bool} {sp : Sp} {f1 : Addr} {g1 : FuncData} (F : Fun K "lasting" "lasting" sLas f fd) (T : TxtC mg) (L : TxtL mg) (h2 : 2 ≤ k) (c : Cal P w K mg base "lasting" k ["value"] sp f fd) (c1 : Cal P w K mg base "is_lasting" 2 ["value"] (spIL K true) f1 g1)
    (hs : b = true → ∀ v H Q, spLa K false [v] H Q E0 → sp [v] H Q E0) : FnOk P w K mg base CX0 (k + 1) f fd ["value"] (spLa K b) := by
  refine F.ok scLas (fun vs H Q E h => ?_) (fun cdv A outer s H vs Q E hr h => ?_)
  · obtain ⟨v, d, rfl, _⟩ := h
    rfl
  · obtain ⟨v, d, rfl, da, ok, q⟩ := h
    have hr2 : Room 2 _ := hr.mono h2
    refine ⟨_, pss_cons (ps_if (pt_val (pe_call c1.ok hr2 rfl c1.gl c1.kp c1.bi .nil pass0 (pa_cons (pv 0) pa_nil))) (pss_one (ps_ret (pv 0))) pss_nil)
      (pss_cons (ps_if (pt_val (pe_callB call_isi (by rfl) T.isi (by decide +kernel) (pa_cons (pv 0) (pa_cons (pe_bltn (v := .ty "dict") (by rfl) L.dic (by decide +kernel) rfl) pa_nil))))
        (pss_one (ps_ret (pe_lock (pe_dc (own := [("key", 2)]) (g := gName 2) (tt := tYes) (tk := tVar 2) (tv := tCall sp [] E0 (tCons (tDGet (tVar 0) (tVar 2)) tNil))
          rfl scLas.nd (pi_keys (pv 0)) (blkOk_by (N := nLas) (sc := defScope sLas) (own := [("key", 2)]) (by decide +kernel)) (fun _ _ _ _ _ => pg_name (i := 2) scLas.nd rfl (Or.inl rfl)) (fun _ _ _ _ _ => pts_nil) (fun _ _ _ _ _ => pv 2)
          (fun _ _ _ _ _ => pe_call c.ok hr rfl c.gl c.kp c.bi .nil pass0 (pa_cons (pe_dget (Nat.lt_of_le_of_lt (Nat.add_le_add_left (by decide) _) hr.units) (pv 0) (pv 2) (fun _ _ => rfl)) pa_nil)))))) pss_nil)
      (pss_cons (ps_setLc (i := 1) (own := [("part", 3)]) (g := gName 3) (tt := tYes) (te := tCall sp [] E0 (tCons (tVar 3) tNil)) rfl scLas.nd rfl rfl (sw_true rfl rfl rfl (by decide +kernel)) (pi_or (pi_list (pv 0)) (pi_tup (pv 0)))
        (blkOk_by (N := nLas) (sc := defScope sLas) (own := [("part", 3)]) (by decide +kernel)) (fun _ _ _ _ _ => pg_name (i := 3) scLas.nd rfl (Or.inl rfl)) (fun _ _ _ _ _ => pts_nil)
        (fun _ _ _ _ _ => pe_call c.ok hr rfl c.gl c.kp c.bi .nil pass0 (pa_cons (pv 3) pa_nil)))
      (pss_one (ps_ret (pe_ifExp (pt_val (pe_callB call_isi (by rfl) T.isi (by decide +kernel) (pa_cons (pv 0) (pa_cons (pe_bltn (v := .ty "tuple") (by rfl) L.tup (by decide +kernel) rfl) pa_nil))))
        (pe_callTy call_tuple_of (by rfl) L.tup (by decide +kernel) (pa_cons (pv 1) pa_nil)) (pv 1)))))), ?_⟩
    rw [show L2.start nLas [v] = [some v, none, none, none] from rfl]
    refine ⟨_, rfl, v, d, rfl, da, ok_fl ok, fun x H1 s1 hx => ⟨_, rfl, ?_⟩⟩
    cases x with
    | true => exact iteT ⟨_, rfl, q v H1 s1 fun _ => rfl⟩
    | false =>
      refine iteF ?_
      have ns : pdS d = false := by
        cases e : pdS d with
        | false => rfl
        | true => exact absurd (hx e) (by decide)
      have q2 : ∀ x H2, Same H H2 → Q x H2 := fun x H2 s2 => q x H2 s2 fun z => by rw [ns] at z; cases z
      have bt : b = true := by
        cases b with
        | true => rfl
        | false => exact absurd (show pdS d = true from ok) (by rw [ns]; decide)
      subst bt
      have hs := hs rfl
      have ok : flD d = true := ok
      have da1 := da.keep s1
      obtain ⟨t, ty, kt, kl, kd⟩ := (Kn3.of da1).ex
      refine ⟨_, rfl, v, .ty "dict", t, _, _, rfl, ClsV.ty "dict", ty, kd, _, rfl, ?_⟩
      cases da1 with
      | @dic a kvs ds ea dall =>
        refine iteT ?_
        have al : ds.all pdS = true ∧ kvs.length ≤ 1 := by
          have hl : (kvs.map fun p => keyD p.1).length = ds.length := by
            rw [List.length_map, ← dall.length, List.length_map]
          have hz : ((kvs.map fun p => keyD p.1).zip ds).length = kvs.length := by
            rw [List.length_zip, ← hl, List.length_map]
            omega
          simp only [flD, Bool.and_eq_true, decide_eq_true_eq, zip_snd hl, hz] at ok
          exact ok
        refine ⟨a, _, ea, trivial, fun od => ?_⟩
        refine ⟨_, rfl, a, od, rfl, .inl ⟨kvs, upd_same, fun D hD => ?_⟩⟩
        have aD : a ≠ D := fun z => by
          rw [← z, upd_same] at hD
          cases hD
        refine dc_turns walk_keys (fun i H' => H' a = some (.frz od (.dK kvs)) ∧ (∀ c o, c ≠ a → H1 c = some o → H' c = some o) ∧ ∃ ks : List (Key × V), ks.length ≤ i ∧ H' D = some (.dK ks)) ⟨?_, ?_, [], Nat.le_refl _, upd_same⟩ (fun i H' _ p => p.1) ?_ ?_
        · rw [upd_ne aD]
          exact upd_same
        · intro c o n e
          have nD : c ≠ D := fun z => by
            rw [← z, upd_ne n, e] at hD
            cases hD
          rw [upd_ne nD, upd_ne n]
          exact e
        · rintro i x H2 H3 hi ⟨q1, q3, ks, lk, gk⟩ ⟨rfl, ky, vy, hk, rfl⟩
          refine ⟨rfl, yes_if ?_⟩
          have one : kvs = [(ky, vy)] := by
            match kvs, al.2, hk with
            | [p], _, hk =>
              cases i with
              | zero =>
                simp only [List.getElem?_cons_zero, Option.some.injEq] at hk
                rw [hk]
              | succ j => simp at hk
            | [], _, hk => simp at hk
            | _ :: _ :: _, l, _ => exact absurd l (by simp)
          subst one
          obtain ⟨dx, dax, scx⟩ := dall.get (i := 0) al.1 rfl
          have dv : Da K H3 vy dx := by
            cases dax with
            | non => exact .non
            | bl b => exact .bl b
            | int i => exact .int i
            | str z => exact .str z
            | _ => cases scx
          refine ⟨_, rfl, _, rfl, _, rfl, a, vy, rfl, .inl ⟨_, ky, .inr ⟨od, q1⟩, rfl, ?_⟩, ?_⟩
          · simp [valV]
          · refine hs _ _ _ ⟨vy, dx, rfl, dv, scx, fun y H4 s4 _ => ?_⟩
            refine ⟨ks, ky, rfl, s4 _ _ gk, ?_, ?_, fun c o n e => ?_, putK ks ky y, ?_, upd_same⟩
            · have : i < 1 := hi
              exact Nat.lt_of_le_of_lt (Nat.le_trans lk (by omega : i ≤ 1)) (by decide)
            · rw [upd_ne aD]
              exact s4 _ _ q1
            · have nD : c ≠ D := fun z => by
                rw [← z, upd_ne n, e] at hD
                cases hD
              rw [upd_ne nD]
              exact s4 _ _ (q3 c o n e)
            · have := length_putK ks ky y
              omega
        · rintro H2 ⟨q1, q3, _⟩
          exact ⟨q1, q2 _ _ (s1.trans (dc_end (od := od) ea q3))⟩
      | @lst a xs ds ea dall =>
        refine iteF ?_
        simp only [flD, Bool.and_eq_true, decide_eq_true_eq] at ok
        obtain ⟨al, ln⟩ := ok
        have lx : xs.length ≤ 1 := by
          rw [dall.length]
          exact ln
        refine .inl ⟨_, rfl, a, rfl, ⟨xs, SqL.of ea⟩, fun D hD => lc_it walk_list (fun i H' => Same H1 H' ∧ ∃ ys : List V, ys.length = i ∧ H' D = some (.lst ys)) ⟨Same.new hD, [], rfl, upd_same⟩ (fun i H' _ p => SqL.of (p.1 _ _ ea)) ?_ ?_⟩
        · rintro i x H2 H3 hi ⟨q1, ys, ly, gy⟩ ⟨rfl, hx⟩
          obtain ⟨dx, dax, scx⟩ := dall.get al hx
          refine ⟨rfl, yes_if ?_⟩
          refine ⟨_, rfl, ?_⟩
          refine hs _ _ _ ⟨x, dx, rfl, dax.keep q1, scx, fun y H4 s4 _ => ?_⟩
          refine ⟨_, s4 _ _ gy, ?_, fun b o e => ?_, ys ++ [y], by simp [ly], upd_same⟩
          · rw [ly]
            exact Nat.lt_of_lt_of_le hi (Nat.le_trans lx (by decide))
          · rw [upd_ne (ne_of_none e hD)]
            exact s4 _ _ (q1 b o e)
        · rintro H2 ⟨q1, ys, ly, gy⟩
          dsimp only [gName, List.set]
          obtain ⟨t2, ty2, kt2, _, _⟩ := (Kn3.of (Da.lst (K := K) (q1 _ _ ea) (dall.keep q1))).ex
          refine ⟨_, rfl, .ref a, .ty "tuple", t2, _, _, rfl, ClsV.ty "tuple", ty2, kt2, _, rfl, iteF ?_⟩
          exact ⟨_, rfl, q2 _ _ (s1.trans q1)⟩
      | @tup a xs ds ea dall =>
        refine iteF ?_
        simp only [flD, Bool.and_eq_true, decide_eq_true_eq] at ok
        obtain ⟨al, ln⟩ := ok
        have lx : xs.length ≤ 1 := by
          rw [dall.length]
          exact ln
        refine .inr ⟨_, rfl, a, rfl, ⟨xs, SqT.of ea⟩, fun D hD => lc_it walk_tup (fun i H' => Same H1 H' ∧ ∃ ys : List V, ys.length = i ∧ H' D = some (.lst ys)) ⟨Same.new hD, [], rfl, upd_same⟩ (fun i H' _ p => SqT.of (p.1 _ _ ea)) ?_ ?_⟩
        · rintro i x H2 H3 hi ⟨q1, ys, ly, gy⟩ ⟨rfl, hx⟩
          obtain ⟨dx, dax, scx⟩ := dall.get al hx
          refine ⟨rfl, yes_if ?_⟩
          refine ⟨_, rfl, ?_⟩
          refine hs _ _ _ ⟨x, dx, rfl, dax.keep q1, scx, fun y H4 s4 _ => ?_⟩
          refine ⟨_, s4 _ _ gy, ?_, fun b o e => ?_, ys ++ [y], by simp [ly], upd_same⟩
          · rw [ly]
            exact Nat.lt_of_lt_of_le hi (Nat.le_trans lx (by decide))
          · rw [upd_ne (ne_of_none e hD)]
            exact s4 _ _ (q1 b o e)
        · rintro H2 ⟨q1, ys, ly, gy⟩
          dsimp only [gName, List.set]
          obtain ⟨t2, ty2, kt2, _, _⟩ := (Kn3.of (Da.tup (K := K) (q1 _ _ ea) (dall.keep q1))).ex
          refine ⟨_, rfl, .ref a, .ty "tuple", t2, _, _, rfl, ClsV.ty "tuple", ty2, kt2, _, rfl, iteT ?_⟩
          refine ⟨_, rfl, D, ys, rfl, .inl ⟨SqL.of gy, fun l hl => q2 _ _ ?_⟩⟩
          exact (s1.trans q1).trans (Same.new hl)
      | _ => cases ns
end
end K01
end
section
set_option maxRecDepth 100000
set_option maxHeartbeats 4000000
namespace K01
open PySem PySem.Spec PyProof.Rows L2 Lw
abbrev sMv : Stmt := inClass (top 15) 0
abbrev sLk : Stmt := inClass (top 16) 0
abbrev sBo : Stmt := inClass (top 11) 0
abbrev sPapR : Stmt := top 28
abbrev nPapR : List Str := ["_law_thing_here", "_law_other", "_law_fine", "_law_wrong", "_law_told_so"]
/-- a new thing at a got its fields, all else stands -/
def spMv (K : PySem.W.Frag) (C : Addr) : Sp := fun vs H Q _ => ∃ a dx v d, vs = [.ref a, v] ∧ H a = some (.ins C dx []) ∧ Da K (delH H a) v d ∧ okD true d = true ∧ ∀ H2 fs, (∀ b o, b ≠ a → H b = some o → H2 b = some o) → H2 a = some (.ins C dx fs) → Q .non H2
def spLk (K : PySem.W.Frag) (C : Addr) : Sp := fun vs H Q _ => ∃ a dx v d u e, vs = [.ref a, v, u] ∧ H a = some (.ins C dx []) ∧ Da K (delH H a) v d ∧ okD true d = true ∧ Da K (delH H a) u e ∧ okD true e = true ∧
  ∀ H2 fs, (∀ b o, b ≠ a → H b = some o → H2 b = some o) → H2 a = some (.ins C dx fs) → Q .non H2
def spBo : Sp := fun vs H Q _ => ∃ v, vs = [v] ∧ Q (.bl false) H
structure OwnC (K : PySem.W.Frag) (C : Addr) : Prop where
  cls : Cls K C
  ca : PySem.W.findIn K (.ref C) "__class__" = some (some (.builtin "object.__class__"))
  hn : PySem.W.specialIn K (.builtin "object.__class__") "__get__" = some (some (.builtin "getset_descriptor.__get__"))
  ht : PySem.W.takesIn K (.builtin "object.__class__") = some true
  hm : PySem.W.mroIn K C (.type "object") = some true
structure PapF (K : PySem.W.Frag) (mg : Str → Option Value) (cP cD cM cL fM fL fB : Addr) : Prop where
  gP : mg "Paper" = some (.ref cP)
  gD : mg "Denial" = some (.ref cD)
  gM : mg "Moved" = some (.ref cM)
  gL : mg "Lacking" = some (.ref cL)
  oM : OwnC K cM
  oL : OwnC K cL
  mM : Mk K cM fM
  mL : Mk K cL fL
  MP : PySem.W.kitOne K (.ref cM) (.ref cP) = some true
  MD : PySem.W.kitOne K (.ref cM) (.ref cD) = some false
  ML : PySem.W.kitOne K (.ref cM) (.ref cL) = some false
  LP : PySem.W.kitOne K (.ref cL) (.ref cP) = some true
  LD : PySem.W.kitOne K (.ref cL) (.ref cD) = some true
  LM : PySem.W.kitOne K (.ref cL) (.ref cM) = some false
  nM : NoAttr K cM "moves"
  nI : NoAttr K cL "i"
  nJ : NoAttr K cL "j"
  bM : PySem.W.findIn K (.ref cM) "__bool__" = some none
  lM : PySem.W.findIn K (.ref cM) "__len__" = some none
  bL : PySem.W.findIn K (.ref cL) "__bool__" = some (some (.ref fB))
  fn : PySem.W.isFn K (.ref fB) = true
theorem del_to {H H2 : Hp} {a : Addr} (k : ∀ b u, b ≠ a → H b = some u → H2 b = some u) : Same (delH H a) H2 := fun b u e => by
  by_cases n : b = a
  · rw [n, delH_same] at e
    cases e
  · rw [delH_ne n] at e
    exact k b u n e
theorem del_made {H : Hp} {a dx : Addr} {o u : HO} (na : H a = none) (nd : H dx = none) : Same H (delH (upd (upd H dx u) a o) a) := fun b t e => by
  rw [delH_ne (ne_of_none e na), upd_ne (ne_of_none e na), upd_ne (ne_of_none e nd)]
  exact e
theorem off_same {H H2 : Hp} {a : Addr} {o : HO} (n : H a = none) (k : ∀ b u, b ≠ a → upd H a o b = some u → H2 b = some u) : Same H H2 := fun b u e => by
  have ne : b ≠ a := ne_of_none e n
  exact k b u ne (by rw [upd_ne ne]; exact e)
theorem keep_new {K : PySem.W.Frag} {H : Hp} {a dx : Addr} {o u : HO} (na : H a = none) (nd : H dx = none) (ne : dx ≠ a) : Same H (upd (upd H dx u) a o) := fun b t e => by
  rw [upd_ne (ne_of_none e na), upd_ne (ne_of_none e nd)]
  exact e
theorem made_same {H H2 : Hp} {a dx : Addr} {o u : HO} (na : H a = none) (nd : H dx = none) (ne : dx ≠ a) (k : ∀ b t, b ≠ a → upd (upd H dx u) a o b = some t → H2 b = some t) : Same H H2 := fun b t e =>
  k b t (ne_of_none e na) (by rw [upd_ne (ne_of_none e na), upd_ne (ne_of_none e nd)]; exact e)
section
variable {P : Program} {w : World} {K : PySem.W.Frag} {mg : Str → Option Value} {base : Heap} {f : Addr} {fd : FuncData} {f1 : Addr} {g1 : FuncData}
theorem scMv : FnScope ["self", "moves"] ["self", "moves"] (defScope sMv) := ⟨rfl, rfl, rfl, by decide +kernel, rfl, by decide +kernel, by decide +kernel⟩
theorem scLk : FnScope ["self", "i", "j"] ["self", "i", "j"] (defScope sLk) := ⟨rfl, rfl, rfl, by decide +kernel, rfl, by decide +kernel, by decide +kernel⟩
theorem scBo : FnScope ["self"] ["self"] (defScope sBo) := ⟨rfl, rfl, rfl, by decide +kernel, rfl, by decide +kernel, by decide +kernel⟩
theorem ok_mv {C : Addr} (F : Fun K "__init__" "Moved.__init__" sMv f fd) (cl : Cls K C) (no : NoAttr K C "moves") (c : Cal P w K mg base "lasting" 4 ["value"] (spLa K true) f1 g1) : FnOk P w K mg base CX0 5 f fd ["self", "moves"] (spMv K C) := by
  refine F.ok scMv (fun vs H Q E h => ?_) (fun cdv A outer s H vs Q E hr h => ?_)
  · obtain ⟨a, dx, v, d, rfl, _⟩ := h
    rfl
  · obtain ⟨a, dx, v, d, rfl, ha, da, fl, q⟩ := h
    refine ⟨_, pss_one (ps_fld (pv 0) (pe_call c.ok hr rfl c.gl c.kp c.bi .nil pass0 (pa_cons (pv 1) pa_nil)) rfl), ?_⟩
    refine ⟨_, rfl, v, d, rfl, da.keep (del_to fun _ _ _ z => z), fl, fun x H2 s2 _ => ?_⟩
    refine ⟨_, rfl, a, C, dx, [], rfl, s2 _ _ ha, cl, no, by decide, ?_⟩
    refine q _ _ (fun b o n e => ?_) upd_same
    rw [upd_ne n]
    exact s2 _ _ e
theorem ok_lk {C : Addr} (F : Fun K "__init__" "Lacking.__init__" sLk f fd) (cl : Cls K C) (ni : NoAttr K C "i") (nj : NoAttr K C "j") (c : Cal P w K mg base "lasting" 4 ["value"] (spLa K true) f1 g1) : FnOk P w K mg base CX0 5 f fd ["self", "i", "j"] (spLk K C) := by
  refine F.ok scLk (fun vs H Q E h => ?_) (fun cdv A outer s H vs Q E hr h => ?_)
  · obtain ⟨a, dx, v, d, u, e, rfl, _⟩ := h
    rfl
  · obtain ⟨a, dx, v, d, u, e, rfl, ha, da, fl, de, fe, q⟩ := h
    refine ⟨_, pss_cons (ps_fld (pv 0) (pe_call c.ok hr rfl c.gl c.kp c.bi .nil pass0 (pa_cons (pv 1) pa_nil)) rfl) (pss_one (ps_fld (pv 0) (pe_call c.ok hr rfl c.gl c.kp c.bi .nil pass0 (pa_cons (pv 2) pa_nil)) rfl)), ?_⟩
    refine ⟨_, rfl, v, d, rfl, da.keep (del_to fun _ _ _ z => z), fl, fun x H2 s2 _ => ?_⟩
    refine ⟨_, rfl, a, C, dx, [], rfl, s2 _ _ ha, cl, ni, by decide, ?_⟩
    -- u does not hold what is being made
    have de2 : Da K (upd H2 a (.ins C dx (putF "i" x []))) u e := de.keep (del_to fun b t n z => by
      rw [upd_ne n]
      exact s2 _ _ z)
    refine ⟨_, rfl, u, e, rfl, de2, fe, fun y H3 s3 _ => ?_⟩
    refine ⟨_, rfl, a, C, dx, _, rfl, s3 _ _ upd_same, cl, nj, by simp [putF], ?_⟩
    refine q _ _ (fun b o n e => ?_) upd_same
    rw [upd_ne n]
    refine s3 _ _ ?_
    rw [upd_ne n]
    exact s2 _ _ e
theorem ok_bo (F : Fun K "__bool__" "Denial.__bool__" sBo f fd) : FnOk P w K mg base CX0 1 f fd ["self"] spBo := by
  refine F.ok scBo (fun vs H Q E h => ?_) (fun cdv A outer s H vs Q E hr h => ?_)
  · obtain ⟨v, rfl, _⟩ := h
    rfl
  · obtain ⟨v, rfl, q⟩ := h
    exact ⟨_, pss_one (ps_ret pe_bl), q⟩
def spPapers (K : PySem.W.Frag) : Sp := fun vs H Q _ => ∃ v u d e, vs = [v, u] ∧ Da K H v d ∧ okD true d = true ∧ Da K H u e ∧ okD true e = true ∧ ∀ H2, Same H H2 → Q (.bl true) H2
theorem scPapR : FnScope nPapR ["_law_thing_here", "_law_other"] (defScope sPapR) := ⟨rfl, rfl, rfl, by decide +kernel, rfl, by decide +kernel, by decide +kernel⟩
theorem dp_bools {H : Hp} : ∀ bs : List Bool, DpAll K H (bs.map V.bl) (bs.map PyData.bool)
  | [] => .nil
  | b :: t => .cons (.bl b) (dp_bools t)
theorem TyX.own {H : Hp} {C a dx : Addr} {fs : List (Str × V)} (o : OwnC K C) (e : H a = some (.ins C dx fs)) : TyX K H (.ref a) (.ref C) := .base (.ins e o.cls o.ca o.hn o.ht o.hm)
theorem ok_papr {cP cD cM cL fM fL fB : Addr} {gM gL gB : FuncData} (F : Fun K "_law_papers_right" "_law_papers_right" sPapR f fd) (T : TxtC mg) (X : PapF K mg cP cD cM cL fM fL fB)
    (FM : FnOk P w K mg base CX0 5 fM gM ["self", "moves"] (spMv K cM)) (bM : Binds K gM ["self", "moves"] []) (FL : FnOk P w K mg base CX0 5 fL gL ["self", "i", "j"] (spLk K cL)) (bL : Binds K gL ["self", "i", "j"] [])
    (FB : FnOk P w K mg base CX0 1 fB gB ["self"] spBo) (bB : Binds K gB ["self"] []) : FnOk P w K mg base CX0 7 f fd ["_law_thing_here", "_law_other"] (spPapers K) := by
  have RB : FnR P w K mg base CX0 1 fB spBo := (FB.raw bB .nil).imp fun vs H Q E q => by rw [List.append_nil]; exact q
  refine F.ok scPapR (fun vs H Q E h => ?_) (fun cdv A outer s H vs Q E hr h => ?_)
  · obtain ⟨v, u, d, e, rfl, _⟩ := h
    rfl
  · obtain ⟨v, u, d, e, rfl, da, fd1, de, fe, q⟩ := h
    have hr3 : Room 3 _ := hr.mono (by decide)
    refine ⟨_, pss_cons (ps_par (i := 2) (j := 3) rfl scPapR.nd rfl rfl (by decide) rfl rfl (pa_cons (pe_make X.mM FM hr rfl X.gM bM .nil pass0 (pa_cons (pv 0) pa_nil)) (pa_cons (pe_make X.mL FL hr rfl X.gL bL .nil pass0 (pa_cons (pv 0) (pa_cons (pv 1) pa_nil))) pa_nil)) rfl)
      (pss_cons (ps_set (i := 4) scPapR.nd rfl (Or.inl rfl) (pe_lstS (pa_cons (pe_callB call_isi (by rfl) T.isi (by decide +kernel) (pa_cons (pv 2) (pa_cons (pe_glob (v := .ref cP) (by rfl) X.gP rfl) pa_nil)))
        (pa_cons (pe_callB call_isi (by rfl) T.isi (by decide +kernel) (pa_cons (pv 2) (pa_cons (pe_glob (v := .ref cD) (by rfl) X.gD rfl) pa_nil)))
        (pa_cons (pe_callB call_isi (by rfl) T.isi (by decide +kernel) (pa_cons (pv 2) (pa_cons (pe_glob (v := .ref cL) (by rfl) X.gL rfl) pa_nil)))
        (pa_cons (pe_callTy (call_boolN X.bM X.lM) (by rfl) T.bool (by decide +kernel) (pa_cons (pv 2) pa_nil)) pa_nil))))))
      (pss_cons (ps_set (i := 4) scPapR.nd rfl (Or.inl rfl) (pe_op op_catS (pv 4) (pe_lstS (pa_cons (pe_callB call_isi (by rfl) T.isi (by decide +kernel) (pa_cons (pv 3) (pa_cons (pe_glob (v := .ref cP) (by rfl) X.gP rfl) pa_nil)))
        (pa_cons (pe_callB call_isi (by rfl) T.isi (by decide +kernel) (pa_cons (pv 3) (pa_cons (pe_glob (v := .ref cD) (by rfl) X.gD rfl) pa_nil)))
        (pa_cons (pe_callB call_isi (by rfl) T.isi (by decide +kernel) (pa_cons (pv 3) (pa_cons (pe_glob (v := .ref cM) (by rfl) X.gM rfl) pa_nil)))
        (pa_cons (pe_callTy (call_boolM X.bL X.fn RB hr3 pass0) (by rfl) T.bool (by decide +kernel) (pa_cons (pv 3) pa_nil)) pa_nil)))))))
      (pss_one (ps_ret (pe_cmpR (op_eqD hr.units) (pv 4) (pe_lstS (pa_cons pe_bl (pa_cons pe_bl (pa_cons pe_bl (pa_cons pe_bl (pa_cons pe_bl (pa_cons pe_bl (pa_cons pe_bl (pa_cons pe_bl pa_nil))))))))) (nomark _)))))), ?_⟩
    rw [show L2.start nPapR [v, u] = [some v, some u, none, none, none] from rfl]
    refine ⟨_, rfl, fun x1 d1 n1 m1 e1 => ?_⟩
    refine ⟨x1, d1, v, d, rfl, upd_same, da.keep (del_made n1 m1), fd1, fun H2 fs2 k2 g2 => ⟨rfl, ?_⟩⟩
    have s2 : Same H H2 := made_same n1 m1 e1 k2
    refine ⟨_, rfl, _, rfl, fun x2 d2 n2 m2 e2 => ?_⟩
    refine ⟨x2, d2, v, d, u, e, rfl, upd_same, (da.keep s2).keep (del_made n2 m2), fd1, (de.keep s2).keep (del_made n2 m2), fe, fun H3 fs3 k3 g3 => ⟨rfl, ?_⟩⟩
    have s3 : Same H2 H3 := made_same n2 m2 e2 k3
    refine ⟨_, _, rfl, ?_⟩
    dsimp only [List.set]
    have t1 : H3 x1 = some (.ins cM d1 fs2) := s3 _ _ g2
    have y1 := TyX.own X.oM t1
    have y2 := TyX.own X.oL g3
    refine ⟨_, rfl, .ref x1, .ref cP, _, _, _, rfl, ClsV.own cP, y1, X.MP, ?_⟩
    refine ⟨_, rfl, .ref x1, .ref cD, _, _, _, rfl, ClsV.own cD, y1, X.MD, ?_⟩
    refine ⟨_, rfl, .ref x1, .ref cL, _, _, _, rfl, ClsV.own cL, y1, X.ML, ?_⟩
    refine ⟨_, rfl, x1, d1, fs2, rfl, t1, ?_⟩
    refine ⟨sz (by simp), fun l H4 n4 s4 g4 => ?_⟩
    dsimp only [gName, List.set]
    have t2 := s4 _ _ g3
    have y3 := TyX.own X.oL t2
    refine ⟨_, rfl, _, rfl, .ref x2, .ref cP, _, _, _, rfl, ClsV.own cP, y3, X.LP, ?_⟩
    refine ⟨_, rfl, .ref x2, .ref cD, _, _, _, rfl, ClsV.own cD, y3, X.LD, ?_⟩
    refine ⟨_, rfl, .ref x2, .ref cM, _, _, _, rfl, ClsV.own cM, y3, X.LM, ?_⟩
    refine ⟨_, rfl, x2, d2, fs3, rfl, t2, ?_⟩
    refine ⟨_, rfl, false, rfl, ?_⟩
    refine ⟨sz (by simp), fun l5 H5 n5 s5 g5 => ?_⟩
    refine ⟨_, _, _, _, rfl, rfl, s5 _ _ g4, g5, sz (by simp), fun l6 H6 n6 s6 g6 => ?_⟩
    dsimp only [gName, List.set]
    refine ⟨_, rfl, sz (by simp), fun l7 H7 n7 s7 g7 => ?_⟩
    refine ⟨.list ([true, false, false, true, true, true, false, false].map PyData.bool), .list ([true, false, false, true, true, true, false, false].map PyData.bool), .lst (SqL.of (s7 _ _ g6)) (dp_bools [true, false, false, true, true, true, false, false]), .lst (SqL.of g7) (dp_bools [true, false, false, true, true, true, false, false]), by decide +kernel, by decide +kernel, ?_⟩
    refine q H7 ?_
    exact ((((s2.trans s3).trans s4).trans s5).trans s6).trans s7
end
end K01
end
section
set_option maxRecDepth 100000
/-! '9' * 900 and what int says of it. -/
set_option maxHeartbeats 4000000
open PySem PySem.Spec PyProof.Rows L2 Lw PySem.NumText
namespace Lw
theorem fold_signs (c : Nat) : ∀ (n : Nat) (acc : Array Nat), (List.foldl (fun x1 x2 => x1 ++ x2) acc (List.replicate n #[c])).toList = acc.toList ++ List.replicate n c
  | 0, acc => by simp
  | n + 1, acc => by
    rw [List.replicate_succ, List.foldl_cons, fold_signs c n]
    rw [Array.toList_append, List.append_assoc]
    rfl
theorem mul_sign (c n : Nat) (h : 2 ≤ n) : (Txt.mul ⟨#[c]⟩ (n : Int)).cps.toList = List.replicate n c := by
  unfold Txt.mul
  rw [if_neg (by omega), if_neg (by
    have : (⟨#[c]⟩ : Str).length = 1 := rfl
    rw [this]
    simp
    omega)]
  show (List.foldl (fun x1 x2 => x1 ++ x2) #[] (List.replicate (n : Int).toNat #[c])).toList = _
  rw [fold_signs]
  rfl
theorem t9 : (Txt.mul "9" 900).cps.toList = List.replicate 900 57 := by
  have e : ("9" : Str) = ⟨#[57]⟩ := by decide +kernel
  have i : (900 : Int) = ((900 : Nat) : Int) := rfl
  rw [e, i]
  exact mul_sign 57 900 (by decide)
theorem t0 : (Txt.mul "0" 900).cps.toList = List.replicate 900 48 := by
  have e : ("0" : Str) = ⟨#[48]⟩ := by decide +kernel
  have i : (900 : Int) = ((900 : Nat) : Int) := rfl
  rw [e, i]
  exact mul_sign 48 900 (by decide)
theorem len_list (z : Str) : z.length = z.cps.toList.length := (Array.length_toList).symm
theorem t1 : ("1" ++ Txt.mul "0" 900 : Str).cps.toList = 49 :: List.replicate 900 48 := by
  show (("1" : Str).cps ++ (Txt.mul "0" 900).cps).toList = _
  rw [Array.toList_append, t0]
  rfl
theorem v9 : digitsVal (List.replicate 900 57) = 10 ^ 900 - 1 := by decide +kernel
theorem v1 : digitsVal (49 :: List.replicate 900 48) = 10 ^ 900 := by decide +kernel
theorem n9 : PySem.intText? (Txt.mul "9" 900) = some ((10 ^ 900 - 1 : Nat) : Int) := by
  have e := intText_digits (x := Txt.mul "9" 900) (by rw [t9]; intro c hc; obtain ⟨_, rfl⟩ := List.mem_replicate.mp hc; decide) (by rw [t9]; intro q; cases q) (by rw [len_list, t9, List.length_replicate]; decide)
  rw [t9, v9] at e
  exact e
theorem n1 : PySem.intText? ("1" ++ Txt.mul "0" 900) = some ((10 ^ 900 : Nat) : Int) := by
  have e := intText_digits (x := "1" ++ Txt.mul "0" 900) (by
    rw [t1]
    intro c hc
    rcases List.mem_cons.mp hc with rfl | hc
    · decide
    · obtain ⟨_, rfl⟩ := List.mem_replicate.mp hc
      decide) (by rw [t1]; intro q; cases q) (by rw [len_list, t1]; simp)
  rw [t1, v1] at e
  exact e
theorem s9 : numS (Txt.mul "9" 900) = some ((10 ^ 900 - 1 : Nat) : Int) := by
  unfold numS
  rw [t9, show figL (List.replicate 900 57) = List.replicate 900 57 by decide +kernel, show ((List.replicate 900 57).head? == some 48) = false by decide +kernel, show (List.replicate 900 57).all digB = true by decide +kernel, List.length_replicate, Bool.false_and, if_pos (by decide)]
  exact n9
theorem s3 : numS "-3" = some (-3) := by decide +kernel
theorem m9 : MulOk "9" 900 := ⟨by decide, fun _ _ => by decide, fun _ _ => by decide +kernel⟩
theorem m0 : MulOk "0" 900 := ⟨by decide, fun _ _ => by decide, fun _ _ => by decide +kernel⟩
theorem d9 : ∀ c ∈ (Txt.mul "9" 900).cps.toList, c = 45 ∨ (48 ≤ c ∧ c ≤ 57) := by
  rw [t9]
  intro c hc
  obtain ⟨_, rfl⟩ := List.mem_replicate.mp hc
  decide
theorem d1 : ∀ c ∈ ("1" ++ Txt.mul "0" 900 : Str).cps.toList, c = 45 ∨ (48 ≤ c ∧ c ≤ 57) := by
  rw [t1]
  intro c hc
  rcases List.mem_cons.mp hc with rfl | hc
  · decide
  · obtain ⟨_, rfl⟩ := List.mem_replicate.mp hc
    decide
theorem l9 : (Txt.mul "9" 900).length = 900 := by rw [len_list, t9, List.length_replicate]
theorem l0 : (Txt.mul "0" 900).length = 900 := by rw [len_list, t0, List.length_replicate]
theorem l1 : ("1" ++ Txt.mul "0" 900 : Str).length = 901 := by rw [len_list, t1, List.length_cons, List.length_replicate]
theorem numV_str (z : Str) : numV (.str z) = numS z := rfl
theorem numIn_of {v : V} {lo hi N : Int} (h : numV v = some N) (a : lo ≤ N) (b : N ≤ hi) : K01.numIn v lo hi = some N := by
  unfold K01.numIn
  rw [h]
  exact if_pos ⟨a, b⟩
theorem in9 : K01.numIn (.str (Txt.mul "9" 900)) 0 ((10 ^ 900 : Nat) : Int) = some ((10 ^ 900 - 1 : Nat) : Int) := numIn_of ((numV_str _).trans s9) (Int.natCast_nonneg _) (Int.ofNat_le.mpr (Nat.sub_le _ _))
theorem z9_len (z : Str) (e : V.str (Txt.mul "9" 900) = V.str z) : z.length ≤ 100000 := by
  have e := V.str.inj e
  have h := l9
  rw [e] at h
  omega
end Lw
end
section
set_option maxRecDepth 100000
set_option maxHeartbeats 4000000
namespace K01
open PySem PySem.Spec PyProof.Rows L2 Lw
abbrev sLaw : Stmt := top 29
abbrev nLaw : List Str := ["_law_script", "_law_pen_here", "_law_lap", "_law_low", "_law_high", "_law_thing_here", "_law_told_so"]
structure CalG (P : Program) (w : World) (K : PySem.W.Frag) (mg : Str → Option Value) (base : Heap) (nm : Str) (k : Nat) (ps : List Str) (sp : Sp) (f : Addr) (fd : FuncData) : Prop where
  ok : FnG P w K mg base CX0 k f fd ps sp
  gl : mg nm = some (.ref f)
  kp : PySem.W.keepIn K (.ref f) = true
  bi : Binds K fd ps []
def gA : List Value → List Value → List Value := fun us ws => match us with
  | [] => ws
  | _ => []
def gB : List V → List V → List V := fun us ws => match us with
  | [] => ws
  | _ => []
def spLaw (K : PySem.W.Frag) : Sp := fun vs H Q _ => ∃ (a : Addr) (ns : List Int), vs = [.ref a] ∧ SqL K H a (ns.map V.int) ∧ ns.length ≤ 63 ∧ ∀ H', Q (.bl true) H'
theorem nF {c : Bool} {A B : Prop} (e : c = true) (h : B) : if (!c) = true then A else B := by
  rw [e]
  exact iteF h
theorem cutS_but {H H' : Hp} {p : Addr} (B : But p H H') : Same (delH H p) (delH H' p) := fun b o e => by
  by_cases n : b = p
  · rw [n, delH_same] at e
    cases e
  · rw [delH_ne n] at e ⊢
    exact B b o n e
theorem cutS_same {H : Hp} {p : Addr} : Same (delH H p) H := fun b o e => by
  by_cases n : b = p
  · rw [n, delH_same] at e
    cases e
  · rw [delH_ne n] at e
    exact e
theorem p30 : CPow 10 30 := ⟨by decide, by decide, by decide⟩
section
variable {P : Program} {w : World} {K : PySem.W.Frag} {mg : Str → Option Value} {base : Heap}
theorem scLaw : FnScope nLaw ["_law_script"] (defScope sLaw) := ⟨rfl, rfl, rfl, by decide +kernel, rfl, by decide +kernel, by decide +kernel⟩
variable {f1 f2 f3 f4 f5 f6 f7 f8 f9 f10 f11 f12 : Addr} {g1 g2 g3 g4 g5 g6 g7 g8 g9 g10 g11 g12 : FuncData}
theorem ok_law {f : Addr} {gd : FuncData} (F : Fun K "law" "law" sLaw f gd) (T : TxtC mg) (mR : mg "repr" = none) (mRg : mg "range" = none) (hS : ∃ m, base.Ns sysModules m) (hN : base.NoDigits)
    (c1 : Cal P w K mg base "_law_pen" 1 ["_law_script"] (spPen K) f1 g1) (c2 : Cal P w K mg base "_law_pick" 2 ["_law_pen_here", "_law_some"] spPick f2 g2) (c3 : Cal P w K mg base "_law_thing" 3 ["_law_pen_here"] (spThing K) f3 g3)
    (c4 : CalG P w K mg base "_law_right" 3 ["_law_thing_here", "_law_low", "_law_high"] (spRight K) f4 g4) (c5 : CalG P w K mg base "_law_page_right" 3 ["_law_page", "_law_low", "_law_high"] spPageR f5 g5)
    (c6 : Cal P w K mg base "_law_letters" 3 ["_law_pen_here"] (spText 20) f6 g6) (c7 : Cal P w K mg base "_law_figures" 3 ["_law_pen_here"] (spText 20) f7 g7) (c8 : Cal P w K mg base "_law_papers_right" 7 ["_law_thing_here", "_law_other"] (spPapers K) f8 g8)
    (c9 : Cal P w K mg base "is_name" 1 ["value"] (spName K) f9 g9) (c10 : Cal P w K mg base "number_of" 2 ["word", "least", "most"] (spNumOf K) f10 g10) (c11 : Cal P w K mg base "is_integer" 1 ["value"] (spIsInt K) f11 g11)
    (c12 : Cal P w K mg base "is_within" 2 ["value", "least", "most"] (spWithin K) f12 g12) {f13 : Addr} {g13 : FuncData} (c13 : Cal P w K mg base "is_amount" 2 ["value"] (spAmount K) f13 g13)
    (k9 : KBinds K g9 ["value"] ["value"] gA gB) (k10 : KBinds K g10 ["word", "least", "most"] ["word", "least", "most"] gA gB) (k11 : KBinds K g11 ["value"] ["value"] gA gB) (k12 : KBinds K g12 ["value", "least", "most"] ["value", "least", "most"] gA gB) (k13 : KBinds K g13 ["value"] ["value"] gA gB) :
    FnG P w K mg base CX0 8 f gd ["_law_script"] (spLaw K) := by
  refine okG F scLaw (fun vs H Q E h => ?_) (fun cdv A outer s H vs Q E hG hr h => ?_)
  · obtain ⟨a, ns, rfl, _⟩ := h
    rfl
  · obtain ⟨a, ns, rfl, hS0, hl, k⟩ := h
    have hr1 : Room 1 _ := hr.mono (by decide)
    have hr2 : Room 2 _ := hr.mono (by decide)
    have hr3 : Room 3 _ := hr.mono (by decide)
    refine ⟨_, pss_cons (ps_set (i := 1) scLaw.nd rfl (Or.inl rfl) (pe_call c1.ok hr1 rfl c1.gl c1.kp c1.bi .nil pass0 (pa_cons (pv 0) pa_nil)))
      (pss_cons (ps_for PassesOwn.never rfl (pi_range1 rfl mRg (pa_cons pe_int pa_nil)) (pg_name (i := 2) scLaw.nd rfl (Or.inl rfl))
        (pss_cons (ps_set (i := 3) scLaw.nd rfl (Or.inl rfl) (pe_call c2.ok hr2 rfl c2.gl c2.kp c2.bi .nil pass0 (pa_cons (pv 1) (pa_cons (pe_lstS (pa_cons (pe_un un_neg (pe_op op_pow pe_int pe_int)) (pa_cons (pe_un un_neg pe_int) (pa_cons (pe_un un_neg pe_int) (pa_cons pe_int (pa_cons pe_int (pa_cons pe_int pa_nil))))))) pa_nil))))
        (pss_cons (ps_set (i := 4) scLaw.nd rfl (Or.inl rfl) (pe_op op_add (pv 3) (pe_call c2.ok hr2 rfl c2.gl c2.kp c2.bi .nil pass0 (pa_cons (pv 1) (pa_cons (pe_lstS (pa_cons (pe_un un_neg pe_int) (pa_cons pe_int (pa_cons pe_int (pa_cons pe_int (pa_cons (pe_op op_pow pe_int pe_int) pa_nil)))))) pa_nil)))))
        (pss_cons (ps_set (i := 5) scLaw.nd rfl (Or.inl rfl) (pe_call c3.ok hr3 rfl c3.gl c3.kp c3.bi .nil pass0 (pa_cons (pv 1) pa_nil)))
        (pss_cons (ps_if (PW.pt (pw_or (pt_not (pt_val (pe_callG c4.ok hG hr3 rfl c4.gl c4.kp c4.bi .nil pass0 (pa_cons (pv 5) (pa_cons (pv 3) (pa_cons (pv 4) pa_nil)))))) (pw_or (pt_not (pt_val (pe_callG c4.ok hG hr3 rfl c4.gl c4.kp c4.bi .nil pass0 (pa_cons (pv 3) (pa_cons (pv 3) (pa_cons (pv 4) pa_nil))))))
            (pw_or1 (pt_not (pt_val (pe_callG c4.ok hG hr3 rfl c4.gl c4.kp c4.bi .nil pass0 (pa_cons (pv 4) (pa_cons (pv 3) (pa_cons (pv 4) pa_nil)))))))))) (pss_one (ps_ret pe_bl)) pss_nil)
        (pss_cons (ps_if (PW.pt (pw_or (pt_not (pt_val (pe_callG c5.ok hG hr3 rfl c5.gl c5.kp c5.bi .nil pass0 (pa_cons (pe_call c6.ok hr3 rfl c6.gl c6.kp c6.bi .nil pass0 (pa_cons (pv 1) pa_nil)) (pa_cons (pv 3) (pa_cons (pv 4) pa_nil))))))
            (pw_or1 (pt_not (pt_val (pe_callG c5.ok hG hr3 rfl c5.gl c5.kp c5.bi .nil pass0 (pa_cons (pe_call c7.ok hr3 rfl c7.gl c7.kp c7.bi .nil pass0 (pa_cons (pv 1) pa_nil)) (pa_cons (pv 3) (pa_cons (pv 4) pa_nil))))))))) (pss_one (ps_ret pe_bl)) pss_nil)
        (pss_cons (ps_if (pt_not (pt_val (pe_call c8.ok hr rfl c8.gl c8.kp c8.bi .nil pass0 (pa_cons (pv 5) (pa_cons (pv 3) pa_nil))))) (pss_one (ps_ret pe_bl)) pss_nil)
        (pss_one (ps_if (PW.pt (pw_and (pt_not (pt_val (pe_callB call_isi (by rfl) T.isi (by decide +kernel) (pa_cons (pv 5) (pa_cons (pe_bltn (v := .ty "str") (by rfl) T.str (by decide +kernel) rfl) pa_nil)))))
            (pw_and1 (pt_cmpR op_ne (pe_callB (call_repr hG hr.units hS) (by rfl) mR (by decide +kernel) (pa_cons (pe_lstS (pa_cons (pe_call c9.ok hr1 rfl c9.gl c9.kp c9.bi .nil pass0 (pa_cons (pv 5) pa_nil)) (pa_cons (pe_call c10.ok hr2 rfl c10.gl c10.kp c10.bi .nil pass0 (pa_cons (pv 5) (pa_cons (pv 3) (pa_cons (pv 4) pa_nil)))) pa_nil))) pa_nil))
              (pe_callB (call_repr hG hr.units hS) (by rfl) mR (by decide +kernel) (pa_cons (pe_lstS (pa_cons pe_bl (pa_cons pe_non pa_nil))) pa_nil)) (nomark _))))) (pss_one (ps_ret pe_bl)) pss_nil)))))))))
      (pss_cons (ps_set (i := 6) scLaw.nd rfl (Or.inl rfl) (pe_lstS (pa_cons (pe_callK0 c11.ok hr1 rfl c11.gl c11.kp k11 pass0 (pk_cons pe_int pk_nil)) (pa_cons (pe_callK0 c9.ok hr1 rfl c9.gl c9.kp k9 pass0 (pk_cons pe_str pk_nil)) (pa_cons (pe_callK0 c12.ok hr2 rfl c12.gl c12.kp k12 pass0 (pk_cons pe_int (pk_cons pe_int (pk_cons pe_int pk_nil)))) (pa_cons (pe_callK0 c13.ok hr2 rfl c13.gl c13.kp k13 pass0 (pk_cons pe_int pk_nil)) pa_nil))))))
      (pss_cons (ps_set (i := 6) scLaw.nd rfl (Or.inl rfl) (pe_op op_catS (pv 6) (pe_lstS (pa_cons (pe_callK0 c10.ok hr2 rfl c10.gl c10.kp k10 pass0 (pk_cons pe_str (pk_cons (pe_un un_neg pe_int) (pk_cons pe_int pk_nil))))
          (pa_cons (pe_call c10.ok hr2 rfl c10.gl c10.kp c10.bi .nil pass0 (pa_cons (pe_op op_mulS pe_str pe_int) (pa_cons pe_int (pa_cons (pe_callTy (call_intS hN) (by rfl) T.int (by decide +kernel) (pa_cons (pe_op op_add_str pe_str (pe_op op_mulS pe_str pe_int)) pa_nil)) pa_nil)))) pa_nil)))))
      (pss_one (ps_ret (pe_cmpR (op_eqD hr.units) (pv 6) (pe_lstS (pa_cons pe_bl (pa_cons pe_bl (pa_cons pe_bl (pa_cons pe_bl (pa_cons (pe_un un_neg pe_int) (pa_cons (pe_callTy (call_intS hN) (by rfl) T.int (by decide +kernel) (pa_cons (pe_op op_mulS pe_str pe_int) pa_nil)) pa_nil))))))) (nomark _))))))), ?_⟩
    rw [show L2.start nLaw [.ref a] = [some (.ref a), none, none, none, none, none, none] from rfl]
    refine ⟨_, rfl, a, ns, rfl, hS0, hl, fun p c H0 s0 D0 => ?_⟩
    dsimp only [gName, List.set]
    refine ⟨12, rfl, by decide, by decide, for_range (lo := 0) (n := 12) (fun t σ H' => ∃ (i r : Int) (x2 x3 x4 x5 : Option V), σ = [some (.ref a), some (.ref p), x2, x3, x4, x5, none] ∧ PenAt H' p c ns i r ∧ i ≤ 100 * (t : Int))
      ⟨0, 0, _, _, _, _, rfl, D0, by decide⟩ ?_ ?_⟩
    · rintro t σ H1 ht ⟨i, r, x2, x3, x4, x5, rfl, D1, hi⟩
      refine ⟨_, rfl, _, _, rfl, rfl, p29, _, rfl, _, rfl, _, rfl, sz (by simp), fun l H2 n2 s2 g2 => ?_⟩
      have D2 := D1.keepS s2
      refine ⟨p, c, l, ns, i, r, _, rfl, D2, by omega, g2, ne_of g2 D2.ob (by intro z; cases z), by simp, by simp, fun x i2 r2 H3 hx a2 b2 D3 B3 => ?_⟩
      obtain ⟨lo, rfl⟩ : ∃ lo, x = .int lo := by
        simp only [List.mem_cons, List.not_mem_nil, or_false] at hx
        rcases hx with rfl | rfl | rfl | rfl | rfl | rfl
        all_goals exact ⟨_, rfl⟩
      dsimp only [gName, List.set]
      refine ⟨_, rfl, _, rfl, _, rfl, _, _, rfl, rfl, p30, sz (by simp), fun l4 H4 n4 s4 g4 => ?_⟩
      have D4 := D3.keepS s4
      refine ⟨p, c, l4, ns, i2, r2, _, rfl, D4, by omega, g4, ne_of g4 D4.ob (by intro z; cases z), by simp, by simp, fun y i5 r5 H5 hy a5 b5 D5 B5 => ?_⟩
      obtain ⟨up, rfl⟩ : ∃ up, y = .int up := by
        simp only [List.mem_cons, List.not_mem_nil, or_false] at hy
        rcases hy with rfl | rfl | rfl | rfl | rfl
        all_goals exact ⟨_, rfl⟩
      refine ⟨_, _, rfl, rfl, ?_⟩
      dsimp only [gName, List.set]
      refine ⟨_, rfl, p, c, ns, i5, r5, rfl, D5, by omega, fun v d i6 r6 H6 da fl hz a6 b6 D6 B6 => ?_⟩
      dsimp only [gName, List.set]
      have kk : ∀ H7, Same H6 H7 → Knd K H7 v := fun H7 s7 => Knd.of_da ((da.keep cutS_same).keep s7)
      refine ⟨_, rfl, _, rfl, _, rfl, v, lo, lo + up, rfl, kk _ (Same.refl _), kk, fun H7 s7 => ⟨_, rfl, ?_⟩⟩
      refine nF rfl ?_
      refine ⟨_, rfl, _, rfl, _, rfl, .int lo, lo, lo + up, rfl, Knd.int _, (fun _ _ => Knd.int _), fun H8 s8 => ⟨_, rfl, ?_⟩⟩
      refine nF rfl ?_
      refine ⟨_, rfl, _, rfl, _, rfl, .int (lo + up), lo, lo + up, rfl, Knd.int _, (fun _ _ => Knd.int _), fun H9 s9 => ⟨_, rfl, ?_⟩⟩
      refine nF rfl ?_
      have S9 : Same H6 H9 := (s7.trans s8).trans s9
      have D9 := D6.keepS S9
      have da9 : Da K (delH H9 p) v d := da.keep (cutS_but (But.same S9))
      refine ⟨_, rfl, p, c, ns, i6, r6, rfl, D9, by omega, fun z i10 r10 H10 ok10 a10 b10 D10 B10 => ?_⟩
      refine ⟨_, rfl, _, rfl, z, lo, lo + up, rfl, ok10.str, ok10.uni, fun H11 s11 => ⟨_, rfl, ?_⟩⟩
      refine nF rfl ?_
      have D11 := D10.keepS s11
      refine ⟨_, rfl, p, c, ns, i10, r10, rfl, D11, by omega, fun z2 i12 r12 H12 ok12 a12 b12 D12 B12 => ?_⟩
      refine ⟨_, rfl, _, rfl, z2, lo, lo + up, rfl, ok12.str, ok12.uni, fun H13 s13 => ⟨_, rfl, ?_⟩⟩
      refine nF rfl ?_
      have D13 := D12.keepS s13
      have BB : But p H9 H13 := ((B10.trans (But.same s11)).trans B12).trans (But.same s13)
      have da13 : Da K H13 v d := (da9.keep (cutS_but BB)).keep cutS_same
      refine ⟨_, rfl, _, rfl, v, .int lo, d, .int lo, rfl, da13, fl, .int lo, rfl, fun H14 s14 => ⟨_, rfl, ?_⟩⟩
      refine nF rfl ?_
      have D14 := D13.keepS s14
      have da14 := da13.keep s14
      obtain ⟨t0, ty, q1, q2, q3⟩ := (Knd.of_da da14).ex
      refine ⟨_, rfl, v, .ty "str", t0, _, _, rfl, ClsV.ty "str", ty, q3, _, rfl, ?_⟩
      cases e : vStr v with
      | true => exact ⟨i12, r12, _, _, _, _, rfl, D14, by omega⟩
      | false =>
        have n0 : nameV v = false := by
          unfold nameV
          rw [strV_no e]
        have i0 : numIn v lo (lo + up) = none := by
          unfold numIn numV
          rw [strV_no e]
        refine ⟨_, rfl, v, rfl, Knd.of_da da14, hz, fun H15 s15 => ?_⟩
        refine ⟨_, rfl, _, rfl, _, rfl, v, lo, lo + up, rfl, Knd.of_da (da14.keep s15), (fun z ez => Nat.le_trans (hz z ez) (by decide)), fun H16 s16 => ?_⟩
        refine ⟨sz (by simp), fun l17 H17 n17 s17 g17 => ?_⟩
        rw [n0, i0] at g17
        refine ⟨.ref l17, .list [.bool false, .none], rfl, .lst g17 (.cons (.bl _) (.cons .non .nil)), by decide +kernel, by decide, by decide +kernel, ?_⟩
        refine ⟨sz (by simp), fun l18 H18 n18 s18 g18 => ?_⟩
        refine ⟨.ref l18, .list [.bool false, .none], rfl, .lst g18 (.cons (.bl _) (.cons .non .nil)), by decide +kernel, by decide, by decide +kernel, ?_⟩
        refine ⟨rfl, _, rfl, ?_⟩
        refine iteF ?_
        exact ⟨i12, r12, _, _, _, _, rfl, ((((D14.keepS s15).keepS s16).keepS s17).keepS s18), by omega⟩
    · rintro σ H1 ⟨i, r, x2, x3, x4, x5, rfl, D1, hi⟩
      dsimp only
      refine ⟨.int 3, rfl, Knd.int 3, .str "abcdefgh", rfl, Knd.str _, (by intro z e; injection e with e; rw [← e]; decide), fun H2 s2 => ⟨.int 5, 5, 5, rfl, Knd.int 5, .int 0, rfl, Knd.int 0, sz (by simp), fun l H3 n3 s3 g3 => ?_⟩⟩
      dsimp only [gName, List.set]
      refine ⟨_, rfl, 3, rfl, .str "-3", -3, 5, rfl, Knd.str _, (by intro z e; injection e with e; rw [← e]; decide), fun H4 s4 => ?_⟩
      refine ⟨"9", 900, rfl, rfl, m9, "0", 900, rfl, rfl, m0, "1", _, rfl, rfl, (by rw [l0]; decide), _, _, rfl, d1, n1, (by rw [l1]; decide), ?_⟩
      refine ⟨.str (Txt.mul "9" 900), 0, _, rfl, Knd.str _, z9_len, fun H5 s5 => ⟨sz (by simp), fun l6 H6 n6 s6 g6 => ?_⟩⟩
      refine ⟨_, _, _, _, rfl, rfl, ((s4.trans s5).trans s6) _ _ g3, g6, sz (by simp), fun l7 H7 n7 s7 g7 => ?_⟩
      dsimp only [gName, List.set]
      refine ⟨_, rfl, 3, rfl, "9", 900, rfl, rfl, m9, _, _, rfl, d9, n9, (by rw [l9]; decide), sz (by simp), fun l8 H8 n8 s8 g8 => ?_⟩
      have a1 : numIn (.str "-3") (-3) 5 = some (-3) := by decide +kernel
      have a2 := in9
      have a3 : nameV (.str "abcdefgh") = true := by decide +kernel
      rw [a1, a2, a3] at g7
      generalize ((10 ^ 900 - 1 : Nat) : Int) = N at g7 g8
      refine ⟨.list [.bool true, .bool true, .bool true, .bool true, .int (-3), .int N], .list [.bool true, .bool true, .bool true, .bool true, .int (-3), .int N],
        .lst (SqL.of (s8 _ _ g7)) (.cons (.bl _) (.cons (.bl _) (.cons (.bl _) (.cons (.bl _) (.cons (.int _) (.cons (.int _) .nil)))))),
        .lst (SqL.of g8) (.cons (.bl _) (.cons (.bl _) (.cons (.bl _) (.cons (.bl _) (.cons (.int _) (.cons (.int _) .nil)))))), rfl, rfl, ?_⟩
      have same : PyData.eqv (.list [.bool true, .bool true, .bool true, .bool true, .int (-3), .int N]) (.list [.bool true, .bool true, .bool true, .bool true, .int (-3), .int N]) = true := by
        simp [PyData.eqv, PyData.eqvAll]
      rw [same]
      exact k H8
end
end K01
end
section
set_option maxRecDepth 100000
set_option maxHeartbeats 4000000
/-! What the top has written, at the places where it stands. -/
namespace K01
open PySem PySem.Spec PyProof.Rows L2 Lw
/-- the data of the def that stands there -/
def fdAt (K : PySem.W.Frag) (a : Addr) : FuncData := match K.lookup a with
  | some o => (match o.data with
    | .func g => g
    | _ => PySem.W.fnOf "" "" ⟨[], [], none, [], [], none, []⟩ [] ⟨.function, [], false, false, []⟩ .none .none .none .none none .none .none)
  | none => PySem.W.fnOf "" "" ⟨[], [], none, [], [], none, []⟩ [] ⟨.function, [], false, false, []⟩ .none .none .none .none none .none .none
theorem fun_at {K : PySem.W.Frag} {x qual : Str} {st : Stmt} {f : Addr} {oc : Value} {od an : Option Addr} {osl : Array (Option Value)} {kV doc pm cdv ct : Value}
    (l : K.lookup f = some ⟨oc, od, .func (PySem.W.fnOf x qual (defArgs st) (defBody st) (defScope st) .none kV doc pm an cdv ct), osl⟩)
    (b : (PySem.W.codeIn K cdv qual && PySem.W.keepIn K (.ref f)) = true) : Fun K x qual st f (fdAt K f) := by
  obtain ⟨c, k⟩ := Bool.and_eq_true_iff.mp b
  have e : fdAt K f = PySem.W.fnOf x qual (defArgs st) (defBody st) (defScope st) .none kV doc pm an cdv ct := by
    unfold fdAt
    rw [l]
  rw [e]
  exact fun_mk l c k
section
variable {R : Params}
noncomputable abbrev KK (R : Params) : PySem.W.Frag := hd01.heap_39 R
theorem fd21 : Fun (KK R) "is_integer" "is_integer" sIsInt 21 (fdAt (KK R) 21) := fun_at (by rfl) (by kernel_rfl)
theorem ns21 : PySem.W.nsIn (KK R) mainGlobals "is_integer" = some (some (.ref 21)) := by kernel_rfl
theorem fd28 : Fun (KK R) "is_within" "is_within" sWithin 28 (fdAt (KK R) 28) := fun_at (by rfl) (by kernel_rfl)
theorem ns28 : PySem.W.nsIn (KK R) mainGlobals "is_within" = some (some (.ref 28)) := by kernel_rfl
theorem fd35 : Fun (KK R) "is_amount" "is_amount" sAmount 35 (fdAt (KK R) 35) := fun_at (by rfl) (by kernel_rfl)
theorem ns35 : PySem.W.nsIn (KK R) mainGlobals "is_amount" = some (some (.ref 35)) := by kernel_rfl
theorem fd40 : Fun (KK R) "is_name" "is_name" sName 40 (fdAt (KK R) 40) := fun_at (by rfl) (by kernel_rfl)
theorem ns40 : PySem.W.nsIn (KK R) mainGlobals "is_name" = some (some (.ref 40)) := by kernel_rfl
theorem fd45 : Fun (KK R) "integer_of" "integer_of" sIntOf 45 (fdAt (KK R) 45) := fun_at (by rfl) (by kernel_rfl)
theorem ns45 : PySem.W.nsIn (KK R) mainGlobals "integer_of" = some (some (.ref 45)) := by kernel_rfl
theorem fd52 : Fun (KK R) "number_of" "number_of" sNumOf 52 (fdAt (KK R) 52) := fun_at (by rfl) (by kernel_rfl)
theorem ns52 : PySem.W.nsIn (KK R) mainGlobals "number_of" = some (some (.ref 52)) := by kernel_rfl
theorem fd104 : Fun (KK R) "is_lasting" "is_lasting" sIsl 104 (fdAt (KK R) 104) := fun_at (by rfl) (by kernel_rfl)
theorem ns104 : PySem.W.nsIn (KK R) mainGlobals "is_lasting" = some (some (.ref 104)) := by kernel_rfl
theorem fd109 : Fun (KK R) "lasting" "lasting" sLas 109 (fdAt (KK R) 109) := fun_at (by rfl) (by kernel_rfl)
theorem ns109 : PySem.W.nsIn (KK R) mainGlobals "lasting" = some (some (.ref 109)) := by kernel_rfl
theorem fd168 : Fun (KK R) "_law_pen" "_law_pen" sPen 168 (fdAt (KK R) 168) := fun_at (by rfl) (by kernel_rfl)
theorem ns168 : PySem.W.nsIn (KK R) mainGlobals "_law_pen" = some (some (.ref 168)) := by kernel_rfl
theorem fd175 : Fun (KK R) "_law_draw" "_law_draw" sDraw 175 (fdAt (KK R) 175) := fun_at (by rfl) (by kernel_rfl)
theorem ns175 : PySem.W.nsIn (KK R) mainGlobals "_law_draw" = some (some (.ref 175)) := by kernel_rfl
theorem fd182 : Fun (KK R) "_law_pick" "_law_pick" sPick 182 (fdAt (KK R) 182) := fun_at (by rfl) (by kernel_rfl)
theorem ns182 : PySem.W.nsIn (KK R) mainGlobals "_law_pick" = some (some (.ref 182)) := by kernel_rfl
theorem fd189 : Fun (KK R) "_law_thing" "_law_thing" sThing 189 (fdAt (KK R) 189) := fun_at (by rfl) (by kernel_rfl)
theorem ns189 : PySem.W.nsIn (KK R) mainGlobals "_law_thing" = some (some (.ref 189)) := by kernel_rfl
theorem fd194 : Fun (KK R) "_law_letters" "_law_letters" sLetters 194 (fdAt (KK R) 194) := fun_at (by rfl) (by kernel_rfl)
theorem ns194 : PySem.W.nsIn (KK R) mainGlobals "_law_letters" = some (some (.ref 194)) := by kernel_rfl
theorem fd201 : Fun (KK R) "_law_figures" "_law_figures" sFigures 201 (fdAt (KK R) 201) := fun_at (by rfl) (by kernel_rfl)
theorem ns201 : PySem.W.nsIn (KK R) mainGlobals "_law_figures" = some (some (.ref 201)) := by kernel_rfl
theorem fd208 : Fun (KK R) "_law_is_plain" "_law_is_plain" sPlain 208 (fdAt (KK R) 208) := fun_at (by rfl) (by kernel_rfl)
theorem ns208 : PySem.W.nsIn (KK R) mainGlobals "_law_is_plain" = some (some (.ref 208)) := by kernel_rfl
theorem fd213 : Fun (KK R) "_law_written" "_law_written" sWritten 213 (fdAt (KK R) 213) := fun_at (by rfl) (by kernel_rfl)
theorem ns213 : PySem.W.nsIn (KK R) mainGlobals "_law_written" = some (some (.ref 213)) := by kernel_rfl
theorem fd220 : Fun (KK R) "_law_right" "_law_right" sRight 220 (fdAt (KK R) 220) := fun_at (by rfl) (by kernel_rfl)
theorem ns220 : PySem.W.nsIn (KK R) mainGlobals "_law_right" = some (some (.ref 220)) := by kernel_rfl
theorem fd225 : Fun (KK R) "_law_page_right" "_law_page_right" sPageR 225 (fdAt (KK R) 225) := fun_at (by rfl) (by kernel_rfl)
theorem ns225 : PySem.W.nsIn (KK R) mainGlobals "_law_page_right" = some (some (.ref 225)) := by kernel_rfl
theorem fd232 : Fun (KK R) "_law_papers_right" "_law_papers_right" sPapR 232 (fdAt (KK R) 232) := fun_at (by rfl) (by kernel_rfl)
theorem ns232 : PySem.W.nsIn (KK R) mainGlobals "_law_papers_right" = some (some (.ref 232)) := by kernel_rfl
theorem fd239 : Fun (KK R) "law" "law" sLaw 239 (fdAt (KK R) 239) := fun_at (by rfl) (by kernel_rfl)
theorem ns239 : PySem.W.nsIn (KK R) mainGlobals "law" = some (some (.ref 239)) := by kernel_rfl
theorem fd123 : Fun (KK R) "__init__" "Moved.__init__" sMv 123 (fdAt (KK R) 123) := fun_at (by rfl) (by kernel_rfl)
theorem fd149 : Fun (KK R) "__init__" "Lacking.__init__" sLk 149 (fdAt (KK R) 149) := fun_at (by rfl) (by kernel_rfl)
theorem fd94 : Fun (KK R) "__bool__" "Denial.__bool__" sBo 94 (fdAt (KK R) 94) := fun_at (by rfl) (by kernel_rfl)
theorem ns76 : PySem.W.nsIn (KK R) mainGlobals "Paper" = some (some (.ref 76)) := by kernel_rfl
theorem ns97 : PySem.W.nsIn (KK R) mainGlobals "Denial" = some (some (.ref 97)) := by kernel_rfl
theorem ns133 : PySem.W.nsIn (KK R) mainGlobals "Moved" = some (some (.ref 133)) := by kernel_rfl
theorem ns159 : PySem.W.nsIn (KK R) mainGlobals "Lacking" = some (some (.ref 159)) := by kernel_rfl
theorem no_isinstance : PySem.W.nsIn (KK R) mainGlobals "isinstance" = some none := by kernel_rfl
theorem no_int : PySem.W.nsIn (KK R) mainGlobals "int" = some none := by kernel_rfl
theorem no_bool : PySem.W.nsIn (KK R) mainGlobals "bool" = some none := by kernel_rfl
theorem no_str : PySem.W.nsIn (KK R) mainGlobals "str" = some none := by kernel_rfl
theorem no_len : PySem.W.nsIn (KK R) mainGlobals "len" = some none := by kernel_rfl
theorem no_all : PySem.W.nsIn (KK R) mainGlobals "all" = some none := by kernel_rfl
theorem no_tuple : PySem.W.nsIn (KK R) mainGlobals "tuple" = some none := by kernel_rfl
theorem no_list : PySem.W.nsIn (KK R) mainGlobals "list" = some none := by kernel_rfl
theorem no_dict : PySem.W.nsIn (KK R) mainGlobals "dict" = some none := by kernel_rfl
theorem no_repr : PySem.W.nsIn (KK R) mainGlobals "repr" = some none := by kernel_rfl
theorem no_range : PySem.W.nsIn (KK R) mainGlobals "range" = some none := by kernel_rfl
theorem no_abs : PySem.W.nsIn (KK R) mainGlobals "abs" = some none := by kernel_rfl
theorem nsFig : PySem.W.nsIn (KK R) mainGlobals "FIGURES" = some (some (.int 1000 220)) := by kernel_rfl
theorem own133 : OwnC (KK R) 133 where
  cls := ⟨by kernel_rfl, by kernel_rfl, by kernel_rfl, by kernel_rfl⟩
  ca := by kernel_rfl
  hn := by kernel_rfl
  ht := by kernel_rfl
  hm := by kernel_rfl
theorem own159 : OwnC (KK R) 159 where
  cls := ⟨by kernel_rfl, by kernel_rfl, by kernel_rfl, by kernel_rfl⟩
  ca := by kernel_rfl
  hn := by kernel_rfl
  ht := by kernel_rfl
  hm := by kernel_rfl
theorem mk133 : Mk (KK R) 133 123 := ⟨by kernel_rfl, by kernel_rfl, by kernel_rfl, by kernel_rfl⟩
theorem mk159 : Mk (KK R) 159 149 := ⟨by kernel_rfl, by kernel_rfl, by kernel_rfl, by kernel_rfl⟩
theorem papF {mg : Str → Option Value} {h : Heap} (X : (KK R).In h) (G : h.Ns mainGlobals mg) : PapF (KK R) mg 76 97 133 159 123 149 94 where
  gP := PySem.W.mg_of X G ns76
  gD := PySem.W.mg_of X G ns97
  gM := PySem.W.mg_of X G ns133
  gL := PySem.W.mg_of X G ns159
  oM := own133
  oL := own159
  mM := mk133
  mL := mk159
  MP := by kernel_rfl
  MD := by kernel_rfl
  ML := by kernel_rfl
  LP := by kernel_rfl
  LD := by kernel_rfl
  LM := by kernel_rfl
  nM := by unfold NoAttr; kernel_rfl
  nI := by unfold NoAttr; kernel_rfl
  nJ := by unfold NoAttr; kernel_rfl
  bM := by kernel_rfl
  lM := by kernel_rfl
  bL := by kernel_rfl
  fn := by kernel_rfl
end
end K01
end
section
set_option maxRecDepth 100000
set_option maxHeartbeats 4000000
namespace K01
open PySem PySem.Spec PyProof.Rows L2 Lw
section
variable {P : Program} {w : World} {R : Params} {mg : Str → Option Value} {base : Heap}
section
variable {x qual a b c : Str} {st : Stmt} {f : Addr} {K : PySem.W.Frag} {fd : FuncData}
theorem bi1 (F : Fun K x qual st f fd)
    (h : ∀ (kV doc pm : Value) (an : Option Addr) (cdv ct u : Value), PySem.bindArgs (PySem.W.fnOf x qual (defArgs st) (defBody st) (defScope st) .none kV doc pm an cdv ct) ⟨[u], []⟩ = pure ([(a, u)] : List (Str × Value))) : Binds K fd [a] [] :=
  F.binds fun kV doc pm an cdv ct us hl => match us, hl with | [u], _ => h kV doc pm an cdv ct u
theorem bi2 (F : Fun K x qual st f fd)
    (h : ∀ (kV doc pm : Value) (an : Option Addr) (cdv ct u v : Value), PySem.bindArgs (PySem.W.fnOf x qual (defArgs st) (defBody st) (defScope st) .none kV doc pm an cdv ct) ⟨[u, v], []⟩ = pure ([(a, u), (b, v)] : List (Str × Value))) : Binds K fd [a, b] [] :=
  F.binds fun kV doc pm an cdv ct us hl => match us, hl with | [u, v], _ => h kV doc pm an cdv ct u v
theorem bi3 (F : Fun K x qual st f fd)
    (h : ∀ (kV doc pm : Value) (an : Option Addr) (cdv ct u v y : Value), PySem.bindArgs (PySem.W.fnOf x qual (defArgs st) (defBody st) (defScope st) .none kV doc pm an cdv ct) ⟨[u, v, y], []⟩ = pure ([(a, u), (b, v), (c, y)] : List (Str × Value))) : Binds K fd [a, b, c] [] :=
  F.binds fun kV doc pm an cdv ct us hl => match us, hl with | [u, v, y], _ => h kV doc pm an cdv ct u v y
theorem gAB : ∀ {vs : List V} {us : List Value} {zs : List V} {ws : List Value}, Vals vs us → Vals zs ws → Vals (gB vs zs) (gA us ws)
  | _, _, _, _, .nil, h => h
  | _, _, _, _, .cons _ _, _ => .nil
theorem kb1 (F : Fun K x qual st f fd)
    (h : ∀ (kV doc pm : Value) (an : Option Addr) (cdv ct u : Value), PySem.bindArgs (PySem.W.fnOf x qual (defArgs st) (defBody st) (defScope st) .none kV doc pm an cdv ct) ⟨[], [(a, u)]⟩ = pure ([(a, u)] : List (Str × Value))) : KBinds K fd [a] [a] gA gB := by
  refine ⟨fun s us ws _ hl => ?_, gAB⟩
  obtain ⟨oc, od, kV, doc, pm, an, cdv, ct, osl, rfl, lk, hcd⟩ := F.ex
  match us, ws, hl with
  | [], [u], _ => exact .of_eq (h kV doc pm an cdv ct u)
  | [], [], hl => cases hl
  | [], _ :: _ :: _, hl => cases hl
  | _ :: _, _, hl => cases hl
theorem kb3 (F : Fun K x qual st f fd)
    (h : ∀ (kV doc pm : Value) (an : Option Addr) (cdv ct u v y : Value), PySem.bindArgs (PySem.W.fnOf x qual (defArgs st) (defBody st) (defScope st) .none kV doc pm an cdv ct) ⟨[], [(a, u), (b, v), (c, y)]⟩ = pure ([(a, u), (b, v), (c, y)] : List (Str × Value))) : KBinds K fd [a, b, c] [a, b, c] gA gB := by
  refine ⟨fun s us ws _ hl => ?_, gAB⟩
  obtain ⟨oc, od, kV, doc, pm, an, cdv, ct, osl, rfl, lk, hcd⟩ := F.ex
  match us, ws, hl with
  | [], [u, v, y], _ => exact .of_eq (h kV doc pm an cdv ct u v y)
  | [], [], hl => cases hl
  | [], [_], hl => cases hl
  | [], [_, _], hl => cases hl
  | [], _ :: _ :: _ :: _ :: _, hl => cases hl
  | _ :: _, _, hl => cases hl
end
theorem whole (X : (KK R).In base) (G : base.Ns mainGlobals mg) (hS : ∃ m, base.Ns sysModules m) (hN : base.NoDigits) : FnG P w (KK R) mg base CX0 8 239 (fdAt (KK R) 239) ["_law_script"] (spLaw (KK R)) := by
  have B : TxtB mg := ⟨PySem.W.mg_none_of X G no_len, PySem.W.mg_none_of X G no_abs, PySem.W.mg_none_of X G no_int, PySem.W.mg_none_of X G no_list⟩
  have C : TxtC mg := ⟨PySem.W.mg_none_of X G no_isinstance, PySem.W.mg_none_of X G no_int, PySem.W.mg_none_of X G no_bool, PySem.W.mg_none_of X G no_str, PySem.W.mg_none_of X G no_len, PySem.W.mg_none_of X G no_all⟩
  have L : TxtL mg := ⟨PySem.W.mg_none_of X G no_tuple, PySem.W.mg_none_of X G no_list, PySem.W.mg_none_of X G no_dict⟩
  have mR := PySem.W.mg_none_of X G no_repr
  have mRg := PySem.W.mg_none_of X G no_range
  have Z := papF X G
  have b21 : Binds (KK R) (fdAt (KK R) 21) ["value"] [] := bi1 fd21 (fun _ _ _ _ _ _ _ => rfl)
  have b28 : Binds (KK R) (fdAt (KK R) 28) ["value", "least", "most"] [] := bi3 fd28 (fun _ _ _ _ _ _ _ _ _ => rfl)
  have b35 : Binds (KK R) (fdAt (KK R) 35) ["value"] [] := bi1 fd35 (fun _ _ _ _ _ _ _ => rfl)
  have b40 : Binds (KK R) (fdAt (KK R) 40) ["value"] [] := bi1 fd40 (fun _ _ _ _ _ _ _ => rfl)
  have b45 : Binds (KK R) (fdAt (KK R) 45) ["word"] [] := bi1 fd45 (fun _ _ _ _ _ _ _ => rfl)
  have b52 : Binds (KK R) (fdAt (KK R) 52) ["word", "least", "most"] [] := bi3 fd52 (fun _ _ _ _ _ _ _ _ _ => rfl)
  have b104 : Binds (KK R) (fdAt (KK R) 104) ["value"] [] := bi1 fd104 (fun _ _ _ _ _ _ _ => rfl)
  have b109 : Binds (KK R) (fdAt (KK R) 109) ["value"] [] := bi1 fd109 (fun _ _ _ _ _ _ _ => rfl)
  have b168 : Binds (KK R) (fdAt (KK R) 168) ["_law_script"] [] := bi1 fd168 (fun _ _ _ _ _ _ _ => rfl)
  have b175 : Binds (KK R) (fdAt (KK R) 175) ["_law_pen_here", "_law_many"] [] := bi2 fd175 (fun _ _ _ _ _ _ _ _ => rfl)
  have b182 : Binds (KK R) (fdAt (KK R) 182) ["_law_pen_here", "_law_some"] [] := bi2 fd182 (fun _ _ _ _ _ _ _ _ => rfl)
  have b189 : Binds (KK R) (fdAt (KK R) 189) ["_law_pen_here"] [] := bi1 fd189 (fun _ _ _ _ _ _ _ => rfl)
  have b194 : Binds (KK R) (fdAt (KK R) 194) ["_law_pen_here"] [] := bi1 fd194 (fun _ _ _ _ _ _ _ => rfl)
  have b201 : Binds (KK R) (fdAt (KK R) 201) ["_law_pen_here"] [] := bi1 fd201 (fun _ _ _ _ _ _ _ => rfl)
  have b208 : Binds (KK R) (fdAt (KK R) 208) ["_law_thing_here"] [] := bi1 fd208 (fun _ _ _ _ _ _ _ => rfl)
  have b213 : Binds (KK R) (fdAt (KK R) 213) ["_law_page"] [] := bi1 fd213 (fun _ _ _ _ _ _ _ => rfl)
  have b220 : Binds (KK R) (fdAt (KK R) 220) ["_law_thing_here", "_law_low", "_law_high"] [] := bi3 fd220 (fun _ _ _ _ _ _ _ _ _ => rfl)
  have b225 : Binds (KK R) (fdAt (KK R) 225) ["_law_page", "_law_low", "_law_high"] [] := bi3 fd225 (fun _ _ _ _ _ _ _ _ _ => rfl)
  have b232 : Binds (KK R) (fdAt (KK R) 232) ["_law_thing_here", "_law_other"] [] := bi2 fd232 (fun _ _ _ _ _ _ _ _ => rfl)
  have b123 : Binds (KK R) (fdAt (KK R) 123) ["self", "moves"] [] := bi2 fd123 (fun _ _ _ _ _ _ _ _ => rfl)
  have b149 : Binds (KK R) (fdAt (KK R) 149) ["self", "i", "j"] [] := bi3 fd149 (fun _ _ _ _ _ _ _ _ _ => rfl)
  have b94 : Binds (KK R) (fdAt (KK R) 94) ["self"] [] := bi1 fd94 (fun _ _ _ _ _ _ _ => rfl)
  have g21 := PySem.W.mg_of X G ns21
  have g28 := PySem.W.mg_of X G ns28
  have g35 := PySem.W.mg_of X G ns35
  have g40 := PySem.W.mg_of X G ns40
  have g45 := PySem.W.mg_of X G ns45
  have g52 := PySem.W.mg_of X G ns52
  have g104 := PySem.W.mg_of X G ns104
  have g109 := PySem.W.mg_of X G ns109
  have g168 := PySem.W.mg_of X G ns168
  have g175 := PySem.W.mg_of X G ns175
  have g182 := PySem.W.mg_of X G ns182
  have g189 := PySem.W.mg_of X G ns189
  have g194 := PySem.W.mg_of X G ns194
  have g201 := PySem.W.mg_of X G ns201
  have g208 := PySem.W.mg_of X G ns208
  have g213 := PySem.W.mg_of X G ns213
  have g220 := PySem.W.mg_of X G ns220
  have g225 := PySem.W.mg_of X G ns225
  have g232 := PySem.W.mg_of X G ns232
  have c21 : Cal P w (KK R) mg base "is_integer" 1 ["value"] (spIsInt (KK R)) 21 (fdAt (KK R) 21) := ⟨ok_isint fd21 C, g21, fd21.kp, b21⟩
  have c28 : Cal P w (KK R) mg base "is_within" 2 ["value", "least", "most"] (spWithin (KK R)) 28 (fdAt (KK R) 28) := ⟨ok_within fd28 c21.ok g21 fd21.kp b21, g28, fd28.kp, b28⟩
  have c35 : Cal P w (KK R) mg base "is_amount" 2 ["value"] (spAmount (KK R)) 35 (fdAt (KK R) 35) := ⟨ok_amount fd35 c21.ok g21 fd21.kp b21, g35, fd35.kp, b35⟩
  have c40 : Cal P w (KK R) mg base "is_name" 1 ["value"] (spName (KK R)) 40 (fdAt (KK R) 40) := ⟨ok_name fd40 C, g40, fd40.kp, b40⟩
  have o45 : FnOk P w (KK R) mg base CX0 1 45 (fdAt (KK R) 45) ["word"] (spIntOf (KK R)) := ok_intof fd45 C ⟨220, PySem.W.mg_of X G nsFig⟩ hN
  have c52 : Cal P w (KK R) mg base "number_of" 2 ["word", "least", "most"] (spNumOf (KK R)) 52 (fdAt (KK R) 52) := ⟨ok_numof fd52 o45 g45 fd45.kp b45, g52, fd52.kp, b52⟩
  have i0 : Cal P w (KK R) mg base "is_lasting" 0 ["value"] (fun _ _ _ _ => False) 104 (fdAt (KK R) 104) := ⟨⟨fun _ _ _ _ h => h.elim, fun _ _ _ _ _ _ _ _ _ _ _ _ _ h => h.elim⟩, g104, fd104.kp, b104⟩
  have i1 := isl_step (b := false) fd104 C L i0 (fun z => by cases z)
  have i2 := isl_step (b := true) fd104 C L ⟨i1, g104, fd104.kp, b104⟩ (fun _ _ _ _ h => h)
  have cI : Cal P w (KK R) mg base "is_lasting" 2 ["value"] (spIL (KK R) true) 104 (fdAt (KK R) 104) := ⟨i2, g104, fd104.kp, b104⟩
  have l0 : Cal P w (KK R) mg base "lasting" 2 ["value"] (fun _ _ _ _ => False) 109 (fdAt (KK R) 109) := ⟨⟨fun _ _ _ _ h => h.elim, fun _ _ _ _ _ _ _ _ _ _ _ _ _ h => h.elim⟩, g109, fd109.kp, b109⟩
  have l1 := las_step (b := false) fd109 C L (by decide) l0 cI (fun z => by cases z)
  have l2 := las_step (b := true) fd109 C L (by decide) ⟨l1, g109, fd109.kp, b109⟩ cI (fun _ _ _ _ h => h)
  have cL : Cal P w (KK R) mg base "lasting" 4 ["value"] (spLa (KK R) true) 109 (fdAt (KK R) 109) := ⟨l2, g109, fd109.kp, b109⟩
  have oM := ok_mv fd123 own133.cls Z.nM cL
  have oL := ok_lk fd149 own159.cls Z.nI Z.nJ cL
  have oB : FnOk P w (KK R) mg base CX0 1 94 (fdAt (KK R) 94) ["self"] spBo := ok_bo fd94
  have oP := ok_papr fd232 C Z oM b123 oL b149 oB b94
  have cP : Cal P w (KK R) mg base "_law_pen" 1 ["_law_script"] (spPen (KK R)) 168 (fdAt (KK R) 168) := ⟨ok_pen fd168 B, g168, fd168.kp, b168⟩
  have cD : Cal P w (KK R) mg base "_law_draw" 1 ["_law_pen_here", "_law_many"] spDraw 175 (fdAt (KK R) 175) := ⟨ok_draw fd175 B, g175, fd175.kp, b175⟩
  have cK : Cal P w (KK R) mg base "_law_pick" 2 ["_law_pen_here", "_law_some"] spPick 182 (fdAt (KK R) 182) := ⟨ok_pick fd182 B fd175 g175 b175, g182, fd182.kp, b182⟩
  have cT : Cal P w (KK R) mg base "_law_thing" 3 ["_law_pen_here"] (spThing (KK R)) 189 (fdAt (KK R) 189) := ⟨ok_thing fd189 cK, g189, fd189.kp, b189⟩
  have cE : Cal P w (KK R) mg base "_law_letters" 3 ["_law_pen_here"] (spText 20) 194 (fdAt (KK R) 194) := ⟨ok_letters fd194 mRg C.len cD cK, g194, fd194.kp, b194⟩
  have cF : Cal P w (KK R) mg base "_law_figures" 3 ["_law_pen_here"] (spText 20) 201 (fdAt (KK R) 201) := ⟨ok_figures fd201 C.str C.len cD cK, g201, fd201.kp, b201⟩
  have c208 : Cal P w (KK R) mg base "_law_is_plain" 1 ["_law_thing_here"] (spIsInt (KK R)) 208 (fdAt (KK R) 208) := ⟨ok_plain fd208 C, g208, fd208.kp, b208⟩
  have c213 : Cal P w (KK R) mg base "_law_written" 1 ["_law_page"] spWritten 213 (fdAt (KK R) 213) := ⟨ok_written fd213 C hN, g213, fd213.kp, b213⟩
  have c220 : CalG P w (KK R) mg base "_law_right" 3 ["_law_thing_here", "_law_low", "_law_high"] (spRight (KK R)) 220 (fdAt (KK R) 220) := ⟨ok_right fd220 mR hS c21 c28 c35 c208, g220, fd220.kp, b220⟩
  have c225 : CalG P w (KK R) mg base "_law_page_right" 3 ["_law_page", "_law_low", "_law_high"] spPageR 225 (fdAt (KK R) 225) := ⟨ok_pager fd225 C mR hS c213 c40 c52 c21 c35, g225, fd225.kp, b225⟩
  exact ok_law fd239 C mR mRg hS hN cP cK cT c220 c225 cE cF ⟨oP, g232, fd232.kp, b232⟩ c40 c52 c21 c28 c35 (kb1 fd40 (fun _ _ _ _ _ _ _ => rfl)) (kb3 fd52 (fun _ _ _ _ _ _ _ _ _ => rfl)) (kb1 fd21 (fun _ _ _ _ _ _ _ => rfl)) (kb3 fd28 (fun _ _ _ _ _ _ _ _ _ => rfl)) (kb1 fd35 (fun _ _ _ _ _ _ _ => rfl))
theorem bindsZ (s : Shared) (u : Value) : BindsTo s (fdAt (KK R) 239) ⟨[u], []⟩ [("_law_script", u)] := by
  obtain ⟨oc, od, kV, doc, pm, an, cdv, ct, osl, e, lk, hcd⟩ := (fd239 (R := R)).ex
  rw [e]
  exact .of_eq rfl
end
end K01
end
section
open PySem PySem.W PyProof.Rows
set_option maxRecDepth 100000 in
set_option maxHeartbeats 0 in
theorem PySem.Challenge.cw_stayhouse_k01_looks_at_any_values_holds : PySem.Challenge.rw_stayhouse_k01_looks_at_any_values.Holds :=
 hd01 (by
  refine Lw.walk_ofG (l := PySem.Challenge.rw_stayhouse_k01_looks_at_any_values) (n := 63) (k := 8) (x := "_law_script") (K := hd01.heap_39) (sp := K01.spLaw) rfl (by decide) rfl ⟨rfl, by decide, by decide⟩ ?I (fun w h Y => PySem.W.kIn_of Y) ?F ?S
  case I => kernel_rfl
  case F =>
    intro w mg fa h KX G hmg
    have e := hmg.symm.trans (PySem.W.mg_of KX G K01.ns239)
    obtain rfl : fa = 239 := PySem.Value.ref.inj (Option.some.inj e)
    exact ⟨_, K01.bindsZ, fun base X G hS hN => K01.whole X G hS hN⟩
  case S =>
    intro K H a ns hl hO hS
    exact ⟨a, ns, rfl, hS, hl, fun _ => rfl⟩)
end
