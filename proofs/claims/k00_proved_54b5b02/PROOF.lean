import PyProof.Rows.All
import Wide.All
import OpenK.AllK
import Wide.FinOn
import HandS.ForMost
import HandS.ExcInit
import HandS.ExcIs
import HandS.ExcField
import HandS.ExcValue
import HandS.Defaults
import HandS.IsInst
import HandS.ExcBuiltin
import KE.KExcIs
import PySem.Challenge.RW_stayhouse_k00_errors_and_their_fields
set_option Elab.async false
set_option linter.all false
section
open PySem PySem.W PyProof.Rows
set_option maxRecDepth 100000 in
set_option maxHeartbeats 0 in
open_top hd00 for PySem.Challenge.rw_stayhouse_k00_errors_and_their_fields
end
section
set_option maxRecDepth 100000
set_option maxHeartbeats 4000000
namespace Lw
open PySem PySem.Spec PyProof.Rows L2
theorem dp_ints {K : PySem.W.Frag} {H : Hp} : ∀ ns : List Int, DpAll K H (ns.map V.int) (ns.map PyData.int)
  | [] => .nil
  | n :: t => .cons (.int n) (dp_ints t)
theorem lay_ints : ∀ ns : List Int, PyData.canLayAll0 (ns.map PyData.int) = true
  | [] => rfl
  | n :: t => by simp [PyData.canLayAll0, PyData.canLay0, lay_ints t]
theorem depth_ints : ∀ ns : List Int, PyData.depthAll (ns.map PyData.int) = 0
  | [] => rfl
  | n :: t => by simp [PyData.depthAll, PyData.depth, depth_ints t]
theorem shaped_ints (ns : List Int) : SeqAt.shaped (.list (ns.map PyData.int)) = true := by
  simp [SeqAt.shaped, PyData.canLay0, PyData.depth, lay_ints, depth_ints]
theorem eqv_ints_nil (ns : List Int) : PyData.eqv (.list (ns.map PyData.int)) (.list []) = ns.isEmpty := by
  cases ns with
  | nil => rfl
  | cons n t => rfl
/-! what a draw reckons -/
theorem fm {a m : Int} (h : 0 < m) : 0 ≤ a.fmod m ∧ a.fmod m < m := ⟨Int.fmod_nonneg_of_pos _ h, Int.fmod_lt_of_pos _ h⟩
theorem pow_ok {x : Int} (j : Int) (h0 : 0 ≤ x) (h1 : x < 18446744073709551616) (j0 : 0 ≤ j) (j1 : j ≤ 1000000) : CPow x j := ⟨j0, j1, by
  have e : (2 : Nat) ^ 64 = 18446744073709551616 := by decide
  rw [e]
  omega⟩
theorem mul_okL {x y : Int} (h0 : -18446744073709551616 < x) (h1 : x < 18446744073709551616) : CMul x y := .inl ⟨by
  have e : (2 : Int) ^ 64 = 18446744073709551616 := by decide
  rw [e]
  omega, by
  have e : (2 : Int) ^ 64 = 18446744073709551616 := by decide
  rw [e]
  omega⟩
theorem mul_le {x y a b : Int} (x0 : 0 ≤ x) (xa : x ≤ a) (y0 : 0 ≤ y) (yb : y ≤ b) : 0 ≤ x * y ∧ x * y ≤ a * b :=
  ⟨Int.mul_nonneg x0 y0, Int.mul_le_mul xa yb y0 (Int.le_trans x0 xa)⟩
theorem at_fmod {ns : List Int} {i : Int} (h : ns.isEmpty = false) : ∃ z : Int, atI (ns.map V.int) (i.fmod (((ns.map V.int).length : Nat) : Int)) = some (V.int z) := by
  have hl : 0 < ns.length := by
    cases ns with
    | nil => cases h
    | cons _ _ => simp
  rw [List.length_map]
  obtain ⟨a0, a1⟩ := fm (a := i) (m := (ns.length : Int)) (by omega)
  obtain ⟨j, hj⟩ := Int.eq_ofNat_of_zero_le a0
  rw [hj] at a1 ⊢
  have hj2 : j < ns.length := by omega
  refine ⟨ns[j], atI_nat ?_⟩
  rw [List.getElem?_map, List.getElem?_eq_getElem hj2]
  rfl
theorem great_nn {z : Int} (c : decide ((10 : Int) ^ (18 : Int).toNat ≤ (if z < 0 then -z else z)) = true) : 0 ≤ 2 * ((if z < 0 then -z else z) - (10 : Int) ^ (18 : Int).toNat) + (if decide (z < 0) = true then (1 : Int) else 0) := by
  have h := of_decide_eq_true c
  generalize (10 : Int) ^ (18 : Int).toNat = t at h ⊢
  generalize (if z < 0 then -z else z) = y at h ⊢
  split <;> omega
theorem fdiv_nn {r m : Int} (h : 0 ≤ r) (hm : 0 < m) : 0 ≤ r.fdiv m := by
  rw [Int.fdiv_eq_ediv_of_nonneg _ (by omega)]
  exact Int.ediv_nonneg h (by omega)
theorem st1_nn {z i A B C : Int} (i0 : 0 ≤ i) (h : 0 < A ∧ 0 ≤ B ∧ 0 ≤ C) : 0 ≤ z.fmod A + B * i + C := by
  have a := (fm (a := z) h.1).1
  have b := Int.mul_nonneg h.2.1 i0
  omega
theorem st1_lt {z i A B C : Int} (hA : 0 < A ∧ A ≤ 4294967296) (hB : 0 ≤ B ∧ B ≤ 1000000 ∧ C ≤ 1000000) (hi : 0 ≤ i ∧ i ≤ 1000000) : z.fmod A + B * i + C < 18446744073709551616 := by
  have a := (fm (a := z) hA.1).2
  have b := (mul_le hB.1 hB.2.1 hi.1 hi.2).2
  omega
theorem st2_a {y D w : Int} (hD : 0 < D ∧ D ≤ 4294967296) : CMul (y.fmod D) w := by
  have a := fm (a := y) hD.1
  exact mul_okL (by omega) (by omega)
theorem st2_b {i F : Int} (hi : 0 ≤ i ∧ i ≤ 1000000) (hF : 0 ≤ F ∧ F ≤ 1000000) : CMul (F * i) i := by
  have b := mul_le hF.1 hF.2 hi.1 hi.2
  exact mul_okL (by omega) (by omega)
theorem st2_nn {y i D E F G : Int} (i0 : 0 ≤ i) (h : 0 < D ∧ 0 ≤ E ∧ 0 ≤ F ∧ 0 ≤ G) : 0 ≤ y.fmod D * (2 * i + E) + F * i * i + G := by
  have a := Int.mul_nonneg (fm (a := y) h.1).1 (show 0 ≤ 2 * i + E by omega)
  have b := Int.mul_nonneg (Int.mul_nonneg h.2.2.1 i0) i0
  omega
theorem st2_lt {y i D E F G : Int} (hD : 0 < D ∧ D ≤ 4294967296) (h : 0 ≤ E ∧ E ≤ 1000000 ∧ 0 ≤ F ∧ F ≤ 1000000 ∧ G ≤ 1000000) (hi : 0 ≤ i ∧ i ≤ 1000000) : y.fmod D * (2 * i + E) + F * i * i + G < 18446744073709551616 := by
  have a := fm (a := y) hD.1
  have a2 := (mul_le a.1 (show y.fmod D ≤ 4294967296 by omega) (show 0 ≤ 2 * i + E by omega) (show 2 * i + E ≤ 3000000 by omega)).2
  have b := mul_le h.2.2.1 h.2.2.2.1 hi.1 hi.2
  have b2 := (mul_le b.1 b.2 hi.1 hi.2).2
  omega
theorem p18 : CPow 10 18 := ⟨by decide, by decide, by decide⟩
/-- a pen stands at p: its cells at c, the number of the next one, what is left of a great one -/
structure PenAt (H : Hp) (p c : Addr) (ns : List Int) (i r : Int) : Prop where
  ob : H p = some (.lst [.ref c, .int i, .int r])
  ce : H c = some (.lst (ns.map V.int))
  i0 : 0 ≤ i
  r0 : 0 ≤ r
  l63 : ns.length ≤ 63
theorem PenAt.ne {H : Hp} {p c : Addr} {ns : List Int} {i r : Int} (h : PenAt H p c ns i r) : p ≠ c := fun e => by
  have a := h.ob
  rw [e, h.ce] at a
  cases ns with
  | nil => simp at a
  | cons n t => simp at a
/-- all but what stands at p stands as it stood -/
def But (p : Addr) (H H' : Hp) : Prop := ∀ b o, b ≠ p → H b = some o → H' b = some o
theorem But.refl (p : Addr) (H : Hp) : But p H H := fun _ _ _ h => h
theorem But.trans {p : Addr} {H H1 H2 : Hp} (a : But p H H1) (b : But p H1 H2) : But p H H2 := fun c o n h => b c o n (a c o n h)
theorem But.upd {p : Addr} {H H' : Hp} {o : HO} (a : But p H H') : But p H (upd H' p o) := fun c u n h => by rw [upd_ne n]; exact a c u n h
theorem But.new {p l : Addr} {H H' : Hp} {o : HO} (a : But p H H') (hl : H' l = none) : But p H (L2.upd H' l o) := fun c u n h => by
  have z := a c u n h
  rw [upd_ne (ne_of_none z hl)]
  exact z
theorem But.same {p : Addr} {H H' : Hp} (a : Same H H') : But p H H' := fun c o _ h => a c o h
theorem PenAt.next {H H' : Hp} {p c : Addr} {ns : List Int} {i r i' r' : Int} (h : PenAt H p c ns i r) (b : But p H H') (o : H' p = some (.lst [.ref c, .int i', .int r'])) (i0 : 0 ≤ i') (r0 : 0 ≤ r') : PenAt H' p c ns i' r' :=
  ⟨o, b _ _ h.ne.symm h.ce, i0, r0, h.l63⟩
/-- a draw below m: a number, and the pen behind -/
def spDraw : Sp := fun vs H Q _ => ∃ (p c : Addr) (ns : List Int) (i r m : Int), vs = [.ref p, .int m] ∧ PenAt H p c ns i r ∧ 0 < m ∧ m < 1073741824 ∧ i ≤ 1000000 ∧
  ∀ (d i' r' : Int) (H' : Hp), 0 ≤ d → d < m → i ≤ i' → i' ≤ i + 1 → PenAt H' p c ns i' r' → But p H H' → Q (.int d) H'
structure TxtB (mg : Str → Option Value) : Prop where
  len : mg "len" = none
  abs : mg "abs" = none
  int : mg "int" = none
  list : mg "list" = none
/-- the turn behind a pen's end, at the same pen -/
theorem upd2 {H : Hp} {p : Addr} {o u : HO} : upd (upd H p o) p u = upd H p u := upd_upd
end Lw
end
section
set_option maxRecDepth 100000
set_option maxHeartbeats 4000000
/-! An own exception class over ValueError, called with arguments of both kinds: the exception as a value. -/
namespace PySem
namespace LwX
open PySem.W PySem.Calls PyProof.Rows PySem.HandSPX
section
variable {M : Model} {A : Around} {E : Value → Shared → Prop} {h : Heap} {g : Array GenState} {d : Drawn} {t : Nat} {os : OsState}
variable {nm q : Str} {C N : Addr} {bs bm bmB : List Value} {hdct : Bool} {sn : List Str} {sub : List Value} {ab : Bool} {col : Option Bool} {dd : Option Addr} {k0 k1 k2 k3 k5 : Option Value} {B newId initId : String}
theorem kwCheckNew (F : ExcBaseFacts B newId initId bmB) (hT : ∀ X : String, bm.contains (.type X) = bmB.contains (.type X))
    {l : List Value} {kw : List (Str × Value)} {Q : Unit → Shared → Prop}
    (hC : h.get? C = some (excClassObj nm q C N bs bm hdct sn sub ab col dd k0 k1 k2 k3 k5 newId))
    (hq : Q () ⟨h, g, d, t, os⟩) :
    wpAny M A (checkBuiltinCall newId ⟨.ref C :: l, kw⟩) Q E ⟨h, g, d, t, os⟩ := by
  have a1 := F.noStar
  have a2 : (Value.ref C :: bm).contains (.type B) = true := by
    rw [List.contains_cons, hT B, F.hasB]
    exact Bool.or_true _
  simp only [checkBuiltinCall, F.newRow, F.newSplit, F.newKind]
  repeat (first
    | refine wpAny_loadPart_at hC ?_
    | (refine wpAny_isSubtype_exc hC ?_; rw [a2])
    | refine wpAny_staticBase_exc hC ?_
    | refine wpAny_madeBy_exc hC ?_
    | simp only [Bool.false_eq_true, bne_self_eq_false, if_false]
    | wp_step)
  exact hq
theorem kwCheckCall {l : List Value} {kw : List (Str × Value)} {Q : Unit → Shared → Prop} (hC : h.get? C = some (excClassObj nm q C N bs bm hdct sn sub ab col dd k0 k1 k2 k3 k5 newId))
    (hq : Q () ⟨h, g, d, t, os⟩) : wpAny M A (checkBuiltinCall "type.__call__" ⟨.ref C :: l, kw⟩) Q E ⟨h, g, d, t, os⟩ := by
  have z := tc_sub
  have ty : (⟨h, g, d, t, os⟩ : Shared).TypeIs (.ref C) "type" := ⟨_, hC, rfl⟩
  simp only [checkBuiltinCall, tc_split, tc_kind]
  repeat (any_goals (first | assumption | with_reducible refine wpAny_loadPart_at hC ?_ | with_reducible refine wpAny_onRaise ?_ | with_reducible refine wpAny_map ?_ | wp_step))
end
section
variable {prog : Program} {w : World} {A : Around} {E : Value → Shared → Prop} {R : Result → Shared → Prop} {h : Heap} {g : Array GenState} {d : Drawn} {t : Nat} {os : OsState}
variable {nm q : Str} {C N : Addr} {bs bm bmB : List Value} {hdct : Bool} {sn : List Str} {sub : List Value} {ab : Bool} {col : Option Bool} {dd : Option Addr} {k0 k1 k2 k3 k5 : Option Value} {B newId initId : String}
theorem kwNew (F : ExcBaseFacts B newId initId bmB) (hT : ∀ X : String, bm.contains (.type X) = bmB.contains (.type X)) {l : List Value} {kw : List (Str × Value)}
    (hC : h.get? C = some (excClassObj nm q C N bs bm hdct sn sub ab col dd k0 k1 k2 k3 k5 newId)) (hl : l.length ≤ sizeLine)
    (hq : R (.ok (.ret (.ref (h.objs.size + 1)))) ⟨(h.push (W.kdv_tup l)).push (excO C h.objs.size), g, d, t, os⟩) :
    codeAny (model prog w) A (.builtin newId ⟨.ref C :: l, kw⟩) R ⟨h, g, d, t, os⟩ := by
  have z0 := F.ends
  have y1 : (Value.ref C :: bm).contains (.type B) = true := by
    rw [List.contains_cons, hT B, F.hasB]
    exact Bool.or_true _
  have y2 : (Value.ref C :: bm).contains (.type "AttributeError") = false := by
    rw [List.contains_cons, hT, F.noAttr]
    rfl
  have y3 : (Value.ref C :: bm).contains (.type "NameError") = false := by
    rw [List.contains_cons, hT, F.noName]
    rfl
  refine codeAny_builtinAt F.entry ?_
  unfold Builtin.«BaseException.__new__»
  refine wpAt_bind ?_
  show wpAt _ _ _ (stack >>= _) _ _ _
  refine wpAt_bind (wpAt_stack fun p below => wpAt_of_wpAny ?_)
  wp_walk
  refine wpAt_of_wpAny ?_
  rw [F.owner]
  repeat (first
    | with_reducible refine wpAny_madeHere_exc F.canon hC ?_
    | with_reducible refine wpAny_loadPart_at hC ?_
    | (with_reducible refine wpAny_isSubtype_exc hC ?_; first | rw [y1] | rw [y2] | rw [y3])
    | wp_step)
  show R _ _
  rw [Heap.size_push]
  exact hq
theorem kwTypeCall (F : ExcBaseFacts B newId initId bmB) (hT : ∀ X : String, bm.contains (.type X) = bmB.contains (.type X)) {l : List Value} {kw : List (Str × Value)} {fI : Addr} {Q : Fin → Shared → Prop}
    (hC : h.get? C = some (excClassObj nm q C N bs bm hdct sn sub ab col dd k0 k1 k2 k3 k5 newId)) (hi : W.Looks (model prog w) h (typeLookup (.ref C) "__init__") (some (.ref fI)))
    (hb : ∀ self, W.Looks (model prog w) h (bindSpecial (.ref fI) self) (.ref fI, [self])) (hl : l.length ≤ sizeLine)
    (hq : codeAny (model prog w) A (.call (.ref fI) ⟨.ref (h.objs.size + 1) :: l, kw⟩)
      (fun r s' => match r with
        | .ok (.ret v) => v = .none ∧ Q (.done (.ret (.ref (h.objs.size + 1)))) s'
        | .ok _ => False
        | .error e => E e s')
      ⟨(h.push (W.kdv_tup l)).push (excO C h.objs.size), g, d, t, os⟩) :
    wpAny (model prog w) A (Builtin.«type.__call__» ⟨.ref C :: l, kw⟩) Q E ⟨h, g, d, t, os⟩ := by
  repeat (first
    | with_reducible refine wpAny_loadPart_at hC ?_
    | with_reducible refine wpAny_madeBy_exc hC ?_
    | wp_step)
  refine codeAny_call_builtin_code (Code.quiet_builtin _ F.quiet) (kwCheckNew F hT hC ?_)
  refine kwNew F hT hC hl ?_
  show wpAny _ _ _ _ _ _
  have kp : ∀ b o, h.get? b = some o → ((h.push (W.kdv_tup l)).push (excO C h.objs.size)).get? b = some o := fun b o e =>
    Heap.get?_push_of_some _ (Heap.get?_push_of_some _ e)
  have hC2 := kp _ _ hC
  have he : ((h.push (W.kdv_tup l)).push (excO C h.objs.size)).get? (h.objs.size + 1) = some (excO C h.objs.size) := by heap_get
  have sub2 : (Value.ref C :: bm).contains (.ref C) = true := by simp
  have i2 := hi.keeps kp
  have b2 := (hb (.ref (h.objs.size + 1))).keeps kp
  unfold isInstance
  repeat (first
    | with_reducible refine wpAny_loadPart_at he ?_
    | (with_reducible refine wpAny_isSubtype_exc hC2 ?_; rw [sub2])
    | wp_step)
  show wpAny _ _ (typeLookup (.ref C) _) _ _ _
  refine i2.at ?_
  refine wpAny_holding (wpAny_bind (b2.at ?_))
  refine wpAny_bind (wpAny_call (codeAny_mono hq fun r s' z => ?_))
  rcases r with e | (v | _ | _ | _) <;> first | exact z.elim | exact z | skip
  obtain ⟨rfl, z2⟩ := z
  first
    | exact wpAny_pure (wpAny_pure z2)
    | (wp_walk; exact z2)
/-- C(.., ..): the new object, then the own __init__ -/
theorem kwCall (F : ExcBaseFacts B newId initId bmB) (hT : ∀ X : String, bm.contains (.type X) = bmB.contains (.type X)) {l : List Value} {kw : List (Str × Value)} {fI : Addr}
    (hC : h.get? C = some (excClassObj nm q C N bs bm hdct sn sub ab col dd k0 k1 k2 k3 k5 newId)) (hi : W.Looks (model prog w) h (typeLookup (.ref C) "__init__") (some (.ref fI)))
    (hb : ∀ self, W.Looks (model prog w) h (bindSpecial (.ref fI) self) (.ref fI, [self])) (hl : l.length ≤ sizeLine)
    (hq : codeAny (model prog w) (A.under (.builtin "type.__call__" ⟨.ref C :: l, kw⟩)) (.call (.ref fI) ⟨.ref (h.objs.size + 1) :: l, kw⟩) (W.InitBack (h.objs.size + 1) R)
      ⟨(h.push (W.kdv_tup l)).push (excO C h.objs.size), g, d, t, os⟩) :
    codeAny (model prog w) A (.call (.ref C) ⟨l, kw⟩) R ⟨h, g, d, t, os⟩ := by
  have z1 := tc_bind (.ref C)
  have z2 := tc_lookup
  have ty : (⟨h, g, d, t, os⟩ : Shared).TypeIs (.ref C) "type" := ⟨_, hC, rfl⟩
  refine codeAny_of_tree ?_
  show wpAny _ _ (callAny (.ref C) _) _ _ _
  repeat (any_goals (first | assumption | with_reducible refine wpAny_loadPart_at hC ?_ | wp_step))
  refine ⟨rfl, ?_⟩
  refine codeAny_call_builtin_at (Code.quiet_builtin _ (by decide +kernel)) entry_typeCall (kwCheckCall hC (kwTypeCall F hT hC hi hb hl ?_))
  refine codeAny_mono hq fun r s' z => ?_
  rcases r with e | (v | _ | _ | _) <;> exact z
end
end LwX
end PySem
end
section
set_option maxRecDepth 100000
set_option maxHeartbeats 4000000
namespace Lw
open PySem PySem.Spec PyProof.Rows L2
theorem Same.new {H : Hp} {l : Addr} {o : HO} (h : H l = none) : Same H (upd H l o) := fun b u e => by
  rw [upd_ne (ne_of_none e h)]
  exact e
/-- what the written part says of an own exception class over ValueError -/
structure ExK (K : PySem.W.Frag) (C : Addr) : Prop extends OexC K C, ExcC K C
section
variable {X : Cx} {CX : CXT} {k : Nat} {C fI : Addr} {fd : FuncData} {ps : List Str} {sp : Sp}
/-- the call of such a class: a new exception, then its own __init__ -/
theorem run_exc {pins : List (Addr × Obj)} {σ : L2.St} {H : Hp} {s : Shared} {Q : VK} {us all : List Value} {kw : List (Str × Value)} {zs : List V} (T : OexC X.K C)
    (iC : PySem.W.findIn X.K (.ref C) "__init__" = some (some (.ref fI))) (tI : PySem.W.typeIn X.K (.ref fI) = some (.type "function")) (G : FnOk X.prog X.w X.K X.mg X.base CX k fI fd ps sp)
    (hr : Room (k + 1) X.A) (hx : Passes CX X (fun _ _ _ => False)) (I : Inv X pins σ H s) (hus : us.length ≤ sizeLine) (rz : Vals zs all)
    (bt : ∀ (s' : Shared) (a : Addr), X.K.In s'.heap → BindsTo s' fd ⟨.ref a :: us, kw⟩ (ps.zip (.ref a :: all)))
    (h : ∀ a, H a = none → sp (.ref a :: zs) (upd H a (exo a C none)) (fun v H2 => v = .non ∧ Q (.ref a) H2) (fun _ _ _ => False)) :
    wpAny (model X.prog X.w) X.A (call (.ref C) us kw) (EP X pins σ Q) X.xe s := by
  obtain ⟨nm, q, N, bs, bm, sn, sub, ab, col, dd, k0, k1, k2, k3, k5, hC, hbm⟩ := T.cls
  obtain ⟨hp, g, dr, tk, os⟩ := s
  have big : hp.objs.size ≤ hp.objs.size + 1 := Nat.le_succ _
  have free : H (hp.objs.size + 1) = none := I.hok.fresh big
  have hq := h (hp.objs.size + 1) free
  have kp : ∀ b o, hp.get? b = some o → ((hp.push (PySem.W.kdv_tup us)).push (PySem.HandSPX.excO C hp.objs.size)).get? b = some o := fun b o e =>
    Heap.get?_push_of_some _ (Heap.get?_push_of_some _ e)
  have he : ((hp.push (PySem.W.kdv_tup us)).push (PySem.HandSPX.excO C hp.objs.size)).get? (hp.objs.size + 1) = some (PySem.HandSPX.excO C hp.objs.size) := by heap_get
  have J : Inv X pins σ (upd H (hp.objs.size + 1) (exo (hp.objs.size + 1) C none)) ⟨(hp.push (PySem.W.kdv_tup us)).push (PySem.HandSPX.excO C hp.objs.size), g, dr, tk, os⟩ :=
    I.laid (t' := tk) (a := hp.objs.size + 1) (o := exo (hp.objs.size + 1) C none) (h' := (hp.push (PySem.W.kdv_tup us)).push (PySem.HandSPX.excO C hp.objs.size)) kp big (exo_ok he)
  have rv : Vals (V.ref (hp.objs.size + 1) :: zs) (Value.ref (hp.objs.size + 1) :: all) := .cons rfl rz
  refine wpAny_call (PySem.LwX.kwCall F.excBase_ValueError (fun Y => PySem.HandSPX.refsVE_contains Y bm hbm) (I.kIn _ _ hC) (PySem.W.looks_findIn I.kIn iC) (fun self => PySem.W.bind_fn I.kIn self tI) hus
    (codeAny_mono (G.run _ X.stack _ _ ⟨Value.ref (hp.objs.size + 1) :: us, kw⟩ (Value.ref (hp.objs.size + 1) :: all) _ _ (fun _ _ _ => False) (hr.make C us kw) (J.env0.make C us kw) (bt _ _ J.kIn) rv hq) fun r s' z => ?_))
  cases r with
  | error er => exact hx pins σ _ _ er s' J z
  | ok fl =>
    cases fl with
    | ret u =>
      obtain ⟨v, H', I3, r3, ev, q3⟩ := J.after z
      subst ev
      exact ⟨r3, ⟨V.ref (hp.objs.size + 1), H', I3, rfl, q3⟩⟩
    | next => exact False.elim z
    | brk => exact False.elim z
    | cont => exact False.elim z
end

/-! ### the own __init__ that stores its arguments -/
/-- __init__(self, f): self.f = f -/
def spI1 (C : Addr) (f : Str) : Sp := fun vs H Q _ => ∃ (a : Addr) (v : V), vs = [.ref a, v] ∧ H a = some (exo a C none) ∧ ∀ d, H d = none → d ≠ a → Q .non (upd (upd H d (exd d [(f, v)])) a (exo a C (some d)))
/-- __init__(self, f, g): self.f = f; self.g = g -/
def spI2 (C : Addr) (f g : Str) : Sp := fun vs H Q _ => ∃ (a : Addr) (v u : V), vs = [.ref a, v, u] ∧ H a = some (exo a C none) ∧ ∀ d, H d = none → d ≠ a → Q .non (upd (upd (upd H d (exd d [(f, v)])) a (exo a C (some d))) d (exd d [(g, u), (f, v)]))
/-- a made exception: its class, its fields; all that stood stands -/
def Made (C : Addr) (fs : List (Str × V)) (H H2 : Hp) (a d : Addr) : Prop := Same H H2 ∧ H2 a = some (exo a C (some d)) ∧ H2 d = some (exd d fs)
theorem made1 {C a d : Addr} {f : Str} {v : V} {H : Hp} (ha : H a = none) (hd : upd H a (exo a C none) d = none) (ne : d ≠ a) :
    Made C [(f, v)] H (upd (upd (upd H a (exo a C none)) d (exd d [(f, v)])) a (exo a C (some d))) a d := by
  refine ⟨fun b o e => ?_, upd_same, by rw [upd_ne ne]; exact upd_same⟩
  have n1 : b ≠ a := ne_of_none e ha
  have n2 : b ≠ d := by
    refine ne_of_none (H := upd H a (exo a C none)) (o := o) ?_ hd
    rw [upd_ne n1]
    exact e
  rw [upd_ne n1, upd_ne n2, upd_ne n1]
  exact e
theorem made2 {C a d : Addr} {f g : Str} {v u : V} {H : Hp} (ha : H a = none) (hd : upd H a (exo a C none) d = none) (ne : d ≠ a) :
    Made C [(g, u), (f, v)] H (upd (upd (upd (upd H a (exo a C none)) d (exd d [(f, v)])) a (exo a C (some d))) d (exd d [(g, u), (f, v)])) a d := by
  obtain ⟨s1, s2, _⟩ := made1 (f := f) (v := v) ha hd ne
  refine ⟨fun b o e => ?_, by rw [upd_ne ne.symm]; exact s2, upd_same⟩
  have n1 : b ≠ a := ne_of_none e ha
  have n2 : b ≠ d := by
    refine ne_of_none (H := upd H a (exo a C none)) (o := o) ?_ hd
    rw [upd_ne n1]
    exact e
  rw [upd_ne n2]
  exact s1 b o e
/-- what is told of a new exception of C with n arguments: vs in the order of the parameters -/
def Exc1 (C : Addr) (f : Str) (vs : List V) (H : Hp) (Q : VK) : Prop := ∃ v, vs = [v] ∧ ∀ a d H2, Made C [(f, v)] H H2 a d → Q (.ref a) H2
def Exc2 (C : Addr) (f g : Str) (vs : List V) (H : Hp) (Q : VK) : Prop := ∃ v u, vs = [v, u] ∧ ∀ a d H2, Made C [(g, u), (f, v)] H H2 a d → Q (.ref a) H2
/-- an own exception class with its own __init__ of one field -/
structure Cl1 (P : Program) (w : World) (K : PySem.W.Frag) (mg : Str → Option Value) (base : Heap) (nm f : Str) (C fI : Addr) (fd : FuncData) : Prop extends ExK K C where
  gl : mg nm = some (.ref C)
  ini : PySem.W.findIn K (.ref C) "__init__" = some (some (.ref fI))
  typ : PySem.W.typeIn K (.ref fI) = some (.type "function")
  fn : FnOk P w K mg base CX0 1 fI fd ["self", f] (spI1 C f)
  bp : ∀ (s : Shared) (x v : Value), BindsTo s fd ⟨[x, v], []⟩ [("self", x), (f, v)]
  bk : ∀ (s : Shared) (x v : Value), BindsTo s fd ⟨[x], [(f, v)]⟩ [("self", x), (f, v)]
  no : PySem.W.findIn K (.ref C) f = some none
structure Cl2 (P : Program) (w : World) (K : PySem.W.Frag) (mg : Str → Option Value) (base : Heap) (nm f g : Str) (C fI : Addr) (fd : FuncData) : Prop extends ExK K C where
  gl : mg nm = some (.ref C)
  ini : PySem.W.findIn K (.ref C) "__init__" = some (some (.ref fI))
  typ : PySem.W.typeIn K (.ref fI) = some (.type "function")
  fn : FnOk P w K mg base CX0 1 fI fd ["self", f, g] (spI2 C f g)
  bp : ∀ (s : Shared) (x v u : Value), BindsTo s fd ⟨[x, v, u], []⟩ [("self", x), (f, v), (g, u)]
  bk : ∀ (s : Shared) (x v u : Value), BindsTo s fd ⟨[x], [(f, v), (g, u)]⟩ [("self", x), (f, v), (g, u)]
  bq : ∀ (s : Shared) (x v u : Value), BindsTo s fd ⟨[x], [(g, u), (f, v)]⟩ [("self", x), (f, v), (g, u)]
  no : PySem.W.findIn K (.ref C) f = some none
  no2 : PySem.W.findIn K (.ref C) g = some none
section
variable {X : Cx} {C fI : Addr} {fd : FuncData} {nm f g : Str} {e : Expr} {es : List Expr} {kws : List Keyword} {t tk : TA} {p pos : Pos}
theorem big2 {l : List V} {us : List Value} (r : Vals l us) (h : l.length ≤ 2) : us.length ≤ sizeLine := by
  rw [← Paired.length r, sizeLine_eq]
  omega
/-- C(e) -/
theorem pe_e1 (T : Cl1 X.prog X.w X.K X.mg X.base nm f C fI fd) (hr : Room 2 X.A) (hg : Gl X nm) (hx : Passes CX0 X (fun _ _ _ => False)) (ha : PA X (e :: es) t)
    (hdb : (nm == ("__debug__" : Str)) = false := by decide) (he : starEach (e :: es) X.env = (false, eval e X.env) :: starEach es X.env := by rfl) (hpl : (backTo pos (starEach es X.env)).any (·.1) = false := by rfl) :
    PE X (.Call (.Name nm p) (e :: es) [] pos) (fun σ H Q => t σ H fun vs H1 => Exc1 C f vs H1 Q) := by
  refine ⟨fun pins s σ H Q I h => ?_⟩
  refine wpAny_Call_Name_kw (ld_glob I hg T.gl ?_ hdb)
  refine PySem.W.callWith_K (h₀ := X.base) I.ok.mod.kin T.kC (thn (ha.run pos pins s σ H _ I h) fun us s1 ⟨vs, H1, I1, r, v, ev, q⟩ => ⟨I1.kIn, ?_⟩) he hpl
  subst ev
  have hz := big2 r (by simp)
  obtain ⟨u, rfl, ru⟩ := vals1 r
  refine run_exc (all := [u]) (zs := [v]) T.toOexC T.ini T.typ T.fn hr hx I1 hz (.cons ru .nil) (fun s' a _ => T.bp s' (.ref a) u) fun a na => ?_
  exact ⟨a, v, rfl, upd_same, fun d nd ne => ⟨rfl, q a d _ (made1 na nd ne)⟩⟩
/-- C(f=e) -/
theorem pe_e1k (T : Cl1 X.prog X.w X.K X.mg X.base nm f C fI fd) (hr : Room 2 X.A) (hg : Gl X nm) (hx : Passes CX0 X (fun _ _ _ => False)) (hkw : PK X kws tk)
    (hall : (backToKw pos (keywordEach kws X.env)).all (·.1.isSome) = true := by rfl) (hks : (backToKw pos (keywordEach kws X.env)).filterMap (·.1) = [f] := by rfl) (hdb : (nm == ("__debug__" : Str)) = false := by decide)
    (hpl : ((backTo pos (starEach [] X.env)).any (·.1) || (backToKw pos (keywordEach kws X.env)).any (·.1.isNone)) = false := by rfl) :
    PE X (.Call (.Name nm p) [] kws pos) (fun σ H Q => tk σ H fun vs H1 => Exc1 C f vs H1 Q) := by
  refine ⟨fun pins s σ H Q I h => ?_⟩
  refine wpAny_Call_Name_kw (ld_glob I hg T.gl ?_ hdb)
  refine PySem.W.callWith_KW0 (h₀ := X.base) I.ok.mod.kin T.kC hall ?_ hpl
  refine thn (hkw.run pos pins s σ H _ I h) fun ws s1 ⟨vs, H1, I1, r, v, ev, q⟩ => ⟨I1.kIn, ?_⟩
  rw [hks]
  subst ev
  obtain ⟨u, rfl, ru⟩ := vals1 r
  refine run_exc (us := []) (kw := [(f, u)]) (all := [u]) (zs := [v]) T.toOexC T.ini T.typ T.fn hr hx I1 (Nat.zero_le _) (.cons ru .nil) (fun s' a _ => T.bk s' (.ref a) u) fun a na => ?_
  exact ⟨a, v, rfl, upd_same, fun d nd ne => ⟨rfl, q a d _ (made1 na nd ne)⟩⟩
/-- C(e, e') -/
theorem pe_e2 (T : Cl2 X.prog X.w X.K X.mg X.base nm f g C fI fd) (hr : Room 2 X.A) (hg : Gl X nm) (hx : Passes CX0 X (fun _ _ _ => False)) (ha : PA X (e :: es) t)
    (hdb : (nm == ("__debug__" : Str)) = false := by decide) (he : starEach (e :: es) X.env = (false, eval e X.env) :: starEach es X.env := by rfl) (hpl : (backTo pos (starEach es X.env)).any (·.1) = false := by rfl) :
    PE X (.Call (.Name nm p) (e :: es) [] pos) (fun σ H Q => t σ H fun vs H1 => Exc2 C f g vs H1 Q) := by
  refine ⟨fun pins s σ H Q I h => ?_⟩
  refine wpAny_Call_Name_kw (ld_glob I hg T.gl ?_ hdb)
  refine PySem.W.callWith_K (h₀ := X.base) I.ok.mod.kin T.kC (thn (ha.run pos pins s σ H _ I h) fun us s1 ⟨vs, H1, I1, r, v, v2, ev, q⟩ => ⟨I1.kIn, ?_⟩) he hpl
  subst ev
  have hz := big2 r (by simp)
  obtain ⟨u, u2, rfl, ru, ru2⟩ := vals2 r
  refine run_exc (all := [u, u2]) (zs := [v, v2]) T.toOexC T.ini T.typ T.fn hr hx I1 hz (.cons ru (.cons ru2 .nil)) (fun s' a _ => T.bp s' (.ref a) u u2) fun a na => ?_
  exact ⟨a, v, v2, rfl, upd_same, fun d nd ne => ⟨rfl, q a d _ (made2 na nd ne)⟩⟩
/-- C(g=e', f=e) -/
theorem pe_e2q (T : Cl2 X.prog X.w X.K X.mg X.base nm f g C fI fd) (hr : Room 2 X.A) (hg : Gl X nm) (hx : Passes CX0 X (fun _ _ _ => False)) (hkw : PK X kws tk)
    (hall : (backToKw pos (keywordEach kws X.env)).all (·.1.isSome) = true := by rfl) (hks : (backToKw pos (keywordEach kws X.env)).filterMap (·.1) = [g, f] := by rfl) (hdb : (nm == ("__debug__" : Str)) = false := by decide)
    (hpl : ((backTo pos (starEach [] X.env)).any (·.1) || (backToKw pos (keywordEach kws X.env)).any (·.1.isNone)) = false := by rfl) :
    PE X (.Call (.Name nm p) [] kws pos) (fun σ H Q => tk σ H fun vs H1 => ∃ u v, vs = [u, v] ∧ ∀ a d H2, Made C [(g, u), (f, v)] H1 H2 a d → Q (.ref a) H2) := by
  refine ⟨fun pins s σ H Q I h => ?_⟩
  refine wpAny_Call_Name_kw (ld_glob I hg T.gl ?_ hdb)
  refine PySem.W.callWith_KW0 (h₀ := X.base) I.ok.mod.kin T.kC hall ?_ hpl
  refine thn (hkw.run pos pins s σ H _ I h) fun ws s1 ⟨vs, H1, I1, r, v2, v, ev, q⟩ => ⟨I1.kIn, ?_⟩
  rw [hks]
  subst ev
  obtain ⟨u2, u, rfl, ru2, ru⟩ := vals2 r
  refine run_exc (us := []) (kw := [(g, u2), (f, u)]) (all := [u, u2]) (zs := [v, v2]) T.toOexC T.ini T.typ T.fn hr hx I1 (Nat.zero_le _) (.cons ru (.cons ru2 .nil)) (fun s' a _ => T.bq s' (.ref a) u u2) fun a na => ?_
  exact ⟨a, v, v2, rfl, upd_same, fun d nd ne => ⟨rfl, q a d _ (made2 na nd ne)⟩⟩
end

/-! ### a made exception: its field; isinstance -/
section
variable {X : Cx} {e : Expr} {te : TE} {n : Str} {pos : Pos}
/-- x.n, x a made exception with a dict -/
def tEf (K : PySem.W.Frag) (n : Str) (te : TE) : TE := fun σ H Q => te σ H fun x H1 => ∃ (a C d : Addr) (fs : List (Str × V)) (v : V), x = .ref a ∧ ExK K C ∧ PySem.W.findIn K (.ref C) n = some none ∧ H1 a = some (exo a C (some d)) ∧ H1 d = some (exd d fs) ∧ fs.lookup n = some v ∧ Q v H1
theorem pe_ef (he : PE X e te) (hb : attributeBase e n X.env (eval e X.env) = eval e X.env := by rfl) : PE X (.Attribute e n pos) (tEf X.K n te) := by
  refine ⟨fun pins s σ H Q I h => ?_⟩
  refine attr_of hb (thn (he.run pins s σ H _ I h) fun u s1 hh => ?_)
  obtain ⟨x, H1, I1, rx, a, C, d, fs, v, ex, T, no, ea, ed, l, q⟩ := hh
  subst ex
  obtain rfl : u = Value.ref a := rx
  obtain ⟨t1, ho⟩ := exo_at I1.hok ea
  obtain ⟨mA, hns, hr⟩ := exd_at I1.hok ed
  obtain ⟨od, hod, hl⟩ := lookIn_ns hns
  obtain ⟨w, hw, rw'⟩ := RelO.some_of (v := v) (o := mA n) (by rw [← l]; exact hr n)
  have J : PySem.W.InstAt s1.heap a ({ cls := .ref C, dict := some d, data := .fields #[.ref t1, .none, .none, .none, .bool false, .none] } : Obj) C (some od) := ⟨ho, rfl, rfl, hod⟩
  exact PySem.HandSPX.exc_get I1.kIn J T.hg T.hk T.hs (PySem.W.findObj_own T.hd no rfl (by rw [hl, hw])) (handed_of rw') ⟨v, H1, I1.tok _, rw', q⟩
end
/-- at a stands an exception of the class at C -/
def TyE (H : Hp) (a C : Addr) : Prop := (∃ d fs, H a = some (exo a C (some d)) ∧ H d = some (exd d fs)) ∨ H a = some (ExO (.ref C) a)
/-- isinstance(x, c), x such an exception -/
def rEi (K : PySem.W.Frag) : List V → Hp → VK → Prop := fun xs H Q => ∃ (a C : Addr) (c : V) (cv : Value) (b : Bool), xs = [.ref a, c] ∧ TyE H a C ∧ ExcC K C ∧ ClsV c cv ∧ PySem.W.kitOne K (.ref C) cv = some b ∧ Q (.bl b) H
section
variable {X : Cx}
theorem call_ei : CallR X (.builtin "isinstance") (rEi X.K) := by
  intro pins s σ H xs us Q I r h
  obtain ⟨a, C, c, cv, b, rfl, ty, T, hc, e, q⟩ := h
  obtain ⟨u1, u2, rfl, r1, r2⟩ := vals2 r
  have e2 := hc.eq r2
  subst e2
  cases r1
  have hcl : (PySem.W.clsIn X.K C).isSome = true := by
    obtain ⟨cd, h1, _⟩ := PySem.W.any_some T.hd
    rw [h1]
    rfl
  rcases ty with ⟨d, fs, ea, ed⟩ | ea
  · obtain ⟨t1, ho⟩ := exo_at I.hok ea
    obtain ⟨mA, hns, _⟩ := exd_at I.hok ed
    obtain ⟨od, hod, _⟩ := lookIn_ns hns
    have J : PySem.W.InstAt s.heap a ({ cls := .ref C, dict := some d, data := .fields #[.ref t1, .none, .none, .none, .bool false, .none] } : Obj) C (some od) := ⟨ho, rfl, rfl, hod⟩
    exact PySem.W.kia_one (PySem.W.kitx_exc hcl T.hg T.hk T.hs T.ha T.hn T.ht T.hm) I.kIn J e (fun z => nomatch z) fun tk => ⟨.bl b, H, I.tok tk, rfl, q⟩
  · obtain ⟨⟨oe, vs, ho, hz, hv, _⟩, _, _⟩ := I.hok a _ ea
    have J : PySem.W.InstAt s.heap a oe C none := by
      obtain ⟨oc, od, oda, osl⟩ := oe
      obtain ⟨h1, h2⟩ := hz
      dsimp only at h1 h2 hv
      subst h1 h2 hv
      exact ⟨ho, rfl, rfl, trivial⟩
    exact PySem.W.kia_one (PySem.W.kitx_exc hcl T.hg T.hk T.hs T.ha T.hn T.ht T.hm) I.kIn J e (fun z => nomatch z) fun tk => ⟨.bl b, H, I.tok tk, rfl, q⟩
end
section
variable {X : Cx} {pos : Pos}
/-- C(), an own exception class without own __init__ -/
theorem pe_x0 {C : Addr} {bmB : List Value} {B newId initId : String} {x : Str} {p : Pos} (F : ExcBaseFacts B newId initId bmB) (q : PySem.W.excIn X.K C bmB newId = true) (gC : X.mg x = some (.ref C)) (kC : PySem.W.keepIn X.K (.ref C) = true) (hg : Gl X x)
    (hdb : (x == ("__debug__" : Str)) = false := by decide) :
    PE X (.Call (.Name x p) [] [] pos) (fun σ H Q => ∀ a H2, Same H H2 → H2 a = some (ExO (.ref C) a) → Q (.ref a) H2) := by
  refine ⟨fun pins s σ H Q I h => ?_⟩
  refine wpAny_Call_Name_kw (ld_glob I hg gC ?_ hdb)
  refine PySem.W.callWith_K0 I.kIn kC ?_
  show wpAny _ _ (call (.ref C) []) _ _ _
  obtain ⟨bm, N, nm, qn, bs, hdct, sn, sub, ab, col, dd, k0, k1, k2, k3, k5, mN, hC, hN, hni, T⟩ := exc_obj I.kIn q
  refine wpAny_call_exc_subT F T hC hN hni (fun h' a hm => ?_) (Nat.zero_le _)
  have hn : H a = none := I.hok.gone hm.new
  obtain ⟨t, ht, _, _⟩ := hm.there
  exact ⟨.ref a, upd H a (ExO (.ref C) a), I.laidN hm.keeps hm.new hn (exO_ok ht ⟨rfl, rfl⟩ rfl rfl rfl (show 4 < 6 by decide)), rfl, h a _ (Same.new hn) upd_same⟩
/-- at a: an exception of a built-in class -/
def exv (T : String) (a : Addr) : HO := .ext fun h => ∃ o, h.get? a = some o ∧ o.cls = .type T
/-- ValueError(..) as a value -/
theorem call_VE : CallR X (.type "ValueError") (fun xs H Q => xs.length ≤ 2 ∧ ∀ a H2, Same H H2 → H2 a = some (exv "ValueError" a) → Q (.ref a) H2) := by
  intro pins s σ H xs us Q I r h
  obtain ⟨hl, q⟩ := h
  obtain ⟨hp, g, d, t, os⟩ := s
  refine wpAny_call_exc PySem.F.excCall_ValueError (fun h' a hm => ?_) (big2 r hl)
  have hn : H a = none := I.hok.gone hm.new
  obtain ⟨t2, ht, _, _⟩ := hm.there
  refine ⟨.ref a, upd H a (exv "ValueError" a), I.laidN hm.keeps hm.new hn ?_, rfl, q a _ (Same.new hn) upd_same⟩
  exact ⟨⟨_, ht, rfl⟩, ⟨_, ht⟩, fun h1 h2 ⟨o, z1, z2⟩ kk => ⟨o, kk o z1, z2⟩⟩
/-- isinstance(x, c), x a ValueError -/
def rVi (K : PySem.W.Frag) : List V → Hp → VK → Prop := fun xs H Q => ∃ (a : Addr) (c : V) (cv : Value) (b : Bool), xs = [.ref a, c] ∧ H a = some (exv "ValueError" a) ∧ ClsV c cv ∧ PySem.W.kitOne K (.type "ValueError") cv = some b ∧ Q (.bl b) H
theorem call_vi : CallR X (.builtin "isinstance") (rVi X.K) := by
  intro pins s σ H xs us Q I r h
  obtain ⟨a, c, cv, b, rfl, ea, hc, e, q⟩ := h
  obtain ⟨u1, u2, rfl, r1, r2⟩ := vals2 r
  have e2 := hc.eq r2
  subst e2
  cases r1
  obtain ⟨⟨o, ho, hcl⟩, _⟩ := I.hok a _ ea
  exact PySem.W.kia_one (PySem.W.kitx_bexc PySem.F.excAttr_ValueError (by kernel_rfl) (by kernel_rfl) (by decide +kernel)) I.kIn ⟨o, ho, hcl⟩ e (fun z => nomatch z) fun tk => ⟨.bl b, H, I.tok tk, rfl, q⟩
end
end Lw
end
section
set_option maxRecDepth 100000
set_option maxHeartbeats 4000000
/-! Defs that are called where no repr is under way; repr of data. -/
namespace Lw
open PySem PySem.Spec PyProof.Rows L2
/-- what a def promises where no repr is under way -/
structure FnG (P : Program) (w : World) (K : PySem.W.Frag) (mg : Str → Option Value) (base : Heap) (CX : CXT) (k : Nat) (f : Addr) (fd : FuncData) (ps : List Str) (sp : Sp) : Prop where
  len : ∀ vs H Q E, sp vs H Q E → vs.length = ps.length
  run : ∀ (A : Around) (outer : List Env) (s : Shared) (H : Hp) (args : Args) (us : List Value) (vs : List V) (Q : VK) (E : XK), A.guards = some [] → Room k A → Env0 P w K mg base A outer s H →
    BindsTo s fd args (ps.zip us) → Vals vs us → sp vs H Q E → codeAny (model P w) A (.call (.ref f) args) (CR CX outer P w H s Q E) s
theorem FnG.of {P : Program} {w : World} {K : PySem.W.Frag} {mg : Str → Option Value} {base : Heap} {CX : CXT} {k : Nat} {f : Addr} {fd : FuncData} {ps : List Str} {sp : Sp} (F : FnOk P w K mg base CX k f fd ps sp) : FnG P w K mg base CX k f fd ps sp :=
  ⟨F.len, fun A outer s H args us vs Q E _ => F.run A outer s H args us vs Q E⟩
theorem fnG_of {CX : CXT} {P : Program} {w : World} {K : PySem.W.Frag} {mg : Str → Option Value} {base : Heap} {k : Nat} {f : Addr} {name qual : Str} {params : Arguments} {body : List Stmt} {scope : Scope} {dV kV doc pm cdv ct oc : Value} {an od : Option Addr}
    {osl : Array (Option Value)} {N ps : List Str} {sp : Sp} (hK : K.lookup f = some ⟨oc, od, .func (PySem.W.fnOf name qual params body scope dV kV doc pm an cdv ct), osl⟩) (hc : PySem.W.codeIn K cdv qual = true) (S : FnScope N ps scope)
    (len : ∀ vs H Q E, sp vs H Q E → vs.length = ps.length)
    (walk : ∀ (A : Around) (outer : List Env) (s : Shared) (H : Hp) (vs : List V) (Q : VK) (E : XK), A.guards = some [] → Room k (A.deeper (envOfC qual scope s.heap.objs.size f cdv)) → sp vs H Q E →
      ∃ t, PSs (cxOf CX P w K mg base N qual scope f cdv A outer s H E) body t ∧ t { nx := fun _ H' => Q .non H', rt := Q } (start N vs) H) :
    FnG P w K mg base CX (k + 1) f (PySem.W.fnOf name qual params body scope dV kV doc pm an cdv ct) ps sp := by
  refine ⟨len, fun A outer s H args us vs Q E hG hr e0 hb rv hs => ?_⟩
  have hn := len _ _ _ _ hs
  have kin : K.In s.heap := e0.mod.kin.keeps fun b o z => (e0.bs b o z).1
  have lim : s.heap.NoLimit := e0.mod.nolimit.keeps fun b o z => (e0.bs b o z).1
  have kinds : ∀ y ∈ ps.zip us, scope.names.lookup y.1 = some .local ∨ (scope.names.lookup y.1 = some .cell ∧ ((cellsFrom (s.heap.objs.size + 1) scope.names []).lookup y.1).isSome = true) := by
    rintro ⟨n, v⟩ hy
    have z := S.par n (List.of_mem_zip hy).1
    exact z.imp id fun q => ⟨q, PySem.W.cellsFrom_some _ _ _ (.inl q)⟩
  refine codeAny_call_function hr.depth (kin _ _ hK) rfl S.co S.gen rfl (PySem.W.codeRec_of kin hc) (hb _ _ _ _ ?_)
  refine wpAny_newFunctionEnv_cells S.kind kinds fun env he s1 x => ?_
  subst he
  refine ⟨lim.keeps x.toInCall.keep, codeAny_func ?_⟩
  obtain ⟨t, ht, hq⟩ := walk A outer s H vs Q E hG (hr.deeper _) hs
  have J : Inv (cxOf CX P w K mg base N qual scope f cdv A outer s H E) [] (start N vs) H s1 := inv_start S hr.hd e0 hn rv x
  refine wpAny_mono (ht.run [] s1 (start N vs) H _ J hq) (fun fl s' z => ?_) fun e s' z => z
  have leave : ∀ {τ : L2.St} {H' : Hp} {v : V} {u : Value}, Inv (cxOf CX P w K mg base N qual scope f cdv A outer s H E) [] τ H' s' → RelV v u → Q v H' → CE outer P w H s Q u s' :=
    fun {τ H' v u} I rr q => ⟨v, H', I.os, I.bare, I.base, I.hok, rr, q⟩
  cases fl with
  | ret u =>
    obtain ⟨v, τ, H', I, rr, q⟩ := z
    exact leave I rr q
  | next =>
    obtain ⟨τ, H', I, q⟩ := z
    exact leave (v := V.non) (u := Value.none) I rfl q
  | brk =>
    obtain ⟨_, _, _, q⟩ := z
    exact False.elim q
  | cont =>
    obtain ⟨_, _, _, q⟩ := z
    exact False.elim q
section
variable {P : Program} {w : World} {K : PySem.W.Frag} {mg : Str → Option Value} {base : Heap}
/-- the rule for a def of the text -/
theorem okG {x qual : Str} {st : Stmt} {f : Addr} {fd : FuncData} {N ps : List Str} {k : Nat} {sp : Sp} (F : Fun K x qual st f fd) (S : FnScope N ps (defScope st)) (len : ∀ vs H Q E, sp vs H Q E → vs.length = ps.length)
    (walk : ∀ (cdv : Value) (A : Around) (outer : List Env) (s : Shared) (H : Hp) (vs : List V) (Q : VK) (E : XK), (A.deeper (envOfC qual (defScope st) s.heap.objs.size f cdv)).guards = some [] → Room k (A.deeper (envOfC qual (defScope st) s.heap.objs.size f cdv)) → sp vs H Q E →
      ∃ t, PSs (cxOf CX0 P w K mg base N qual (defScope st) f cdv A outer s H E).nox (defBody st) t ∧ t { nx := fun _ H' => Q .non H', rt := Q } (start N vs) H) : FnG P w K mg base CX0 (k + 1) f fd ps sp := by
  obtain ⟨oc, od, kV, doc, pm, an, cdv, ct, osl, rfl, lk, hcd⟩ := F.ex
  refine fnG_of lk hcd S len fun A outer s H vs Q E hg hr hsp => ?_
  obtain ⟨t, h, q⟩ := walk cdv A outer s H vs Q E hg hr hsp
  exact ⟨t, h.nox, q⟩
end
section
variable {X : Cx} {CX : CXT} {k : Nat} {f : Addr} {fd : FuncData} {ps : List Str} {sp : Sp} {ds : List Value} {dvs : List V} {E : XK} {x : Str} {p pos : Pos} {e : Expr} {es : List Expr} {t : TA}
theorem run_fnG {pins : List (Addr × Obj)} {σ : L2.St} {H : Hp} {s : Shared} {Q : VK} {us : List Value} {vs : List V} (F : FnG X.prog X.w X.K X.mg X.base CX k f fd ps sp) (hG : X.A.guards = some []) (hr : Room k X.A) (hb : Binds X.K fd ps ds) (hd : Vals dvs ds)
    (hx : Passes CX X E) (I : Inv X pins σ H s) (rv : Vals vs us) (h : sp (vs ++ dvs) H Q E) : wpAny (model X.prog X.w) X.A (call (.ref f) us) (EP X pins σ Q) X.xe s := by
  have both : Vals (vs ++ dvs) (us ++ ds) := rv.append hd
  have ll : (us ++ ds).length = ps.length := both.length.symm.trans (F.len _ _ _ _ h)
  refine wpAny_call (codeAny_mono (F.run X.A X.stack s H ⟨us, []⟩ (us ++ ds) (vs ++ dvs) Q E hG hr I.env0 (hb s us I.kIn ll) both h) fun r s' z => ?_)
  cases r with
  | ok fl =>
    cases fl with
    | ret u => exact I.after z
    | next => exact False.elim z
    | brk => exact False.elim z
    | cont => exact False.elim z
  | error err => exact hx pins σ H s err s' I z
/-- f(e, ..) -/
theorem pe_callG (F : FnG X.prog X.w X.K X.mg X.base CX k f fd ps sp) (hG : X.A.guards = some []) (hr : Room k X.A) (hg : Gl X x) (hm : X.mg x = some (.ref f)) (hk : PySem.W.keepIn X.K (.ref f) = true) (hb : Binds X.K fd ps ds) (hd : Vals dvs ds) (hx : Passes CX X E)
    (ha : PA X (e :: es) t) (hdb : (x == ("__debug__" : Str)) = false := by decide) (he : starEach (e :: es) X.env = (false, eval e X.env) :: starEach es X.env := by rfl) (hpl : (backTo pos (starEach es X.env)).any (·.1) = false := by rfl) :
    PE X (.Call (.Name x p) (e :: es) [] pos) (tCall sp dvs E t) := ⟨fun pins s σ H Q I h => by
  refine wpAny_Call_Name_kw (ld_glob I hg hm ?_ hdb)
  exact PySem.W.callWith_K (h₀ := X.base) I.ok.mod.kin hk (thn (ha.run pos pins s σ H _ I h) fun us s1 ⟨vs, H1, I1, r, q⟩ => ⟨I1.kIn, run_fnG F hG hr hb hd hx I1 r q⟩) he hpl⟩
end

/-! ### data, dicts with written keys among them -/
def keyD : Key → PyData
  | .inl i => .int i
  | .inr s => .str s
mutual
inductive Da (K : PySem.W.Frag) (H : Hp) : V → PyData → Prop
  | non : Da K H .non .none
  | bl (b : Bool) : Da K H (.bl b) (.bool b)
  | int (i : Int) : Da K H (.int i) (.int i)
  | str (x : Str) : Da K H (.str x) (.str x)
  | lst {a : Addr} {xs : List V} {ds : List PyData} : H a = some (.lst xs) → DaAll K H xs ds → Da K H (.ref a) (.list ds)
  | tup {a : Addr} {xs : List V} {ds : List PyData} : H a = some (.tup xs) → DaAll K H xs ds → Da K H (.ref a) (.tuple ds)
  | dic {a : Addr} {kvs : List (Key × V)} {ds : List PyData} : H a = some (.dK kvs) → DaAll K H (kvs.map (·.2)) ds → Da K H (.ref a) (.dict ((kvs.map fun p => keyD p.1).zip ds))
inductive DaAll (K : PySem.W.Frag) (H : Hp) : List V → List PyData → Prop
  | nil : DaAll K H [] []
  | cons {v : V} {vs : List V} {d : PyData} {ds : List PyData} : Da K H v d → DaAll K H vs ds → DaAll K H (v :: vs) (d :: ds)
end
mutual
theorem Da.keep {K : PySem.W.Frag} {H H' : Hp} (s : Same H H') : ∀ {v : V} {d : PyData}, Da K H v d → Da K H' v d
  | _, _, .non => .non
  | _, _, .bl b => .bl b
  | _, _, .int i => .int i
  | _, _, .str x => .str x
  | _, _, .lst h a => .lst (s _ _ h) (DaAll.keep s a)
  | _, _, .tup h a => .tup (s _ _ h) (DaAll.keep s a)
  | _, _, .dic h a => .dic (s _ _ h) (DaAll.keep s a)
theorem DaAll.keep {K : PySem.W.Frag} {H H' : Hp} (s : Same H H') : ∀ {vs : List V} {ds : List PyData}, DaAll K H vs ds → DaAll K H' vs ds
  | _, _, .nil => .nil
  | _, _, .cons h t => .cons (Da.keep s h) (DaAll.keep s t)
end
theorem DaAll.length {K : PySem.W.Frag} {H : Hp} : ∀ {vs : List V} {ds : List PyData}, DaAll K H vs ds → vs.length = ds.length
  | _, _, .nil => rfl
  | _, _, .cons _ t => congrArg Nat.succ t.length
theorem zip_fst {α β : Type} : ∀ {l : List α} {m : List β}, l.length = m.length → (l.zip m).map (·.1) = l
  | [], _, _ => by simp
  | a :: l, [], h => by cases h
  | a :: l, b :: m, h => by simp [zip_fst (Nat.succ.inj h)]
theorem zip_snd {α β : Type} : ∀ {l : List α} {m : List β}, l.length = m.length → (l.zip m).map (·.2) = m
  | [], [], _ => rfl
  | [], b :: m, h => by cases h
  | a :: l, [], h => by cases h
  | a :: l, b :: m, h => by simp [zip_snd (Nat.succ.inj h)]
section
variable {X : Cx} {pins : List (Addr × Obj)} {σ : L2.St} {H : Hp} {s : Shared}
theorem read_key {h : Heap} {k : Key} {v : Value} (e : keyIs k v = true) : Reads h v (keyD k) [] := by
  rcases keyIs_shape e with ⟨i, t, rfl, rfl⟩ | ⟨x, t, rfl, rfl⟩
  · exact Reads.int i t
  · exact Reads.str x t
theorem reads_keys {prog : Program} {w : World} {h : Heap} : ∀ {es : List DictEntry} {vs : List (Key × Value)} {kvs : List (Key × V)}, Pairs (mixKind prog w) es vs → KV kvs vs →
    ReadsAll h (es.map (·.key)) (kvs.map fun p => keyD p.1) [] ∧ Vals (kvs.map (·.2)) (es.map (·.val)) := by
  intro es vs kvs hp
  induction hp generalizing kvs with
  | nil =>
    intro r
    cases r
    exact ⟨.nil, .nil⟩
  | cons h1 h2 _ ih =>
    intro r
    cases r with
    | cons a b =>
      obtain ⟨q1, q2⟩ := ih b
      obtain ⟨e1, e2⟩ := a
      refine ⟨?_, .cons (by dsimp only; rw [h2]; exact e2) q2⟩
      refine ReadsAll.cons (as := []) (bs := []) ?_ q1
      dsimp only
      rw [e1]
      exact read_key h1
mutual
theorem Da.reads (I : Inv X pins σ H s) : ∀ (v : V) (d : PyData) (u : Value), Da X.K H v d → RelV v u → ∃ as, Reads s.heap u d as ∧ ∀ b ∈ as, H b ≠ none
  | _, _, _, .non, r => by
    cases r
    exact ⟨_, Reads.none, fun b z => nomatch z⟩
  | _, _, _, .bl b, r => by
    cases r
    exact ⟨_, Reads.bool b, fun b z => nomatch z⟩
  | _, _, _, .int i, r => by
    obtain ⟨t, rfl⟩ := r
    exact ⟨_, Reads.int i t, fun b z => nomatch z⟩
  | _, _, _, .str x, r => by
    obtain ⟨t, rfl⟩ := r
    exact ⟨_, Reads.str x t, fun b z => nomatch z⟩
  | _, _, _, .lst (a := a) h ha, r => by
    cases r
    obtain ⟨its, rv, ⟨o, n, ho, hc, _, hd⟩, _⟩ := I.list (SqL.of h)
    obtain ⟨as, hr, hn⟩ := DaAll.reads I _ _ its ha rv
    refine ⟨_, Reads.list ho hc hd hr, fun b z => ?_⟩
    rcases List.mem_cons.mp z with e | z
    · rw [e, h]
      exact fun y => nomatch y
    · exact hn b z
  | _, _, _, .tup (a := a) h ha, r => by
    cases r
    obtain ⟨its, rv, ⟨o, ho, hc, n, hd⟩, _⟩ := I.tuple (SqT.of h)
    obtain ⟨as, hr, hn⟩ := DaAll.reads I _ _ its ha rv
    exact ⟨_, Reads.tuple ho hc hd hr, hn⟩
  | _, _, _, .dic (a := a) (kvs := kvs) (ds := ds) h ha, r => by
    cases r
    obtain ⟨_, _, vs, rel, o, es, ep, ho, hx, hd, _, hp, _⟩ := dk_of I.hok h
    obtain ⟨q1, q2⟩ := reads_keys (h := s.heap) hp rel
    obtain ⟨bs, hr, hn⟩ := DaAll.reads I _ _ _ ha q2
    have hl : (kvs.map fun p => keyD p.1).length = ds.length := by
      rw [List.length_map, ← ha.length, List.length_map]
    refine ⟨_, Reads.dict (as := []) (bs := bs) ho hx.1 hd (by rw [zip_fst hl]; exact q1) (by rw [zip_snd hl]; exact hr), fun b z => ?_⟩
    have z' : b ∈ a :: bs := z
    rcases List.mem_cons.mp z' with e | z2
    · rw [e, h]
      exact fun y => nomatch y
    · exact hn b z2
theorem DaAll.reads (I : Inv X pins σ H s) : ∀ (vs : List V) (ds : List PyData) (us : List Value), DaAll X.K H vs ds → Vals vs us → ∃ as, ReadsAll s.heap us ds as ∧ ∀ b ∈ as, H b ≠ none
  | _, _, _, .nil, r => by
    cases r
    exact ⟨_, ReadsAll.nil, fun b z => nomatch z⟩
  | _, _, _, .cons h1 h2, r => by
    cases r with
    | cons r1 r2 =>
      obtain ⟨as, q1, n1⟩ := Da.reads I _ _ _ h1 r1
      obtain ⟨bs, q2, n2⟩ := DaAll.reads I _ _ _ h2 r2
      refine ⟨_, ReadsAll.cons q1 q2, fun b z => ?_⟩
      rcases List.mem_append.mp z with z | z
      · exact n1 b z
      · exact n2 b z
end
end
section
variable {X : Cx}
/-- repr of data -/
theorem call_repr (hG : X.A.guards = some []) (hu : X.A.units + 64 < cLine) (hS : ∃ m, X.base.Ns sysModules m) :
    CallR X (.builtin "repr") (fun xs H Q => ∃ v d, xs = [v] ∧ Da X.K H v d ∧ d.showable = true ∧ d.depth ≤ 60 ∧ d.shown.length ≤ sizeLine ∧ Q (.str d.shown) H) := by
  intro pins s σ H xs us Q I r h
  obtain ⟨v, d, rfl, hd, hs, hp, hz, q⟩ := h
  obtain ⟨u, rfl, ru⟩ := vals1 r
  obtain ⟨as, rd, hn⟩ := Da.reads I v d u hd ru
  have no : sysModules ∉ as := fun z => by
    obtain ⟨m, o, es, ep, ho, _⟩ := hS
    exact hn _ z (I.bs _ _ ho).2
  have fin : ∀ h' u' tk, (∀ b o, s.heap.get? b = some o → h'.get? b = some o) → EP X pins σ Q (.str d.shown u') { s with heap := h', toks := tk } := fun h' u' tk kp =>
    ⟨.str d.shown, H, I.kept (t' := tk) kp, ⟨u', rfl⟩, q⟩
  have here : EP X pins σ Q (.str d.shown s.toks) { s with toks := s.toks + 1 } := ⟨.str d.shown, H, I.tok _, ⟨_, rfl⟩, q⟩
  cases hd with
  | non =>
    cases ru
    exact PySem.P.repr_of_none here
  | bl b =>
    cases ru
    exact PySem.P.repr_of_bool here
  | int i =>
    obtain ⟨t, rfl⟩ := ru
    exact PySem.P.repr_of_int (by simpa [PyData.showable] using hs) here
  | str x =>
    obtain ⟨t, rfl⟩ := ru
    exact PySem.P.repr_of_str here hz
  | lst _ _ =>
    cases ru
    exact repr_of_reads' rd hs (fun _ => no) hG (by omega) (fun _ _ z => z) fin hz
  | tup _ _ =>
    cases ru
    exact repr_of_reads' rd hs (fun _ => no) hG (by omega) (fun _ _ z => z) fin hz
  | dic _ _ =>
    cases ru
    exact repr_of_reads' rd hs (fun _ => no) hG (by omega) (fun _ _ z => z) fin hz
end
end Lw
end
section
set_option maxRecDepth 100000
set_option maxHeartbeats 4000000
/-! The law's own end: its promise where no repr is under way. -/
namespace Lw
open PySem PySem.Spec PyProof.Rows L2
section
variable {P : Program} {w : World} {K : PySem.W.Frag} {mg mb : Str → Option Value} {k : Nat} {fa a : Addr} {fd : FuncData} {x : Str} {sp : Sp} {s₁ : Shared} {vs : List Value} {ns : List Int}
/-- the law is called at the heap behind the top -/
theorem law_callG (kin : K.In s₁.heap) (hg : s₁.heap.Ns mainGlobals mg) (hb : s₁.heap.Ns builtinsNs mb) (hbb : ∀ x : Str, x ≠ "__name__" → mb x = bootBuiltins x) (lim : s₁.heap.NoLimit) (hm : ∃ m, s₁.heap.Ns sysModules m) (gens : s₁.gens = #[])
    (ha : s₁.heap.get? a = some { cls := .type "list", data := .seq vs.toArray }) (hi : IntsAre vs ns) (hl : ns.length ≤ sizeLine) (hr : Room k callerA)
    (F : ∀ base : Heap, K.In base → base.Ns mainGlobals mg → (∃ m, base.Ns sysModules m) → FnG P w K mg base CX0 k fa fd [x] sp) (hbind : ∀ (s : Shared) (u : Value), BindsTo s fd ⟨[u], []⟩ [(x, u)])
    (hsp : ∀ H : Hp, Only H → SqL K H a (ns.map V.int) → sp [.ref a] H (fun v _ => v = .bl true) fun _ _ _ => False) :
    codeAny (model P w) callerA (.call (.ref fa) ⟨[.ref a], []⟩) (fun r s' => r = .ok (.ret (.bool true)) ∧ OldK s₁.heap s'.heap ∧ s'.os = s₁.os ∧ AllBare s'.gens) s₁ := by
  have vals := vals_ints hi
  have same := hi.length
  -- H: what is tracked at the begin: the script alone, or nothing
  have main : ∀ H : Hp, Only H → SqL K H a (ns.map V.int) → HOk P w H s₁.heap → (∀ b, b ≠ a → H b = none) → (K.lookup a ≠ none → H a = none) →
      codeAny (model P w) callerA (.call (.ref fa) ⟨[.ref a], []⟩) (fun r s' => r = .ok (.ret (.bool true)) ∧ OldK s₁.heap s'.heap ∧ s'.os = s₁.os ∧ AllBare s'.gens) s₁ := by
    intro H only sq ok away kept
    have dict_free : ∀ {b : Addr} {o : Obj} {es : Array DictEntry} {ep : Nat}, s₁.heap.get? b = some o → o.data = .dict es ep → H b = none := by
      intro b o es ep e1 e2
      refine away b fun e3 => ?_
      rw [e3, ha] at e1
      cases e1
      cases e2
    have ns_base : ∀ {b : Addr} {m : Str → Option Value}, s₁.heap.Ns b m → (hidT s₁.heap H).Ns b m := by
      rintro b m ⟨o, es, ep, e1, e2, e3⟩
      exact ⟨o, es, ep, hidT_get e1 (dict_free e1 e2), e2, e3⟩
    have k_base : K.In (hidT s₁.heap H) := by
      intro b o e
      refine hidT_get (kin b o e) ?_
      by_cases q : b = a
      · rw [q]
        refine kept ?_
        rw [← q, e]
        exact fun y => nomatch y
      · exact away b q
    have mod : Mod K mg (hidT s₁.heap H) := ⟨k_base, ns_base hg, ⟨mb, ns_base hb, hbb⟩, by
      obtain ⟨mc, h1, h2⟩ := lim
      exact ⟨mc, ns_base h1, h2⟩⟩
    have env : Env0 P w K mg (hidT s₁.heap H) callerA [] s₁ H := { frames := rfl, mod := mod, bs := fun b o e => of_hidT e, bsz := Nat.le_of_eq (hidT_size _ _), funs := trivial, frf := fun b z => absurd (show b ∈ ([] : List Addr) from z) (by simp), hok := ok, bare := .of_eq gens }
    have G := F _ k_base (ns_base hg) (by
      obtain ⟨m, h1⟩ := hm
      exact ⟨m, ns_base h1⟩)
    refine codeAny_mono (G.run callerA [] s₁ H ⟨[.ref a], []⟩ [.ref a] [.ref a] _ _ rfl hr env (hbind s₁ (.ref a)) (.cons rfl .nil) (hsp H only sq)) fun r s' z => ?_
    cases r with
    | error e => exact False.elim z
    | ok fl =>
      cases fl with
      | ret u =>
        obtain ⟨v, H', eo, bare, un, ok', rv, q⟩ := z
        have q2 : v = .bl true := q
        subst q2
        obtain rfl : u = Value.bool true := rv
        refine ⟨rfl, OldK.of_keep fun b o e => ?_, eo, bare⟩
        cases q3 : H b with
        | none => exact un.keep b o e q3 (fun z => absurd (show b ∈ ([] : List Addr) from z) (by simp)) (by simp)
        | some t =>
          rcases only b with z | ⟨ob, xs, z⟩
          · rw [q3] at z
            cases z
          · obtain ⟨e1, _⟩ := ok b _ z
            obtain ⟨e2, _⟩ := ok' b _ (un.frzs b ob _ z)
            rw [e] at e1
            cases e1
            exact e2
      | next => exact False.elim z
      | brk => exact False.elim z
      | cont => exact False.elim z
  by_cases hk : K.lookup a = none
  · have z0 : ∀ b u, (if b = a then some (HO.frz { cls := .type "list", data := .seq vs.toArray } (.lst (ns.map V.int))) else none) = some u → b = a ∧ u = HO.frz { cls := .type "list", data := .seq vs.toArray } (.lst (ns.map V.int)) := by
      intro b u z
      by_cases q : b = a
      · rw [if_pos q] at z
        exact ⟨q, (Option.some.inj z).symm⟩
      · rw [if_neg q] at z
        cases z
    refine main (fun b => if b = a then some (.frz { cls := .type "list", data := .seq vs.toArray } (.lst (ns.map V.int))) else none) (fun b => ?_) (.inl (.inr ⟨_, if_pos rfl⟩)) (fun b u z => ?_) (fun b q => if_neg q) fun q => absurd hk q
    · by_cases q : b = a
      · exact .inr ⟨_, _, if_pos q⟩
      · exact .inl (if_neg q)
    · obtain ⟨rfl, rfl⟩ := z0 b u z
      exact ⟨ha, by rw [List.length_map]; exact hl, vs, _, vals, ha⟩
  · obtain ⟨o, ho⟩ := Option.ne_none_iff_exists'.mp hk
    have e := kin a o ho
    rw [ha] at e
    cases e
    exact main (fun _ => none) (fun _ => .inl rfl) (.inr ⟨_, vs.toArray, _, ho, rfl, rfl, rfl, by rw [List.size_toArray, same]; exact hl, by simpa using vals⟩) (fun b u z => nomatch z) (fun _ _ => rfl) fun _ => rfl
end
/-- the goal that the head leaves -/
theorem walk_ofG {l : PySem.W.OpenLaw} {n k : Nat} {q : Program} {loose : List Str} {XP : (Str → Option Value) → Heap → Prop} {YP : World → Heap → Prop} {d : DefRec} {K : Params → PySem.W.Frag} {sp : PySem.W.Frag → Sp} {x : Str}
    (hn : l.most = some n) (hn2 : n ≤ sizeLine) (hdf : d.params.defaults = []) (hr : Room k callerA) (him : importsNone q = true)
    (hY : ∀ (w : World) (h : Heap), YP w h → (K w.params).In h)
    (F : ∀ (w : World) (mg : Str → Option Value) (fa : Addr) (h : Heap), (K w.params).In h → h.Ns mainGlobals mg → mg d.name = some (.ref fa) →
      ∃ fd : FuncData, (∀ (s : Shared) (u : Value), BindsTo s fd ⟨[u], []⟩ [(x, u)]) ∧
        ∀ base : Heap, (K w.params).In base → base.Ns mainGlobals mg → (∃ m, base.Ns sysModules m) → FnG l.prog w (K w.params) mg base CX0 k fa fd [x] (sp (K w.params)))
    (hsp : ∀ (K : PySem.W.Frag) (H : Hp) (a : Addr) (ns : List Int), ns.length ≤ n → Only H → SqL K H a (ns.map V.int) → sp K [.ref a] H (fun v _ => v = .bl true) fun _ _ _ => False) :
    PySem.W.WalkO q loose XP YP l.row.toRowW d [] (fun f vs => PySem.call f vs) := by
  refine Att.attach_call hn hdf fun w s₀ s₁ mg mb fa o pm cd doc a vs ns G Y ho hd hcd hmg hobj hints hlen hgen => ?_
  have kin := hY w _ Y
  obtain ⟨fd, hb, hF⟩ := F w mg fa _ kin G.T.g hmg
  have hm : ∃ m, s₁.heap.Ns sysModules m := by
    obtain ⟨m, z, _⟩ := (G.T.seer him).mods
    exact ⟨m, z⟩
  exact law_callG kin G.T.g G.T.b G.T.builtins G.T.nolimit hm hgen hobj hints (Nat.le_trans hlen hn2) hr hF hb fun H hO hS => hsp _ H a ns hlen hO hS
end Lw
end
section
set_option maxRecDepth 100000
set_option maxHeartbeats 4000000
/-! New objects, told by what stands behind them: all that stood, and the new one. -/
namespace Lw
open PySem PySem.Spec PyProof.Rows L2
section
variable {X : Cx} {es : List Expr} {t : TA} {pos : Pos} {e : Expr} {te te' : TE}
theorem PE.imp (h : PE X e te) (i : ∀ σ H Q, te' σ H Q → te σ H Q) : PE X e te' := ⟨fun pins s σ H Q I q => h.run pins s σ H Q I (i σ H Q q)⟩
theorem OpR.imp {f : Value → Value → Sem Value} {r r' : R2} (h : OpR X f r) (i : ∀ x y H Q, r' x y H Q → r x y H Q) : OpR X f r' := fun pins s σ H x y v u Q I rx ry q => h pins s σ H x y v u Q I rx ry (i x y H Q q)
theorem CallR.imp {f : Value} {r r' : List V → Hp → VK → Prop} (h : CallR X f r) (i : ∀ xs H Q, r' xs H Q → r xs H Q) : CallR X f r' := fun pins s σ H xs us Q I rx q => h pins s σ H xs us Q I rx (i xs H Q q)
/-- a new object o, told -/
def New (o : HO) (H : Hp) (Q : VK) : Prop := ∀ p H2, H p = none → Same H H2 → H2 p = some o → Q (.ref p) H2
theorem New.at {o : HO} {H : Hp} {Q : VK} (h : New o H Q) {p : Addr} (n : H p = none) : Q (.ref p) (upd H p o) := h p _ n (Same.new n) upd_same
def tLstS (t : TA) : TE := fun σ H Q => t σ H fun xs H1 => xs.length ≤ sizeLine ∧ New (.lst xs) H1 Q
def tTupS (t : TA) : TE := fun σ H Q => t σ H fun xs H1 => xs.length ≤ sizeLine ∧ New (.tup xs) H1 Q
theorem pe_lstS (h : PA X es t) : PE X (.List es pos) (tLstS t) := by
  refine ⟨fun pins s σ H Q I hq => ?_⟩
  refine wpAny_List_spliced (thn (h.run pos pins s σ H _ I hq) fun us s1 ⟨xs, H1, J, r, z, q⟩ => ⟨r.length ▸ z, ?_⟩)
  have n := J.hok.fresh (Nat.le_refl s1.heap.objs.size)
  refine ⟨.ref s1.heap.objs.size, upd H1 s1.heap.objs.size (.lst xs), J.laid (t' := s1.toks) (fun b u w => Heap.get?_push_of_some _ w) (Nat.le_refl _) ?_, rfl, q.at n⟩
  exact ⟨z, us, 0, r, Heap.get?_push_size _ rfl⟩
theorem pe_tupS {c} (h : PA X es t) : PE X (.Tuple es c pos) (tTupS t) := by
  refine ⟨fun pins s σ H Q I hq => ?_⟩
  refine wpAny_Tuple_spliced (thn (h.run pos pins s σ H _ I hq) fun us s1 ⟨xs, H1, J, r, z, q⟩ => ⟨r.length ▸ z, ?_⟩)
  have n := J.hok.fresh (Nat.le_refl s1.heap.objs.size)
  refine ⟨.ref s1.heap.objs.size, upd H1 s1.heap.objs.size (.tup xs), J.laid (t' := s1.toks) (fun b u w => Heap.get?_push_of_some _ w) (Nat.le_refl _) ?_, rfl, q.at n⟩
  exact ⟨z, us, r, ⟨_, Heap.get?_push_size _ rfl, rfl, _, rfl⟩⟩
/-- {} -/
theorem pe_d0S : PE X (.Dict [] [] pos) (fun _ H Q => New (.dK []) H Q) := PE.imp pe_dnewK fun _ _ _ h _ n => h.at n
/-- {'a': 'b'} -/
theorem pe_d1S {k v : Str} {i j : Nat} {p q : Pos} : PE X (.Dict [some (.Constant (.str k) i p)] [.Constant (.str v) j q] pos) (fun _ H Q => New (.dK [(Sum.inr k, .str v)]) H Q) := by
  refine PE.imp (pe_disp (pps_cons pe_str pe_str pps_nil) rfl rfl (fun z => by cases z) (by simp)) fun σ H Q h => ?_
  intro l n
  refine ⟨upd_same, [(Sum.inr k, .str v)], rfl, by simp, ?_⟩
  rw [upd_upd]
  exact h.at n
/-- xs[lo:hi] of a list -/
def rSlS (K : PySem.W.Frag) : V → Option Int → Option Int → Hp → VK → Prop := fun x lo hi H Q => ∃ a xs, x = .ref a ∧ SqL K H a xs ∧ New (.lst (cutV xs lo hi)) H Q
theorem pe_slS {e : Expr} {te : TE} {lo hi : Option Expr} {tl th} {p2 : Pos} (he : PE X e te) (hl : PO X lo tl) (hu : PO X hi th) : PE X (.Subscript e (.Slice lo hi none p2) pos) (tSl (rSlS X.K) te tl th) := by
  refine pe_slice (r := rSlS X.K) ?_ he hl hu
  intro pins s σ H x v vl vu lo hi sl Q I rx hs pl pu h
  obtain ⟨a, xs, ex, sq, q⟩ := h
  exact sl_list pins s σ H x v vl vu lo hi sl Q I rx hs pl pu ⟨a, xs, ex, sq, fun p n => q.at n⟩
/-- list(xs) -/
theorem call_listS : CallR X (.type "list") (fun xs H Q => ∃ p ys, xs = [.ref p] ∧ (SqL X.K H p ys ∨ SqT X.K H p ys) ∧ New (.lst ys) H Q) :=
  CallR.imp call_list_of fun _ _ _ ⟨p, ys, e, s, q⟩ => ⟨p, ys, e, s, fun _ n => q.at n⟩
/-- xs + ys -/
def rCatS : R2 := fun x y H Q => ∃ l b xs zs, x = .ref l ∧ y = .ref b ∧ H l = some (.lst xs) ∧ H b = some (.lst zs) ∧ xs.length + zs.length ≤ sizeLine ∧ New (.lst (xs ++ zs)) H Q
theorem op_catS : OpR X (binaryOp .Add) rCatS := OpR.imp op_cat fun _ _ _ _ ⟨l, b, xs, zs, e1, e2, h1, h2, z, q⟩ => ⟨l, b, xs, zs, e1, e2, h1, h2, z, fun _ n => q.at n⟩
/-- xs * k -/
def rRepS : R2 := fun x y H Q => ∃ l k xs, x = .ref l ∧ y = .int k ∧ H l = some (.lst xs) ∧ -(2 ^ 63) ≤ k ∧ k < 2 ^ 63 ∧ xs.length * k.toNat ≤ sizeLine ∧ New (.lst (List.replicate k.toNat xs).flatten) H Q
theorem op_repS : OpR X (binaryOp .Mult) rRepS := OpR.imp op_rep fun _ _ _ _ ⟨l, k, xs, e1, e2, h1, h2, h3, z, q⟩ => ⟨l, k, xs, e1, e2, h1, h2, h3, z, fun _ n => q.at n⟩
end

/-! ### the pen -/
theorem cut63 {xs : List V} (h : xs.length ≤ 63) : cutV xs none (some 63) = xs := by
  have e1 : HT.sIx xs.length 0 none = 0 := by simp [HT.sIx]
  have e2 : HT.sIx xs.length xs.length (some 63) = xs.length := by
    simp [HT.sIx]
    omega
  unfold cutV
  rw [e1, e2]
  simp
def spPen (K : PySem.W.Frag) : Sp := fun vs H Q _ => ∃ (a : Addr) (ns : List Int), vs = [.ref a] ∧ SqL K H a (ns.map V.int) ∧ ns.length ≤ 63 ∧ ∀ p c H2, Same H H2 → PenAt H2 p c ns 0 0 → Q (.ref p) H2
/-- one of some things -/
def spPick : Sp := fun vs H Q _ => ∃ (p c q : Addr) (ns : List Int) (i r : Int) (xs : List V), vs = [.ref p, .ref q] ∧ PenAt H p c ns i r ∧ i ≤ 1000000 ∧ H q = some (.lst xs) ∧ q ≠ p ∧ xs ≠ [] ∧ xs.length < 1000 ∧
  ∀ (x : V) (i' r' : Int) (H' : Hp), x ∈ xs → i ≤ i' → i' ≤ i + 1 → PenAt H' p c ns i' r' → But p H H' → Q x H'
theorem at_mem {xs : List V} {d : Int} (h0 : 0 ≤ d) (h1 : d < (xs.length : Int)) : ∃ x, x ∈ xs ∧ atI xs d = some x := by
  obtain ⟨j, rfl⟩ := Int.eq_ofNat_of_zero_le h0
  have hj : j < xs.length := by omega
  exact ⟨xs[j], List.getElem_mem hj, atI_nat (List.getElem?_eq_getElem hj)⟩
theorem yes_if {σ : L2.St} {H : Hp} {A B : Hp → Prop} (h : A H) : tYes σ H (fun b H3 => if b = true then A H3 else B H3) := by
  show (if true = true then A H else B H)
  rw [if_pos rfl]
  exact h
end Lw
end
section
set_option maxRecDepth 100000
set_option maxHeartbeats 4000000
namespace K00
open PySem PySem.Spec PyProof.Rows L2 Lw
def top (i : Nat) : Stmt := PySem.Challenge.pw_stayhouse_k00_errors_and_their_fields.main.body.getD i (.Pass ⟨0, 0, 0, 0⟩)
abbrev sPen : Stmt := top 32
abbrev sDraw : Stmt := top 33
abbrev sPick : Stmt := top 34

section
variable {P : Program} {w : World} {K : PySem.W.Frag} {mg : Str → Option Value} {base : Heap}
theorem scD : FnScope ["_law_pen_here", "_law_many", "_law_digit", "_law_spot", "_law_cell", "_law_great", "_law_stirred"] ["_law_pen_here", "_law_many"] (defScope sDraw) := ⟨rfl, rfl, rfl, by decide +kernel, rfl, by decide +kernel, by decide +kernel⟩
theorem ok_draw {f : Addr} {fd : FuncData} (F : Fun K "_law_draw" "_law_draw" sDraw f fd) (T : TxtB mg) : FnOk P w K mg base CX0 1 f fd ["_law_pen_here", "_law_many"] spDraw := by
  refine F.ok scD (fun vs H Q E h => ?_) (fun cdv A outer s H vs Q E hr h => ?_)
  · obtain ⟨p, c, ns, i, r, m, rfl, _⟩ := h
    rfl
  · obtain ⟨p, c, ns, i, r, m, rfl, D, hm0, hm1, hi, k⟩ := h
    refine ⟨_, pss_cons (ps_if (pt_cmpR op_gt (pe_ix ix_list (pv 0) pe_int (fun _ _ => rfl)) pe_int (nomark _))
        (pss_cons (ps_set (i := 2) scD.nd rfl (Or.inl rfl) (pe_op op_modN (pe_callTy call_int1 (by rfl) T.int (by decide +kernel) (pa_cons (pe_ix ix_list (pv 0) pe_int (fun _ _ => rfl)) pa_nil)) (pv 1)))
        (pss_cons (ps_asg (pe_op op_fdivN (pe_callTy call_int1 (by rfl) T.int (by decide +kernel) (pa_cons (pe_ix ix_list (pv 0) pe_int (fun _ _ => rfl)) pa_nil)) (pv 1)) (pg_sub (pv 0) pe_int set_list))
        (pss_one (ps_ret (pv 2))))) pss_nil)
      (pss_cons (ps_set (i := 3) scD.nd rfl (Or.inl rfl) (pe_ix ix_list (pv 0) pe_int (fun _ _ => rfl)))
      (pss_cons (ps_asg (pe_op op_add (pv 3) pe_int) (pg_sub (pv 0) pe_int set_list))
      (pss_cons (ps_set (i := 4) scD.nd rfl (Or.inl rfl) (pe_op op_add (pe_op op_mul pe_int (pv 3)) pe_int))
      (pss_cons (ps_if (pt_cmpR (op_neD (hr.units)) (pe_ix ix_list (pv 0) pe_int (fun _ _ => rfl)) (pe_lst pa_nil) (nomark _))
        (pss_one (ps_set (i := 4) scD.nd rfl (Or.inl rfl) (pe_ix ix_list (pe_ix ix_list (pv 0) pe_int (fun _ _ => rfl)) (pe_op op_modN (pe_callTy call_int1 (by rfl) T.int (by decide +kernel) (pa_cons (pv 3) pa_nil)) (pe_callB call_len_seq (by rfl) T.len PySem.boot_len (pa_cons (pe_ix ix_list (pv 0) pe_int (fun _ _ => rfl)) pa_nil))) (fun _ _ => rfl)))) pss_nil)
      (pss_cons (ps_if (PW.pt (pw_and (pt_cmpR op_lt (pv 3) (pe_callB call_len_seq (by rfl) T.len PySem.boot_len (pa_cons (pe_ix ix_list (pv 0) pe_int (fun _ _ => rfl)) pa_nil)) (nomark _))
            (pw_and1 (pt_cmpR op_ge (pe_callB call_abs (by rfl) T.abs (by decide +kernel) (pa_cons (pv 4) pa_nil)) (pe_op op_pow pe_int pe_int) (nomark _)))))
          (pss_cons (ps_set (i := 5) scD.nd rfl (Or.inl rfl) (pe_op op_add (pe_op op_mul pe_int (pe_op op_sub (pe_callB call_abs (by rfl) T.abs (by decide +kernel) (pa_cons (pv 4) pa_nil)) (pe_op op_pow pe_int pe_int)))
              (pe_callTy call_int1 (by rfl) T.int (by decide +kernel) (pa_cons (pe_cmpR op_lt (pv 4) pe_int (nomark _)) pa_nil))))
          (pss_cons (ps_asg (pe_op op_fdivN (pe_callTy call_int1 (by rfl) T.int (by decide +kernel) (pa_cons (pv 5) pa_nil)) (pv 1)) (pg_sub (pv 0) pe_int set_list))
          (pss_one (ps_ret (pe_op op_modN (pe_callTy call_int1 (by rfl) T.int (by decide +kernel) (pa_cons (pv 5) pa_nil)) (pv 1)))))) pss_nil)
      (pss_cons (ps_set (i := 6) scD.nd rfl (Or.inl rfl) (pe_op op_modN (pe_callTy call_int1 (by rfl) T.int (by decide +kernel) (pa_cons (pe_op op_pow (pe_op op_add (pe_op op_add (pe_op op_modN (pe_callTy call_int1 (by rfl) T.int (by decide +kernel) (pa_cons (pv 4) pa_nil)) pe_int) (pe_op op_mul pe_int (pv 3))) pe_int) pe_int) pa_nil)) pe_int))
      (pss_cons (ps_set (i := 6) scD.nd rfl (Or.inl rfl) (pe_op op_modN (pe_callTy call_int1 (by rfl) T.int (by decide +kernel) (pa_cons (pe_op op_pow (pe_op op_add (pe_op op_add (pe_op op_mul (pv 6) (pe_op op_add (pe_op op_mul pe_int (pv 3)) pe_int)) (pe_op op_mul (pe_op op_mul pe_int (pv 3)) (pv 3))) pe_int) pe_int) pa_nil)) pe_int))
      (pss_one (ps_ret (pe_op op_modN (pe_callTy call_int1 (by rfl) T.int (by decide +kernel) (pa_cons (pe_op op_fdivN (pv 6) pe_int) pa_nil)) (pv 1))))))))))), ?_⟩
    have hpc := D.ne
    obtain ⟨h1, h2, i0, r0, l63⟩ := id D
    refine ⟨_, rfl, _, _, _, _, rfl, rfl, SqL.of h1, rfl, _, _, rfl, rfl, _, rfl, ?_⟩
    refine ite2 (fun c1 => ?_) (fun c1 => ?_)
    · refine ⟨_, rfl, _, _, _, _, rfl, rfl, SqL.of h1, rfl, Or.inl ⟨_, rfl, _, rfl, _, _, rfl, rfl, (by omega), ?_⟩⟩
      refine ⟨_, rfl, _, _, _, _, rfl, rfl, SqL.of h1, rfl, Or.inl ⟨_, rfl, _, rfl, _, _, rfl, rfl, (by constructor <;> omega), _, rfl, _, _, _, _, rfl, rfl, h1, rfl, _, rfl, ?_⟩⟩
      have z : (0 : Int) ≤ r.fdiv m := by
        rw [Int.fdiv_eq_ediv_of_nonneg _ (by omega)]
        exact Int.ediv_nonneg r0 (by omega)
      exact k _ _ _ _ (fm hm0).1 (fm hm0).2 (Int.le_refl _) (by omega) (D.next (But.upd (But.refl _ _)) upd_same i0 z) (But.upd (But.refl _ _))
    · refine ⟨_, rfl, _, _, _, _, rfl, rfl, SqL.of h1, rfl, ?_⟩
      refine ⟨_, rfl, _, _, rfl, rfl, _, rfl, _, _, _, _, rfl, rfl, h1, rfl, ?_⟩
      have hc : ∀ o, upd H p o c = some (.lst (ns.map V.int)) := fun o => by rw [upd_ne hpc.symm]; exact h2
      refine ⟨_, rfl, _, _, rfl, rfl, mul_okL (by omega) (by omega), _, _, rfl, rfl, ?_⟩
      refine ⟨_, rfl, _, _, _, _, rfl, rfl, SqL.of upd_same, rfl, (by decide), fun l hl => ?_⟩
      have hpl : p ≠ l := ne_of_none upd_same hl
      have hcl : c ≠ l := ne_of_none (hc _) hl
      have g1 : ∀ o, upd (upd H p (.lst [.ref c, .int (i + 1), .int r])) l o p = some (.lst [.ref c, .int (i + 1), .int r]) := fun o => by rw [upd_ne hpl]; exact upd_same
      have g2 : ∀ o, upd (upd H p (.lst [.ref c, .int (i + 1), .int r])) l o c = some (.lst (ns.map V.int)) := fun o => by rw [upd_ne hcl]; exact hc _
      refine ⟨_, _, .lst (SqL.of (g2 _)) (dp_ints ns), .lst (SqL.of upd_same) .nil, shaped_ints ns, rfl, _, rfl, ?_⟩
      have B1 : ∀ {o u : HO}, But p H (upd (upd H p o) l u) := fun {o u} => by
        refine But.new (But.upd (But.refl _ _)) ?_
        by_cases e : l = p
        · exact absurd e.symm hpl
        · rw [upd_ne e]
          rw [upd_ne e] at hl
          exact hl
      refine ite2 (fun c2 => ?_) (fun c2 => ?_)
      focus
        have hne : ns.isEmpty = false := by simpa [eqv_ints_nil] using c2
        obtain ⟨z, hz⟩ := at_fmod (i := i) hne
        have hl0 : (((ns.map V.int).length : Nat) : Int) ≠ 0 := by
          rw [List.length_map]
          have : ns.length ≠ 0 := by
            intro e
            rw [List.isEmpty_eq_false_iff] at hne
            exact hne (List.length_eq_zero_iff.mp e)
          omega
        refine ⟨_, rfl, _, _, _, _, rfl, rfl, SqL.of (g1 _), rfl, _, rfl, Or.inl ⟨_, rfl, _, rfl, _, _, _, _, rfl, rfl, SqL.of (g1 _), rfl, _, _, rfl, Or.inl (SqL.of (g2 _)), _, _, rfl, rfl, hl0, _, _, _, _, rfl, rfl, SqL.of (g2 _), hz, ?_⟩⟩
      all_goals
        refine ⟨_, rfl, _, rfl, _, _, _, _, rfl, rfl, SqL.of (g1 _), rfl, _, _, rfl, Or.inl (SqL.of (g2 _)), _, _, rfl, rfl, _, rfl, ?_⟩
        refine ite2 (fun c3 => ?_) (fun c3 => ?_)
        focus
          refine ⟨_, rfl, _, rfl, _, _, rfl, rfl, p18, _, _, rfl, rfl, _, rfl, ?_⟩
          refine ite2 (fun c4 => ?_) (fun c4 => ?_)
          · refine ⟨_, rfl, _, rfl, _, _, rfl, rfl, p18, _, _, rfl, rfl, _, _, rfl, rfl, mul_okL (by omega) (by omega), _, rfl, _, _, rfl, rfl, Or.inr ⟨_, rfl, _, _, rfl, rfl, ?_⟩⟩
            have gn := great_nn c4
            refine ⟨_, rfl, Or.inl ⟨_, rfl, _, rfl, _, _, rfl, rfl, (by constructor <;> omega), _, rfl, _, _, _, _, rfl, rfl, g1 _, rfl, ?_⟩⟩
            refine ⟨_, rfl, Or.inl ⟨_, rfl, _, rfl, _, _, rfl, rfl, (by omega), ?_⟩⟩
            exact k _ _ _ _ (fm hm0).1 (fm hm0).2 (by omega) (Int.le_refl _) (D.next (But.upd B1) upd_same (by omega) (fdiv_nn gn hm0)) (But.upd B1)
        rotate_left
        focus refine iteF ?_
        all_goals
          refine ⟨_, rfl, Or.inl ⟨_, rfl, _, _, rfl, rfl, (by intro z; omega), _, rfl, _, _, rfl, rfl, mul_okL (by omega) (by omega), _, _, rfl, rfl, _, _, rfl, rfl, _, _, rfl, rfl, ?_, Or.inl ⟨_, rfl, _, _, rfl, rfl, (by intro z; omega), ?_⟩⟩⟩
          · exact pow_ok _ (st1_nn i0 (by omega)) (st1_lt (by omega) (by omega) ⟨i0, hi⟩) (by omega) (by omega)
          refine ⟨_, rfl, _, rfl, _, _, rfl, rfl, mul_okL (by omega) (by omega), _, _, rfl, rfl, _, _, rfl, rfl, ?_, _, rfl, _, _, rfl, rfl, mul_okL (by omega) (by omega), _, rfl, _, _, rfl, rfl, ?_, _, _, rfl, rfl, _, _, rfl, rfl, _, _, rfl, rfl, ?_, Or.inl ⟨_, rfl, _, _, rfl, rfl, (by intro z; omega), ?_⟩⟩
          · exact st2_a (by omega)
          · exact st2_b ⟨i0, hi⟩ (by omega)
          · exact pow_ok _ (st2_nn i0 (by omega)) (st2_lt (by omega) (by omega) ⟨i0, hi⟩) (by omega) (by omega)
          refine ⟨_, rfl, _, _, rfl, rfl, (by constructor <;> omega), Or.inl ⟨_, rfl, _, rfl, _, _, rfl, rfl, (by omega), ?_⟩⟩
          exact k _ _ _ _ (fm hm0).1 (fm hm0).2 (by omega) (Int.le_refl _) (D.next B1 (g1 _) (by omega) r0) B1
theorem scPen : FnScope ["_law_script"] ["_law_script"] (defScope sPen) := ⟨rfl, rfl, rfl, by decide +kernel, rfl, by decide +kernel, by decide +kernel⟩
theorem ok_pen {f : Addr} {fd : FuncData} (F : Fun K "_law_pen" "_law_pen" sPen f fd) (T : TxtB mg) : FnOk P w K mg base CX0 1 f fd ["_law_script"] (spPen K) := by
  refine F.ok scPen (fun vs H Q E h => ?_) (fun cdv A outer s H vs Q E hr h => ?_)
  · obtain ⟨a, ns, rfl, _⟩ := h
    rfl
  · obtain ⟨a, ns, rfl, hS, hl, k⟩ := h
    refine ⟨_, pss_one (ps_ret (pe_lstS (pa_cons (pe_callTy call_listS (by rfl) T.list (by decide +kernel) (pa_cons (pe_slS (pv 0) po_none (po_some pe_int)) pa_nil)) (pa_cons pe_int (pa_cons pe_int pa_nil))))), ?_⟩
    have e := cut63 (xs := ns.map V.int) (by rw [List.length_map]; exact hl)
    refine ⟨_, rfl, _, rfl, _, _, rfl, hS, fun l1 H1 n1 s1 g1 => ?_⟩
    refine ⟨_, _, rfl, Or.inl (SqL.of g1), fun l2 H2 n2 s2 g2 => ⟨by show 3 ≤ sizeLine; decide, fun l3 H3 n3 s3 g3 => ?_⟩⟩
    rw [e] at g2
    exact k _ _ _ (Same.trans (Same.trans s1 s2) s3) ⟨g3, s3 _ _ g2, by omega, by omega, hl⟩
theorem scPick : FnScope ["_law_pen_here", "_law_some_here"] ["_law_pen_here", "_law_some_here"] (defScope sPick) := ⟨rfl, rfl, rfl, by decide +kernel, rfl, by decide +kernel, by decide +kernel⟩
theorem ok_pick {f g : Addr} {fd gd : FuncData} (F : Fun K "_law_pick" "_law_pick" sPick f fd) (T : TxtB mg) (FD : Fun K "_law_draw" "_law_draw" sDraw g gd) (mgD : mg "_law_draw" = some (.ref g)) (bD : Binds K gd ["_law_pen_here", "_law_many"] []) :
    FnOk P w K mg base CX0 2 f fd ["_law_pen_here", "_law_some_here"] spPick := by
  have GD : FnOk P w K mg base CX0 1 g gd ["_law_pen_here", "_law_many"] spDraw := ok_draw FD T
  refine F.ok scPick (fun vs H Q E h => ?_) (fun cdv A outer s H vs Q E hr h => ?_)
  · obtain ⟨p, c, q, ns, i, r, xs, rfl, _⟩ := h
    rfl
  · obtain ⟨p, c, q, ns, i, r, xs, rfl, D, hi, hq, hqp, hne, hl, k⟩ := h
    refine ⟨_, pss_one (ps_ret (pe_ix ix_list (pv 1) (pe_call GD hr rfl mgD FD.kp bD .nil pass0 (pa_cons (pv 0) (pa_cons (pe_callB call_len_seq (by rfl) T.len PySem.boot_len (pa_cons (pv 1) pa_nil)) pa_nil))) (fun _ _ => rfl))), ?_⟩
    have l0 : 0 < xs.length := List.length_pos_iff.mpr hne
    refine ⟨_, rfl, _, rfl, _, rfl, _, _, rfl, Or.inl (SqL.of hq), ?_⟩
    refine ⟨p, c, ns, i, r, _, rfl, D, by omega, by omega, hi, fun d i' r' H' d0 d1 i1 i2 D' B => ?_⟩
    obtain ⟨x, hx, ha⟩ := at_mem d0 d1
    exact ⟨_, _, _, _, rfl, rfl, SqL.of (B _ _ hqp hq), ha, k x i' r' H' hx i1 i2 D' B⟩
end
end K00
end
section
set_option maxRecDepth 100000
set_option maxHeartbeats 4000000
namespace K00
open PySem PySem.Spec PyProof.Rows L2 Lw
abbrev sSome : Stmt := top 35
theorem _root_.Lw.PenAt.keep {H H' : Hp} {p c : Addr} {ns : List Int} {i r : Int} (h : PenAt H p c ns i r) (s : Same H H') : PenAt H' p c ns i r := ⟨s _ _ h.ob, s _ _ h.ce, h.i0, h.r0, h.l63⟩
theorem cut_at {H : Hp} {p b : Addr} {o : HO} (n : b ≠ p) (h : H b = some o) : delH H p b = some o := (delH_ne n).trans h
theorem cut_but {H H' : Hp} {p : Addr} (B : But p H H') : Same (delH H p) (delH H' p) := fun b o e => by
  by_cases n : b = p
  · rw [n, delH_same] at e
    cases e
  · rw [delH_ne n] at e ⊢
    exact B b o n e
theorem cut_same {H : Hp} {p : Addr} : Same (delH H p) H := fun b o e => by
  by_cases n : b = p
  · rw [n, delH_same] at e
    cases e
  · rw [delH_ne n] at e
    exact e
/-- data that can be shown, small -/
structure Sm (d : PyData) : Prop where
  sh : d.showable = true
  dp : d.depth ≤ 2
  sz : d.shown.length ≤ 100
def spSome (K : PySem.W.Frag) : Sp := fun vs H Q _ => ∃ (p c : Addr) (ns : List Int) (i r : Int), vs = [.ref p] ∧ PenAt H p c ns i r ∧ i ≤ 1000000 ∧
  ∀ (v : V) (d : PyData) (i' r' : Int) (H' : Hp), Sm d → Da K (delH H' p) v d → i ≤ i' → i' ≤ i + 1 → PenAt H' p c ns i' r' → But p H H' → Q v H'
theorem sz {n : Nat} (h : n ≤ 1000) : n ≤ sizeLine := Nat.le_trans h (by decide)
theorem p39 : CPow 10 39 := ⟨by decide, by decide, by decide⟩
section
variable {P : Program} {w : World} {K : PySem.W.Frag} {mg : Str → Option Value} {base : Heap}
theorem scSome : FnScope ["_law_pen_here", "_law_some_here"] ["_law_pen_here"] (defScope sSome) := ⟨rfl, rfl, rfl, by decide +kernel, rfl, by decide +kernel, by decide +kernel⟩
theorem ok_some {f g : Addr} {fd gd : FuncData} (F : Fun K "_law_some" "_law_some" sSome f fd) (kP : PySem.W.keepIn K (.ref g) = true) (mgP : mg "_law_pick" = some (.ref g)) (bP : Binds K gd ["_law_pen_here", "_law_some_here"] [])
    (GP : FnOk P w K mg base CX0 2 g gd ["_law_pen_here", "_law_some_here"] spPick) : FnOk P w K mg base CX0 3 f fd ["_law_pen_here"] (spSome K) := by
  refine F.ok scSome (fun vs H Q E h => ?_) (fun cdv A outer s H vs Q E hr h => ?_)
  · obtain ⟨p, c, ns, i, r, rfl, _⟩ := h
    rfl
  · obtain ⟨p, c, ns, i, r, rfl, D, hi, k⟩ := h
    refine ⟨_, pss_cons (ps_set (i := 1) scSome.nd rfl (Or.inl rfl) (pe_lstS (pa_cons pe_non (pa_cons pe_bl (pa_cons pe_bl (pa_cons pe_int (pa_cons pe_int (pa_cons (pe_un un_neg pe_int) (pa_cons (pe_op op_pow pe_int pe_int) (pa_cons pe_str (pa_cons pe_str (pa_cons pe_str
        (pa_cons (pe_tupS pa_nil) (pa_cons (pe_tupS (pa_cons pe_str (pa_cons pe_int pa_nil))) (pa_cons (pe_lstS pa_nil) (pa_cons (pe_lstS (pa_cons pe_str pa_nil)) (pa_cons pe_d0S (pa_cons pe_d1S (pa_cons (pe_tupS (pa_cons pe_int (pa_cons pe_int pa_nil))) pa_nil)))))))))))))))))))
      (pss_one (ps_ret (pe_call GP hr rfl mgP kP bP .nil pass0 (pa_cons (pv 0) (pa_cons (pv 1) pa_nil))))), ?_⟩
    refine ⟨_, rfl, _, _, rfl, rfl, p39, (by decide), fun l1 H1 n1 s1 g1 => ⟨(by decide), fun l2 H2 n2 s2 g2 => ⟨(by decide), fun l3 H3 n3 s3 g3 => ⟨(by decide), fun l4 H4 n4 s4 g4 => fun l5 H5 n5 s5 g5 => fun l6 H6 n6 s6 g6 =>
      ⟨(by decide), fun l7 H7 n7 s7 g7 => ⟨(sz (by simp)), fun l8 H8 n8 s8 g8 => ?_⟩⟩⟩⟩⟩⟩
    have D8 : PenAt H8 p c ns i r := (((((((D.keep s1).keep s2).keep s3).keep s4).keep s5).keep s6).keep s7).keep s8
    have h7 := s8 _ _ g7
    have h6 := s8 _ _ (s7 _ _ g6)
    have h5 := s8 _ _ (s7 _ _ (s6 _ _ g5))
    have h4 := s8 _ _ (s7 _ _ (s6 _ _ (s5 _ _ g4)))
    have h3 := s8 _ _ (s7 _ _ (s6 _ _ (s5 _ _ (s4 _ _ g3))))
    have h2 := s8 _ _ (s7 _ _ (s6 _ _ (s5 _ _ (s4 _ _ (s3 _ _ g2)))))
    have h1 := s8 _ _ (s7 _ _ (s6 _ _ (s5 _ _ (s4 _ _ (s3 _ _ (s2 _ _ g1))))))
    have S8 : Same H H8 := ((((((s1.trans s2).trans s3).trans s4).trans s5).trans s6).trans s7).trans s8
    refine ⟨_, rfl, _, rfl, p, c, l8, ns, i, r, _, rfl, D8, hi, g8, ne_of g8 D8.ob (by intro z; cases z), (by simp), (by simp), fun x i' r' H' hx i1 i2 D' B => ?_⟩
    have B2 : But p H H' := (But.same S8).trans B
    have e7 := cut_at (ne_of h7 D8.ob (by intro z; cases z)) (B _ _ (ne_of h7 D8.ob (by intro z; cases z)) h7)
    have e6 := cut_at (ne_of h6 D8.ob (by intro z; cases z)) (B _ _ (ne_of h6 D8.ob (by intro z; cases z)) h6)
    have e5 := cut_at (ne_of h5 D8.ob (by intro z; cases z)) (B _ _ (ne_of h5 D8.ob (by intro z; cases z)) h5)
    have e4 := cut_at (ne_of h4 D8.ob (by intro z; cases z)) (B _ _ (ne_of h4 D8.ob (by intro z; cases z)) h4)
    have e3 := cut_at (ne_of h3 D8.ob (by intro z; cases z)) (B _ _ (ne_of h3 D8.ob (by intro z; cases z)) h3)
    have e2 := cut_at (ne_of h2 D8.ob (by intro z; cases z)) (B _ _ (ne_of h2 D8.ob (by intro z; cases z)) h2)
    have e1 := cut_at (ne_of h1 D8.ob (by intro z; cases z)) (B _ _ (ne_of h1 D8.ob (by intro z; cases z)) h1)
    have out : ∀ d, Sm d → Da K (delH H' p) x d → Q x H' := fun d sm da => k x d i' r' H' sm da i1 i2 D' B2
    simp only [List.mem_cons, List.not_mem_nil, or_false] at hx
    rcases hx with rfl | rfl | rfl | rfl | rfl | rfl | rfl | rfl | rfl | rfl | rfl | rfl | rfl | rfl | rfl | rfl | rfl
    · exact out _ ⟨rfl, by decide, by decide +kernel⟩ .non
    · exact out _ ⟨rfl, by decide, by decide +kernel⟩ (.bl true)
    · exact out _ ⟨rfl, by decide, by decide +kernel⟩ (.bl false)
    · exact out _ ⟨by decide +kernel, by decide, by decide +kernel⟩ (.int 0)
    · exact out _ ⟨by decide +kernel, by decide, by decide +kernel⟩ (.int 1)
    · exact out _ ⟨by decide +kernel, by decide, by decide +kernel⟩ (.int _)
    · exact out _ ⟨by decide +kernel, by decide, by decide +kernel⟩ (.int _)
    · exact out _ ⟨rfl, by decide, by decide +kernel⟩ (.str _)
    · exact out _ ⟨rfl, by decide, by decide +kernel⟩ (.str _)
    · exact out _ ⟨rfl, by decide, by decide +kernel⟩ (.str _)
    · exact out _ ⟨by decide +kernel, by decide, by decide +kernel⟩ (.tup e1 .nil)
    · exact out _ ⟨by decide +kernel, by decide, by decide +kernel⟩ (.tup e2 (.cons (.str _) (.cons (.int _) .nil)))
    · exact out _ ⟨by decide +kernel, by decide, by decide +kernel⟩ (.lst e3 .nil)
    · exact out _ ⟨by decide +kernel, by decide, by decide +kernel⟩ (.lst e4 (.cons (.str _) .nil))
    · exact out _ ⟨by decide +kernel, by decide, by decide +kernel⟩ (.dic e5 .nil)
    · exact out _ ⟨by decide +kernel, by decide, by decide +kernel⟩ (.dic e6 (.cons (.str _) .nil))
    · exact out _ ⟨by decide +kernel, by decide, by decide +kernel⟩ (.tup e7 (.cons (.int _) (.cons (.int _) .nil)))
end
end K00
end
section
set_option maxRecDepth 100000
set_option maxHeartbeats 4000000
namespace K00
open PySem PySem.Spec PyProof.Rows L2 Lw
abbrev sParts : Stmt := top 36
/-- v is a pair of exceptions of the class at C, with the fields v1 and v2 -/
def PairAt (C : Addr) (f : Str) (v1 v2 : V) (H : Hp) (v : V) : Prop := ∃ t e1 d1 e2 d2, v = .ref t ∧ H t = some (.tup [.ref e1, .ref e2]) ∧
  H e1 = some (exo e1 C (some d1)) ∧ H d1 = some (exd d1 [(f, v1)]) ∧ H e2 = some (exo e2 C (some d2)) ∧ H d2 = some (exd d2 [(f, v2)])
theorem PairAt.keep {C : Addr} {f : Str} {v1 v2 v : V} {H H' : Hp} (s : Same H H') (h : PairAt C f v1 v2 H v) : PairAt C f v1 v2 H' v := by
  obtain ⟨t, e1, d1, e2, d2, e, h1, h2, h3, h4, h5⟩ := h
  exact ⟨t, e1, d1, e2, d2, e, s _ _ h1, s _ _ h2, s _ _ h3, s _ _ h4, s _ _ h5⟩
/-- v is a row: two exceptions of the class at C, each with its field -/
def RowAt (C : Addr) (v1 v2 : V) (H : Hp) (v : V) : Prop := ∃ t e1 e2, v = .ref t ∧ H t = some (.tup [.ref e1, v1, .ref e2, v2]) ∧ TyE H e1 C ∧ TyE H e2 C
theorem _root_.Lw.TyE.keep {H H' : Hp} {a C : Addr} (s : Same H H') (h : TyE H a C) : TyE H' a C := by
  rcases h with ⟨d, fs, h1, h2⟩ | h1
  · exact .inl ⟨d, fs, s _ _ h1, s _ _ h2⟩
  · exact .inr (s _ _ h1)
theorem RowAt.keep {C : Addr} {v1 v2 v : V} {H H' : Hp} (s : Same H H') (h : RowAt C v1 v2 H v) : RowAt C v1 v2 H' v := by
  obtain ⟨t, e1, e2, e, h1, h2, h3⟩ := h
  exact ⟨t, e1, e2, e, s _ _ h1, h2.keep s, h3.keep s⟩
theorem exo_lst {e C : Addr} {d : Option Addr} {xs : List V} : exo e C d ≠ .lst xs := fun z => by
  have y : HO.ext _ = HO.lst xs := z
  cases y
theorem exd_lst {e : Addr} {fs : List (Str × V)} {xs : List V} : exd e fs ≠ .lst xs := fun z => by
  have y : HO.ext _ = HO.lst xs := z
  cases y
theorem exO_lst {e : Addr} {c : Value} {xs : List V} : ExO c e ≠ .lst xs := fun z => by
  have y : HO.ext _ = HO.lst xs := z
  cases y
/-- a list elsewhere may change -/
theorem _root_.Lw.TyE.set {H H' : Hp} {a C D : Addr} {xs : List V} (h : TyE H a C) (hD : H D = some (.lst xs)) (B : But D H H') : TyE H' a C := by
  rcases h with ⟨d, fs, h1, h2⟩ | h1
  · exact .inl ⟨d, fs, B _ _ (ne_of h1 hD exo_lst) h1, B _ _ (ne_of h2 hD exd_lst) h2⟩
  · exact .inr (B _ _ (ne_of h1 hD exO_lst) h1)
theorem RowAt.set {C D : Addr} {v1 v2 v : V} {H H' : Hp} {xs : List V} (h : RowAt C v1 v2 H v) (hD : H D = some (.lst xs)) (B : But D H H') : RowAt C v1 v2 H' v := by
  obtain ⟨t, e1, e2, e, h1, h2, h3⟩ := h
  exact ⟨t, e1, e2, e, B _ _ (ne_of h1 hD (by intro z; cases z)) h1, h2.set hD B, h3.set hD B⟩
/-- things one behind the other, from the number k on -/
inductive Ats (R : Nat → V → Prop) : Nat → List V → Prop
  | nil {k : Nat} : Ats R k []
  | cons {k : Nat} {v : V} {vs : List V} : R k v → Ats R (k + 1) vs → Ats R k (v :: vs)
theorem Ats.get {R : Nat → V → Prop} : ∀ {k : Nat} {vs : List V}, Ats R k vs → ∀ {j : Nat} {v : V}, vs[j]? = some v → R (k + j) v
  | _, _, .nil, _, _, h => by simp at h
  | k, _, .cons (v := u) r t, 0, v, h => by
    have e : u = v := by simpa using h
    subst e
    exact r
  | k, _, .cons r t, j + 1, v, h => by
    have z := t.get (j := j) (v := v) (by simpa using h)
    rw [show k + (j + 1) = k + 1 + j by omega]
    exact z
theorem Ats.imp {R S : Nat → V → Prop} (i : ∀ k v, R k v → S k v) : ∀ {k : Nat} {vs : List V}, Ats R k vs → Ats S k vs
  | _, _, .nil => .nil
  | _, _, .cons r t => .cons (i _ _ r) (t.imp i)
theorem Ats.app {R : Nat → V → Prop} : ∀ {k : Nat} {vs us : List V}, Ats R k vs → Ats R (k + vs.length) us → Ats R k (vs ++ us)
  | _, _, _, .nil, h => h
  | k, _, us, .cons (vs := vs) r t, h => .cons r (t.app (by
    rw [show k + 1 + vs.length = k + (vs.length + 1) by omega]
    exact h))
section
variable {X : Cx} {C fI : Addr} {fd : FuncData} {nm f a b : Str} {p1 p2 p3 p4 p5 p6 pos : Pos} {c : Nat} {kp : Pos}
/-- (Bad(a), Bad(part=b)) -/
theorem pe_pair (T : Cl1 X.prog X.w X.K X.mg X.base nm f C fI fd) (hr : Room 2 X.A) (hg : Gl X nm) (hx : Passes CX0 X (fun _ _ _ => False)) (ha : PE X (.Name a p1) (tVar 0)) (hb : PE X (.Name b p2) (tVar 1))
    (hdb : (nm == ("__debug__" : Str)) = false := by decide) (he : starEach [.Name a p1] X.env = (false, eval (.Name a p1) X.env) :: starEach [] X.env := by rfl)
    (hks : (backToKw p6 (keywordEach [⟨some f, .Name b p2, kp⟩] X.env)).filterMap (·.1) = [f] := by rfl) (hall : (backToKw p6 (keywordEach [⟨some f, .Name b p2, kp⟩] X.env)).all (·.1.isSome) = true := by rfl)
    (hpl : ((backTo p6 (starEach [] X.env)).any (·.1) || (backToKw p6 (keywordEach [⟨some f, .Name b p2, kp⟩] X.env)).any (·.1.isNone)) = false := by rfl) :
    PE X (.Tuple [.Call (.Name nm p3) [.Name a p1] [] p4, .Call (.Name nm p5) [] [⟨some f, .Name b p2, kp⟩] p6] c pos)
      (fun σ H Q => ∃ v1 v2, σ[0]? = some (some v1) ∧ σ[1]? = some (some v2) ∧ ∀ v H2, Same H H2 → PairAt C f v1 v2 H2 v → Q v H2) := by
  refine PE.imp (pe_tupS (pa_cons (pe_e1 T hr hg hx (pa_cons ha pa_nil) hdb he (by rfl)) (pa_cons (pe_e1k T hr hg hx (pk_cons hb pk_nil) hall hks hdb hpl) pa_nil))) fun σ H Q h => ?_
  obtain ⟨v1, v2, h1, h2, q⟩ := h
  refine ⟨v1, h1, v1, rfl, fun e1 d1 H1 m1 => ⟨v2, h2, v2, rfl, fun e2 d2 H2 m2 => ⟨sz (by simp), fun t H3 n3 s3 g3 => ?_⟩⟩⟩
  refine q _ H3 ((m1.1.trans m2.1).trans s3) ⟨t, e1, d1, e2, d2, rfl, g3, s3 _ _ (m2.1 _ _ m1.2.1), s3 _ _ (m2.1 _ _ m1.2.2), s3 _ _ m2.2.1, s3 _ _ m2.2.2⟩
end
/-- what the written part says of the errors -/
structure Errs (P : Program) (w : World) (K : PySem.W.Frag) (mg : Str → Option Value) (base : Heap) (C fI : Nat → Addr) (fd : Nat → FuncData) : Prop where
  e0 : Cl1 P w K mg base "BadWish" "part" (C 0) (fI 0) (fd 0)
  e1 : Cl1 P w K mg base "BadSite" "part" (C 1) (fI 1) (fd 1)
  e2 : Cl1 P w K mg base "BadPlan" "part" (C 2) (fI 2) (fd 2)
  e3 : Cl1 P w K mg base "BadLimit" "part" (C 3) (fI 3) (fd 3)
  e4 : Cl1 P w K mg base "BadPromise" "part" (C 4) (fI 4) (fd 4)
  e5 : Cl1 P w K mg base "BadStock" "part" (C 5) (fI 5) (fd 5)
  e6 : Cl1 P w K mg base "BadCounts" "part" (C 6) (fI 6) (fd 6)
  e7 : Cl1 P w K mg base "BadRule" "part" (C 7) (fI 7) (fd 7)
  e8 : Cl1 P w K mg base "BadStay" "part" (C 8) (fI 8) (fd 8)
  e9 : Cl1 P w K mg base "BadBook" "part" (C 9) (fI 9) (fd 9)
  e10 : Cl1 P w K mg base "BadCalendar" "part" (C 10) (fI 10) (fd 10)
  e11 : Cl1 P w K mg base "BadLines" "part" (C 11) (fI 11) (fd 11)
  e12 : Cl1 P w K mg base "BadHouse" "part" (C 12) (fI 12) (fd 12)
  e13 : Cl1 P w K mg base "Unbounded" "part" (C 13) (fI 13) (fd 13)
  e14 : Cl1 P w K mg base "BadNumber" "value" (C 14) (fI 14) (fd 14)
  e15 : Cl1 P w K mg base "BadName" "value" (C 15) (fI 15) (fd 15)
  e16 : Cl1 P w K mg base "NoWish" "name" (C 16) (fI 16) (fd 16)
  e17 : Cl1 P w K mg base "NoSite" "name" (C 17) (fI 17) (fd 17)
  e18 : Cl1 P w K mg base "NoGuest" "name" (C 18) (fI 18) (fd 18)
  e19 : Cl1 P w K mg base "NoHall" "name" (C 19) (fI 19) (fd 19)
  e20 : Cl1 P w K mg base "NoGate" "name" (C 20) (fI 20) (fd 20)
  e21 : Cl1 P w K mg base "BadRow" "at" (C 21) (fI 21) (fd 21)
  e22 : Cl1 P w K mg base "BadLine" "word" (C 22) (fI 22) (fd 22)
  e23 : Cl1 P w K mg base "Barred" "word" (C 23) (fI 23) (fd 23)
  e24 : Cl1 P w K mg base "NoBay" "wish" (C 24) (fI 24) (fd 24)
  e25 : Cl2 P w K mg base "Refused" "part" "wish" (C 25) (fI 25) (fd 25)
  e26 : Cl2 P w K mg base "BadText" "line" "word" (C 26) (fI 26) (fd 26)
  e27 : Cl2 P w K mg base "TooMany" "what" "most" (C 27) (fI 27) (fd 27)
section
variable {P : Program} {w : World} {K : PySem.W.Frag} {mg : Str → Option Value} {base : Heap} {C fI : Nat → Addr} {fd : Nat → FuncData}
theorem Errs.exk (T : Errs P w K mg base C fI fd) : ∀ k, k < 28 → ExK K (C k)
  | 0, _ => T.e0.toExK
  | 1, _ => T.e1.toExK
  | 2, _ => T.e2.toExK
  | 3, _ => T.e3.toExK
  | 4, _ => T.e4.toExK
  | 5, _ => T.e5.toExK
  | 6, _ => T.e6.toExK
  | 7, _ => T.e7.toExK
  | 8, _ => T.e8.toExK
  | 9, _ => T.e9.toExK
  | 10, _ => T.e10.toExK
  | 11, _ => T.e11.toExK
  | 12, _ => T.e12.toExK
  | 13, _ => T.e13.toExK
  | 14, _ => T.e14.toExK
  | 15, _ => T.e15.toExK
  | 16, _ => T.e16.toExK
  | 17, _ => T.e17.toExK
  | 18, _ => T.e18.toExK
  | 19, _ => T.e19.toExK
  | 20, _ => T.e20.toExK
  | 21, _ => T.e21.toExK
  | 22, _ => T.e22.toExK
  | 23, _ => T.e23.toExK
  | 24, _ => T.e24.toExK
  | 25, _ => T.e25.toExK
  | 26, _ => T.e26.toExK
  | 27, _ => T.e27.toExK
  | k + 28, h => absurd h (by omega)
theorem Errs.part (T : Errs P w K mg base C fI fd) : ∀ k, k < 14 → PySem.W.findIn K (.ref (C k)) "part" = some none
  | 0, _ => T.e0.no
  | 1, _ => T.e1.no
  | 2, _ => T.e2.no
  | 3, _ => T.e3.no
  | 4, _ => T.e4.no
  | 5, _ => T.e5.no
  | 6, _ => T.e6.no
  | 7, _ => T.e7.no
  | 8, _ => T.e8.no
  | 9, _ => T.e9.no
  | 10, _ => T.e10.no
  | 11, _ => T.e11.no
  | 12, _ => T.e12.no
  | 13, _ => T.e13.no
  | k + 14, h => absurd h (by omega)
/-- [(one, one.f, two, two.f) for one, two in xs] -/
theorem comp_rows {C : Nat → Addr} {f : Str} {k0 a b s : Nat} {v1 v2 : V} {σ : L2.St} {l : Addr} {J : Hp} {xs : List V} {Q : VK} (hx : ∀ j, j < xs.length → ExK K (C (k0 + j)) ∧ PySem.W.findIn K (.ref (C (k0 + j))) f = some none)
    (A : Ats (fun k v => PairAt (C k) f v1 v2 J v) k0 xs) (w : J l = some (.lst xs)) (hl : xs.length ≤ 900) (hs : σ[s]? = some (some (.ref l)))
    (hw : ∀ x y, wipe (((wipe σ [a, b]).set a x).set b y) [a, b] = wipe σ [a, b]) (ha : ∀ x y, (((wipe σ [a, b]).set a x).set b y)[a]? = some x) (hb : ∀ x y, (((wipe σ [a, b]).set a x).set b y)[b]? = some y)
    (q : ∀ r rows H2, Same J H2 → H2 r = some (.lst rows) → rows.length = xs.length → Ats (fun k v => RowAt (C k) v1 v2 H2 v) k0 rows → Q (.ref r) H2) :
    tLc (iList K (tVar s)) (gTup K 2 (gCons (gName a) (gCons (gName b) gNil))) tYes (tTupS (tCons (tVar a) (tCons (tEf K f (tVar a)) (tCons (tVar b) (tCons (tEf K f (tVar b)) tNil))))) [a, b] σ J Q := by
  refine ⟨_, hs, _, rfl, ⟨_, SqL.of w⟩, fun D hD => lc_list (K := K) (xs := _) (fun i H' => Same J H' ∧ ∃ acc, H' D = some (.lst acc) ∧ acc.length = i ∧ Ats (fun k v => RowAt (C k) v1 v2 H' v) k0 acc) ⟨Same.new hD, [], upd_same, rfl, .nil⟩ (fun i H' _ ⟨q, _⟩ => SqL.of (q _ _ w)) ?_ ?_⟩
  · rintro i x H' hi ⟨q, acc, a1, a2, a3⟩
    obtain ⟨t, e1, d1, e2, d2, rfl, h1, h2, h3, h4, h5⟩ := (A.get hi).keep q
    have hi2 : i < xs.length := (List.getElem?_eq_some_iff.mp hi).1
    obtain ⟨X, N⟩ := hx i hi2
    refine ⟨_, _, rfl, SqT.of h1, rfl, _, _, rfl, _, _, rfl, rfl, hw _ _, ?_⟩
    refine yes_if ?_
    refine ⟨_, ha _ _, _, ha _ _, e1, _, d1, _, v1, rfl, X, N, h2, h3, (by simp [List.lookup]), _, hb _ _, _, hb _ _, e2, _, d2, _, v2, rfl, X, N, h4, h5, (by simp [List.lookup]), sz (by simp), fun t2 H2 n2 s2 g2 => ?_⟩
    refine ⟨acc, s2 _ _ a1, ?_, ?_⟩
    · have : acc.length < 1000 := by omega
      exact Nat.lt_of_lt_of_le this (sz (Nat.le_refl _))
    have B : But D H' (upd H2 D (.lst (acc ++ [.ref t2]))) := But.upd (But.same s2)
    refine ⟨fun b o z => B b o (ne_of_none z hD) (q b o z), _, upd_same, by simp [a2], ?_⟩
    refine (a3.imp fun k v r => r.set a1 B).app (.cons ?_ .nil)
    rw [a2]
    have R2 : RowAt (C (k0 + i)) v1 v2 H2 (.ref t2) := ⟨t2, e1, e2, rfl, g2, .inl ⟨d1, _, s2 _ _ h2, s2 _ _ h3⟩, .inl ⟨d2, _, s2 _ _ h4, s2 _ _ h5⟩⟩
    exact R2.set (s2 _ _ a1) (But.upd (But.refl _ _))
  · rintro H' ⟨q2, acc, a1, a2, a3⟩
    exact q _ acc H' q2 a1 a2 a3
theorem scParts : FnScope ["_law_one_so", "_law_two_so", "_law_found", "_law_one", "_law_two"] ["_law_one_so", "_law_two_so"] (defScope sParts) := ⟨rfl, rfl, rfl, by decide +kernel, rfl, by decide +kernel, by decide +kernel⟩
def spParts (C : Nat → Addr) : Sp := fun vs H Q _ => ∃ v1 v2, vs = [v1, v2] ∧ ∀ q rows H2, Same H H2 → H2 q = some (.lst rows) → rows.length = 14 → Ats (fun k v => RowAt (C k) v1 v2 H2 v) 0 rows → Q (.ref q) H2
theorem ok_parts {f : Addr} {gd : FuncData} (F : Fun K "_law_parts" "_law_parts" sParts f gd) (T : Errs P w K mg base C fI fd) : FnOk P w K mg base CX0 3 f gd ["_law_one_so", "_law_two_so"] (spParts C) := by
  refine F.ok scParts (fun vs H Q E h => ?_) (fun cdv A outer s H vs Q E hr h => ?_)
  · obtain ⟨v1, v2, rfl, _⟩ := h
    rfl
  · obtain ⟨v1, v2, rfl, k⟩ := h
    refine ⟨_, pss_cons (ps_set (i := 2) scParts.nd rfl (Or.inl rfl) (pe_lstS (pa_cons (pe_pair T.e0 hr rfl pass0 (pv 0) (pv 1)) (pa_cons (pe_pair T.e1 hr rfl pass0 (pv 0) (pv 1)) pa_nil))))
      (pss_cons (ps_set (i := 2) scParts.nd rfl (Or.inl rfl) (pe_op op_catS (pv 2) (pe_lstS (pa_cons (pe_pair T.e2 hr rfl pass0 (pv 0) (pv 1)) (pa_cons (pe_pair T.e3 hr rfl pass0 (pv 0) (pv 1)) pa_nil)))))
      (pss_cons (ps_set (i := 2) scParts.nd rfl (Or.inl rfl) (pe_op op_catS (pv 2) (pe_lstS (pa_cons (pe_pair T.e4 hr rfl pass0 (pv 0) (pv 1)) (pa_cons (pe_pair T.e5 hr rfl pass0 (pv 0) (pv 1)) pa_nil)))))
      (pss_cons (ps_set (i := 2) scParts.nd rfl (Or.inl rfl) (pe_op op_catS (pv 2) (pe_lstS (pa_cons (pe_pair T.e6 hr rfl pass0 (pv 0) (pv 1)) (pa_cons (pe_pair T.e7 hr rfl pass0 (pv 0) (pv 1)) pa_nil)))))
      (pss_cons (ps_set (i := 2) scParts.nd rfl (Or.inl rfl) (pe_op op_catS (pv 2) (pe_lstS (pa_cons (pe_pair T.e8 hr rfl pass0 (pv 0) (pv 1)) (pa_cons (pe_pair T.e9 hr rfl pass0 (pv 0) (pv 1)) pa_nil)))))
      (pss_cons (ps_set (i := 2) scParts.nd rfl (Or.inl rfl) (pe_op op_catS (pv 2) (pe_lstS (pa_cons (pe_pair T.e10 hr rfl pass0 (pv 0) (pv 1)) (pa_cons (pe_pair T.e11 hr rfl pass0 (pv 0) (pv 1)) pa_nil)))))
      (pss_cons (ps_set (i := 2) scParts.nd rfl (Or.inl rfl) (pe_op op_catS (pv 2) (pe_lstS (pa_cons (pe_pair T.e12 hr rfl pass0 (pv 0) (pv 1)) (pa_cons (pe_pair T.e13 hr rfl pass0 (pv 0) (pv 1)) pa_nil)))))
      (pss_one (ps_ret (pe_lc (own := [("_law_one", 3), ("_law_two", 4)]) (g := gTup K 2 (gCons (gName 3) (gCons (gName 4) gNil))) (tt := tYes) (te := tTupS (tCons (tVar 3) (tCons (tEf K "part" (tVar 3)) (tCons (tVar 4) (tCons (tEf K "part" (tVar 4)) tNil)))))
        rfl scParts.nd (pi_list (pv 2)) (blkOk_by (N := ["_law_one_so", "_law_two_so", "_law_found", "_law_one", "_law_two"]) (sc := defScope sParts) (own := [("_law_one", 3), ("_law_two", 4)]) (by decide +kernel))
        (fun _ _ _ _ _ => pg_tup rfl (pgs_cons (pg_name (i := 3) scParts.nd rfl (Or.inl rfl)) (pgs_cons (pg_name (i := 4) scParts.nd rfl (Or.inl rfl)) pgs_nil))) (fun _ _ _ _ _ => pts_nil)
        (fun _ _ _ _ _ => pe_tupS (pa_cons (pv 3) (pa_cons (pe_ef (pv 3)) (pa_cons (pv 4) (pa_cons (pe_ef (pv 4)) pa_nil)))))))))))))), ?_⟩
    refine ⟨_, _, rfl, rfl, fun t0 H0 s0 g0 => ⟨_, _, rfl, rfl, fun t1 H1 s1 g1 => ⟨sz (by simp), fun l1 K1 n1 z1 y1 => ?_⟩⟩⟩
    have A1 : Ats (fun k v => PairAt (C k) "part" v1 v2 K1 v) 0 _ := .cons ((g0.keep s1).keep z1) (.cons (g1.keep z1) .nil)
    have S1 : Same H K1 := (s0.trans s1).trans z1
    refine ⟨_, rfl, _, _, rfl, rfl, fun t2 H2 s2 g2 => ⟨_, _, rfl, rfl, fun t3 H3 s3 g3 => ⟨sz (by simp), fun l1 K101 n1 z101 y101 => ⟨_, _, _, _, rfl, rfl, z101 _ _ (s3 _ _ (s2 _ _ y1)), y101, sz (by simp), fun m1 J1 o1 x1 w1 => ?_⟩⟩⟩⟩
    have T1 := ((s2.trans s3).trans z101).trans x1
    have A2 : Ats (fun k v => PairAt (C k) "part" v1 v2 J1 v) 0 _ := (A1.imp fun k v h => h.keep T1).app (.cons (((g2.keep s3).keep z101).keep x1) (.cons ((g3.keep z101).keep x1) .nil))
    have S2 : Same H J1 := S1.trans T1
    refine ⟨_, rfl, _, _, rfl, rfl, fun t4 H4 s4 g4 => ⟨_, _, rfl, rfl, fun t5 H5 s5 g5 => ⟨sz (by simp), fun l2 K102 n2 z102 y102 => ⟨_, _, _, _, rfl, rfl, z102 _ _ (s5 _ _ (s4 _ _ w1)), y102, sz (by simp), fun m2 J2 o2 x2 w2 => ?_⟩⟩⟩⟩
    have T2 := ((s4.trans s5).trans z102).trans x2
    have A3 : Ats (fun k v => PairAt (C k) "part" v1 v2 J2 v) 0 _ := (A2.imp fun k v h => h.keep T2).app (.cons (((g4.keep s5).keep z102).keep x2) (.cons ((g5.keep z102).keep x2) .nil))
    have S3 : Same H J2 := S2.trans T2
    refine ⟨_, rfl, _, _, rfl, rfl, fun t6 H6 s6 g6 => ⟨_, _, rfl, rfl, fun t7 H7 s7 g7 => ⟨sz (by simp), fun l3 K103 n3 z103 y103 => ⟨_, _, _, _, rfl, rfl, z103 _ _ (s7 _ _ (s6 _ _ w2)), y103, sz (by simp), fun m3 J3 o3 x3 w3 => ?_⟩⟩⟩⟩
    have T3 := ((s6.trans s7).trans z103).trans x3
    have A4 : Ats (fun k v => PairAt (C k) "part" v1 v2 J3 v) 0 _ := (A3.imp fun k v h => h.keep T3).app (.cons (((g6.keep s7).keep z103).keep x3) (.cons ((g7.keep z103).keep x3) .nil))
    have S4 : Same H J3 := S3.trans T3
    refine ⟨_, rfl, _, _, rfl, rfl, fun t8 H8 s8 g8 => ⟨_, _, rfl, rfl, fun t9 H9 s9 g9 => ⟨sz (by simp), fun l4 K104 n4 z104 y104 => ⟨_, _, _, _, rfl, rfl, z104 _ _ (s9 _ _ (s8 _ _ w3)), y104, sz (by simp), fun m4 J4 o4 x4 w4 => ?_⟩⟩⟩⟩
    have T4 := ((s8.trans s9).trans z104).trans x4
    have A5 : Ats (fun k v => PairAt (C k) "part" v1 v2 J4 v) 0 _ := (A4.imp fun k v h => h.keep T4).app (.cons (((g8.keep s9).keep z104).keep x4) (.cons ((g9.keep z104).keep x4) .nil))
    have S5 : Same H J4 := S4.trans T4
    refine ⟨_, rfl, _, _, rfl, rfl, fun t10 H10 s10 g10 => ⟨_, _, rfl, rfl, fun t11 H11 s11 g11 => ⟨sz (by simp), fun l5 K105 n5 z105 y105 => ⟨_, _, _, _, rfl, rfl, z105 _ _ (s11 _ _ (s10 _ _ w4)), y105, sz (by simp), fun m5 J5 o5 x5 w5 => ?_⟩⟩⟩⟩
    have T5 := ((s10.trans s11).trans z105).trans x5
    have A6 : Ats (fun k v => PairAt (C k) "part" v1 v2 J5 v) 0 _ := (A5.imp fun k v h => h.keep T5).app (.cons (((g10.keep s11).keep z105).keep x5) (.cons ((g11.keep z105).keep x5) .nil))
    have S6 : Same H J5 := S5.trans T5
    refine ⟨_, rfl, _, _, rfl, rfl, fun t12 H12 s12 g12 => ⟨_, _, rfl, rfl, fun t13 H13 s13 g13 => ⟨sz (by simp), fun l6 K106 n6 z106 y106 => ⟨_, _, _, _, rfl, rfl, z106 _ _ (s13 _ _ (s12 _ _ w5)), y106, sz (by simp), fun m6 J6 o6 x6 w6 => ?_⟩⟩⟩⟩
    have T6 := ((s12.trans s13).trans z106).trans x6
    have A7 : Ats (fun k v => PairAt (C k) "part" v1 v2 J6 v) 0 _ := (A6.imp fun k v h => h.keep T6).app (.cons (((g12.keep s13).keep z106).keep x6) (.cons ((g13.keep z106).keep x6) .nil))
    have S7 : Same H J6 := S6.trans T6
    show tLc (iList K (tVar 2)) (gTup K 2 (gCons (gName 3) (gCons (gName 4) gNil))) tYes (tTupS (tCons (tVar 3) (tCons (tEf K "part" (tVar 3)) (tCons (tVar 4) (tCons (tEf K "part" (tVar 4)) tNil))))) [3, 4] [some v1, some v2, some (V.ref m6), none, none] J6 Q
    refine comp_rows (f := "part") (k0 := 0) (fun j hj => ?_) A7 w6 (by simp) rfl (fun _ _ => rfl) (fun _ _ => rfl) (fun _ _ => rfl) fun r rows H2 q1 q2 q3 q4 => k r rows H2 (S7.trans q1) q2 (by rw [q3]; rfl) q4
    have hj2 : j < 14 := by simpa using hj
    rw [Nat.zero_add]
    exact ⟨T.exk j (by omega), T.part j hj2⟩
end
end K00
end
section
set_option maxRecDepth 100000
set_option maxHeartbeats 4000000
namespace K00
open PySem PySem.Spec PyProof.Rows L2 Lw
abbrev sNames : Stmt := top 37
theorem PairAt.set {C D : Addr} {f : Str} {v1 v2 v : V} {H H' : Hp} {xs : List V} (h : PairAt C f v1 v2 H v) (hD : H D = some (.lst xs)) (B : But D H H') : PairAt C f v1 v2 H' v := by
  obtain ⟨t, e1, d1, e2, d2, e, h1, h2, h3, h4, h5⟩ := h
  exact ⟨t, e1, d1, e2, d2, e, B _ _ (ne_of h1 hD (by intro z; cases z)) h1, B _ _ (ne_of h2 hD exo_lst) h2, B _ _ (ne_of h3 hD exd_lst) h3, B _ _ (ne_of h4 hD exo_lst) h4, B _ _ (ne_of h5 hD exd_lst) h5⟩
section
variable {P : Program} {w : World} {K : PySem.W.Frag} {mg : Str → Option Value} {base : Heap} {C fI : Nat → Addr} {fd : Nat → FuncData}
theorem Errs.name (T : Errs P w K mg base C fI fd) : ∀ k, k < 5 → PySem.W.findIn K (.ref (C (16 + k))) "name" = some none
  | 0, _ => T.e16.no
  | 1, _ => T.e17.no
  | 2, _ => T.e18.no
  | 3, _ => T.e19.no
  | 4, _ => T.e20.no
  | k + 5, h => absurd h (by omega)
theorem Errs.value (T : Errs P w K mg base C fI fd) : ∀ k, k < 2 → PySem.W.findIn K (.ref (C (14 + k))) "value" = some none
  | 0, _ => T.e14.no
  | 1, _ => T.e15.no
  | k + 2, h => absurd h (by omega)
abbrev nNames : List Str := ["_law_one_so", "_law_two_so", "_law_numbers", "_law_found", "_law_absent", "_law_row", "_law_other", "_law_line", "_law_more", "_law_bar", "_law_door", "_law_bay", "_law_none", "_law_one", "_law_two"]
theorem scNames : FnScope nNames ["_law_one_so", "_law_two_so"] (defScope sNames) := ⟨rfl, rfl, rfl, by decide +kernel, rfl, by decide +kernel, by decide +kernel⟩
def spNames (C : Nat → Addr) : Sp := fun vs H Q _ => ∃ v1 v2, vs = [v1, v2] ∧ ∀ q rows H2, Same H H2 → H2 q = some (.lst rows) → rows.length = 11 → Ats (fun k v => RowAt (C k) v1 v2 H2 v) 14 rows → Q (.ref q) H2
theorem ok_names {f : Addr} {gd : FuncData} (F : Fun K "_law_names" "_law_names" sNames f gd) (T : Errs P w K mg base C fI fd) : FnOk P w K mg base CX0 3 f gd ["_law_one_so", "_law_two_so"] (spNames C) := by
  refine F.ok scNames (fun vs H Q E h => ?_) (fun cdv A outer s H vs Q E hr h => ?_)
  · obtain ⟨v1, v2, rfl, _⟩ := h
    rfl
  · obtain ⟨v1, v2, rfl, k⟩ := h
    refine ⟨_, pss_cons (ps_set (i := 2) scNames.nd rfl (Or.inl rfl) (pe_lstS (pa_cons (pe_pair T.e14 hr rfl pass0 (pv 0) (pv 1)) (pa_cons (pe_pair T.e15 hr rfl pass0 (pv 0) (pv 1)) pa_nil))))
      (pss_cons (ps_setLc (i := 3) (own := [("_law_one", 13), ("_law_two", 14)]) (g := gTup K 2 (gCons (gName 13) (gCons (gName 14) gNil))) (tt := tYes) (te := tTupS (tCons (tVar 13) (tCons (tEf K "value" (tVar 13)) (tCons (tVar 14) (tCons (tEf K "value" (tVar 14)) tNil)))))
        rfl scNames.nd rfl rfl (sw_true rfl rfl rfl (by decide +kernel)) (pi_list (pv 2)) (blkOk_by (N := nNames) (sc := defScope sNames) (own := [("_law_one", 13), ("_law_two", 14)]) (by decide +kernel))
        (fun _ _ _ _ _ => pg_tup rfl (pgs_cons (pg_name (i := 13) scNames.nd rfl (Or.inl rfl)) (pgs_cons (pg_name (i := 14) scNames.nd rfl (Or.inl rfl)) pgs_nil))) (fun _ _ _ _ _ => pts_nil)
        (fun _ _ _ _ _ => pe_tupS (pa_cons (pv 13) (pa_cons (pe_ef (pv 13)) (pa_cons (pv 14) (pa_cons (pe_ef (pv 14)) pa_nil))))))
      (pss_cons (ps_set (i := 4) scNames.nd rfl (Or.inl rfl) (pe_lstS (pa_cons (pe_pair T.e16 hr rfl pass0 (pv 0) (pv 1)) (pa_cons (pe_pair T.e17 hr rfl pass0 (pv 0) (pv 1)) pa_nil))))
      (pss_cons (ps_set (i := 4) scNames.nd rfl (Or.inl rfl) (pe_op op_catS (pv 4) (pe_lstS (pa_cons (pe_pair T.e18 hr rfl pass0 (pv 0) (pv 1)) (pa_cons (pe_pair T.e19 hr rfl pass0 (pv 0) (pv 1)) pa_nil)))))
      (pss_cons (ps_expr (pe_bm PySem.F.plainAttrs_list PySem.F.slot_list_append PySem.F.type_list_append mt_append (pv 4) (pa_cons (pe_pair T.e20 hr rfl pass0 (pv 0) (pv 1)) pa_nil)))
      (pss_cons (ps_set (i := 3) scNames.nd rfl (Or.inl rfl) (pe_op op_catS (pv 3) (pe_lc (own := [("_law_one", 13), ("_law_two", 14)]) (g := gTup K 2 (gCons (gName 13) (gCons (gName 14) gNil))) (tt := tYes) (te := tTupS (tCons (tVar 13) (tCons (tEf K "name" (tVar 13)) (tCons (tVar 14) (tCons (tEf K "name" (tVar 14)) tNil)))))
        rfl scNames.nd (pi_list (pv 4)) (blkOk_by (N := nNames) (sc := defScope sNames) (own := [("_law_one", 13), ("_law_two", 14)]) (by decide +kernel))
        (fun _ _ _ _ _ => pg_tup rfl (pgs_cons (pg_name (i := 13) scNames.nd rfl (Or.inl rfl)) (pgs_cons (pg_name (i := 14) scNames.nd rfl (Or.inl rfl)) pgs_nil))) (fun _ _ _ _ _ => pts_nil)
        (fun _ _ _ _ _ => pe_tupS (pa_cons (pv 13) (pa_cons (pe_ef (pv 13)) (pa_cons (pv 14) (pa_cons (pe_ef (pv 14)) pa_nil))))))))
      (pss_cons (ps_asg (pe_tupS (pa_cons (pe_e1 T.e21 hr rfl pass0 (pa_cons (pv 0) pa_nil)) (pa_cons (pe_e1k T.e21 hr rfl pass0 (pk_cons (pv 1) pk_nil)) (pa_cons (pe_e1 T.e22 hr rfl pass0 (pa_cons (pv 0) pa_nil)) (pa_cons (pe_e1k T.e22 hr rfl pass0 (pk_cons (pv 1) pk_nil)) pa_nil)))))
        (pg_tup rfl (pgs_cons (pg_name (i := 5) scNames.nd rfl (Or.inl rfl)) (pgs_cons (pg_name (i := 6) scNames.nd rfl (Or.inl rfl)) (pgs_cons (pg_name (i := 7) scNames.nd rfl (Or.inl rfl)) (pgs_cons (pg_name (i := 8) scNames.nd rfl (Or.inl rfl)) pgs_nil))))))
      (pss_cons (ps_set (i := 3) scNames.nd rfl (Or.inl rfl) (pe_op op_catS (pv 3) (pe_lstS (pa_cons (pe_tupS (pa_cons (pv 5) (pa_cons (pe_ef (pv 5)) (pa_cons (pv 6) (pa_cons (pe_ef (pv 6)) pa_nil))))) (pa_cons (pe_tupS (pa_cons (pv 7) (pa_cons (pe_ef (pv 7)) (pa_cons (pv 8) (pa_cons (pe_ef (pv 8)) pa_nil))))) pa_nil)))))
      (pss_cons (ps_asg (pe_tupS (pa_cons (pe_e1 T.e23 hr rfl pass0 (pa_cons (pv 0) pa_nil)) (pa_cons (pe_e1k T.e23 hr rfl pass0 (pk_cons (pv 1) pk_nil)) (pa_cons (pe_e1 T.e24 hr rfl pass0 (pa_cons (pv 0) pa_nil)) (pa_cons (pe_e1k T.e24 hr rfl pass0 (pk_cons (pv 1) pk_nil)) pa_nil)))))
        (pg_tup rfl (pgs_cons (pg_name (i := 9) scNames.nd rfl (Or.inl rfl)) (pgs_cons (pg_name (i := 10) scNames.nd rfl (Or.inl rfl)) (pgs_cons (pg_name (i := 11) scNames.nd rfl (Or.inl rfl)) (pgs_cons (pg_name (i := 12) scNames.nd rfl (Or.inl rfl)) pgs_nil))))))
      (pss_one (ps_ret (pe_op op_catS (pv 3) (pe_lstS (pa_cons (pe_tupS (pa_cons (pv 9) (pa_cons (pe_ef (pv 9)) (pa_cons (pv 10) (pa_cons (pe_ef (pv 10)) pa_nil))))) (pa_cons (pe_tupS (pa_cons (pv 11) (pa_cons (pe_ef (pv 11)) (pa_cons (pv 12) (pa_cons (pe_ef (pv 12)) pa_nil))))) pa_nil)))))))))))))), ?_⟩
    rw [show L2.start nNames [v1, v2] = [some v1, some v2, none, none, none, none, none, none, none, none, none, none, none, none, none] from rfl]
    refine ⟨_, _, rfl, rfl, fun t0 H0 s0 g0 => ⟨_, _, rfl, rfl, fun t1 H1 s1 g1 => ⟨sz (by simp), fun l1 K1 n1 z1 y1 => ?_⟩⟩⟩
    have A1 : Ats (fun k v => PairAt (C k) "value" v1 v2 K1 v) 14 _ := .cons ((g0.keep s1).keep z1) (.cons (g1.keep z1) .nil)
    have S1 : Same H K1 := (s0.trans s1).trans z1
    dsimp only [gName, tSeq, tAsg]
    show tLc (iList K (tVar 2)) (gTup K 2 (gCons (gName 13) (gCons (gName 14) gNil))) tYes (tTupS (tCons (tVar 13) (tCons (tEf K "value" (tVar 13)) (tCons (tVar 14) (tCons (tEf K "value" (tVar 14)) tNil))))) [13, 14] [some v1, some v2, some (V.ref l1), none, none, none, none, none, none, none, none, none, none, none, none] K1 _
    refine comp_rows (C := C) (f := "value") (k0 := 14) (fun j hj => ⟨T.exk _ (by simp at hj; omega), T.value j (by simpa using hj)⟩) A1 y1 (by simp) rfl (fun _ _ => rfl) (fun _ _ => rfl) (fun _ _ => rfl) fun r1 rows1 K2 z2 y2 c2 A2 => ?_
    refine ⟨_, _, rfl, rfl, fun t2 H2 s2 g2 => ⟨_, _, rfl, rfl, fun t3 H3 s3 g3 => ⟨sz (by simp), fun l2 K3 n3 z3 y3 => ?_⟩⟩⟩
    refine ⟨_, rfl, _, _, rfl, rfl, fun t4 H4 s4 g4 => ⟨_, _, rfl, rfl, fun t5 H5 s5 g5 => ⟨sz (by simp), fun l4 K4 n4 z4 y4 => ⟨_, _, _, _, rfl, rfl, z4 _ _ (s5 _ _ (s4 _ _ y3)), y4, sz (by simp), fun l3 K5 n5 z5 y5 => ?_⟩⟩⟩⟩
    refine ⟨_, rfl, Or.inl ⟨rfl, _, SqL.of y5⟩, _, _, rfl, rfl, fun t6 H6 s6 g6 => ⟨_, _, _, rfl, rfl, s6 _ _ y5, Nat.lt_of_lt_of_le (show _ < 1000 by simp) (sz (Nat.le_refl _)), ?_⟩⟩
    have B6 : But l3 H6 (upd H6 l3 (.lst ([t2, t3] ++ [t4, t5] ++ [t6]))) := But.upd (But.refl _ _)
    have w6 := s6 _ _ y5
    have S25 : Same K2 K4 := ((((s2.trans s3).trans z3).trans s4).trans s5).trans z4
    have S26 : Same K2 H6 := (S25.trans z5).trans s6
    have A5 : Ats (fun k v => PairAt (C k) "name" v1 v2 H6 v) 16 ([t2, t3] ++ [t4, t5] ++ [t6]) :=
      Ats.app (.cons (((((((g2.keep s3).keep z3).keep s4).keep s5).keep z4).keep z5).keep s6) (.cons ((((((g3.keep z3).keep s4).keep s5).keep z4).keep z5).keep s6) (.cons ((((g4.keep s5).keep z4).keep z5).keep s6) (.cons (((g5.keep z4).keep z5).keep s6) .nil)))) (.cons g6 .nil)
    have A6 := A5.imp fun k v h => h.set w6 B6
    have n3r : r1 ≠ l3 := ne_of_none (S25 _ _ y2) n5
    have y2' : (upd H6 l3 (.lst ([t2, t3] ++ [t4, t5] ++ [t6]))) r1 = some (.lst rows1) := B6 _ _ n3r (S26 _ _ y2)
    have A2' := (A2.imp fun k v h => h.keep S26).imp fun k v h => h.set w6 B6
    refine ⟨_, rfl, ?_⟩
    dsimp only [gName, tSeq, tAsg]
    show tLc (iList K (tVar 4)) (gTup K 2 (gCons (gName 13) (gCons (gName 14) gNil))) tYes (tTupS (tCons (tVar 13) (tCons (tEf K "name" (tVar 13)) (tCons (tVar 14) (tCons (tEf K "name" (tVar 14)) tNil))))) [13, 14] [some v1, some v2, some (V.ref l1), some (V.ref r1), some (V.ref l3), none, none, none, none, none, none, none, none, none, none] _ _
    refine comp_rows (C := C) (f := "name") (k0 := 16) (fun j hj => ⟨T.exk _ (by simp at hj; omega), T.name j (by simpa using hj)⟩) A6 upd_same (by simp) rfl (fun _ _ => rfl) (fun _ _ => rfl) (fun _ _ => rfl) fun r2 rows2 K7 z7 y7 c7 A7 => ?_
    refine ⟨_, _, _, _, rfl, rfl, z7 _ _ y2', y7, sz (by rw [c2, c7]; simp), fun f3 K8 n8 z8 y8 => ?_⟩
    have A8 : Ats (fun k v => RowAt (C k) v1 v2 K8 v) 14 (rows1 ++ rows2) := (A2'.imp fun k v h => (h.keep z7).keep z8).app (by rw [c2]; exact A7.imp fun k v h => h.keep z8)
    refine ⟨_, rfl, _, rfl, fun eau dau Hau mau => ⟨_, rfl, _, rfl, fun ebu dbu Hbu mbu => ⟨_, rfl, _, rfl, fun ecu dcu Hcu mcu => ⟨_, rfl, _, rfl, fun edu ddu Hdu mdu => ⟨sz (by simp), fun qu Qu nqu squ gqu => ?_⟩⟩⟩⟩⟩
    obtain ⟨a1u, a2u, a3u⟩ := mau
    obtain ⟨b1u, b2u, b3u⟩ := mbu
    obtain ⟨c1u, c2u, c3u⟩ := mcu
    obtain ⟨d1u, d2u, d3u⟩ := mdu
    have SBu : Same Hbu Qu := (c1u.trans d1u).trans squ
    have SAu : Same Hau Qu := b1u.trans SBu
    have S0u : Same K8 Qu := a1u.trans SAu
    have SCu : Same Hcu Qu := d1u.trans squ
    refine ⟨_, _, rfl, SqT.of gqu, rfl, _, _, rfl, _, _, rfl, _, _, rfl, _, _, rfl, rfl, ?_⟩
    dsimp only [gName, List.set, cxOf]
    refine ⟨_, rfl, _, rfl, _, rfl, _, C 21, dau, _, v1, rfl, T.e21.toExK, T.e21.no, SAu _ _ a2u, SAu _ _ a3u, (by simp [List.lookup]), _, rfl, _, rfl, _, C 21, dbu, _, v2, rfl, T.e21.toExK, T.e21.no, SBu _ _ b2u, SBu _ _ b3u, (by simp [List.lookup]), sz (by simp), fun tau Gau nau sau gau => ?_⟩
    refine ⟨_, rfl, _, rfl, _, C 22, dcu, _, v1, rfl, T.e22.toExK, T.e22.no, sau _ _ (SCu _ _ c2u), sau _ _ (SCu _ _ c3u), (by simp [List.lookup]), _, rfl, _, rfl, _, C 22, ddu, _, v2, rfl, T.e22.toExK, T.e22.no, sau _ _ (squ _ _ d2u), sau _ _ (squ _ _ d3u), (by simp [List.lookup]), sz (by simp), fun tbu Gbu nbu sbu gbu => ?_⟩
    have RAu : RowAt (C 21) v1 v2 Gbu (.ref tau) := ⟨_, _, _, rfl, sbu _ _ gau, .inl ⟨_, _, sbu _ _ (sau _ _ (SAu _ _ a2u)), sbu _ _ (sau _ _ (SAu _ _ a3u))⟩, .inl ⟨_, _, sbu _ _ (sau _ _ (SBu _ _ b2u)), sbu _ _ (sau _ _ (SBu _ _ b3u))⟩⟩
    have RBu : RowAt (C 22) v1 v2 Gbu (.ref tbu) := ⟨_, _, _, rfl, gbu, .inl ⟨_, _, sbu _ _ (sau _ _ (SCu _ _ c2u)), sbu _ _ (sau _ _ (SCu _ _ c3u))⟩, .inl ⟨_, _, sbu _ _ (sau _ _ (squ _ _ d2u)), sbu _ _ (sau _ _ (squ _ _ d3u))⟩⟩
    have SU := ((S0u.trans sau).trans sbu)
    refine ⟨sz (by simp), fun l5 K9 n9 z9 y9 => ⟨_, _, _, _, rfl, rfl, z9 _ _ (SU _ _ y8), y9, sz (by rw [List.length_append, c2, c7]; simp), fun f4 L4 n10 z10 y10 => ?_⟩⟩
    have S9 : Same Gbu L4 := z9.trans z10
    have A9 : Ats (fun k v => RowAt (C k) v1 v2 L4 v) 14 ((rows1 ++ rows2) ++ [.ref tau, .ref tbu]) := (A8.imp fun k v h => (h.keep SU).keep S9).app (by
      rw [List.length_append, c2, c7]
      exact .cons (RAu.keep S9) (.cons (RBu.keep S9) .nil))
    refine ⟨_, rfl, _, rfl, fun eax dax Hax max => ⟨_, rfl, _, rfl, fun ebx dbx Hbx mbx => ⟨_, rfl, _, rfl, fun ecx dcx Hcx mcx => ⟨_, rfl, _, rfl, fun edx ddx Hdx mdx => ⟨sz (by simp), fun qx Qx nqx sqx gqx => ?_⟩⟩⟩⟩⟩
    obtain ⟨a1x, a2x, a3x⟩ := max
    obtain ⟨b1x, b2x, b3x⟩ := mbx
    obtain ⟨c1x, c2x, c3x⟩ := mcx
    obtain ⟨d1x, d2x, d3x⟩ := mdx
    have SBx : Same Hbx Qx := (c1x.trans d1x).trans sqx
    have SAx : Same Hax Qx := b1x.trans SBx
    have S0x : Same L4 Qx := a1x.trans SAx
    have SCx : Same Hcx Qx := d1x.trans sqx
    refine ⟨_, _, rfl, SqT.of gqx, rfl, _, _, rfl, _, _, rfl, _, _, rfl, _, _, rfl, rfl, ?_⟩
    dsimp only [gName, List.set, cxOf]
    refine ⟨_, rfl, _, rfl, _, rfl, _, C 23, dax, _, v1, rfl, T.e23.toExK, T.e23.no, SAx _ _ a2x, SAx _ _ a3x, (by simp [List.lookup]), _, rfl, _, rfl, _, C 23, dbx, _, v2, rfl, T.e23.toExK, T.e23.no, SBx _ _ b2x, SBx _ _ b3x, (by simp [List.lookup]), sz (by simp), fun tax Gax nax sax gax => ?_⟩
    refine ⟨_, rfl, _, rfl, _, C 24, dcx, _, v1, rfl, T.e24.toExK, T.e24.no, sax _ _ (SCx _ _ c2x), sax _ _ (SCx _ _ c3x), (by simp [List.lookup]), _, rfl, _, rfl, _, C 24, ddx, _, v2, rfl, T.e24.toExK, T.e24.no, sax _ _ (sqx _ _ d2x), sax _ _ (sqx _ _ d3x), (by simp [List.lookup]), sz (by simp), fun tbx Gbx nbx sbx gbx => ?_⟩
    have RAx : RowAt (C 23) v1 v2 Gbx (.ref tax) := ⟨_, _, _, rfl, sbx _ _ gax, .inl ⟨_, _, sbx _ _ (sax _ _ (SAx _ _ a2x)), sbx _ _ (sax _ _ (SAx _ _ a3x))⟩, .inl ⟨_, _, sbx _ _ (sax _ _ (SBx _ _ b2x)), sbx _ _ (sax _ _ (SBx _ _ b3x))⟩⟩
    have RBx : RowAt (C 24) v1 v2 Gbx (.ref tbx) := ⟨_, _, _, rfl, gbx, .inl ⟨_, _, sbx _ _ (sax _ _ (SCx _ _ c2x)), sbx _ _ (sax _ _ (SCx _ _ c3x))⟩, .inl ⟨_, _, sbx _ _ (sax _ _ (sqx _ _ d2x)), sbx _ _ (sax _ _ (sqx _ _ d3x))⟩⟩
    have SX := ((S0x.trans sax).trans sbx)
    refine ⟨sz (by simp), fun l6 M1 n11 z11 y11 => ⟨_, _, _, _, rfl, rfl, z11 _ _ (SX _ _ y10), y11, sz (by simp [c2, c7]), fun f5 M2 n12 z12 y12 => ?_⟩⟩
    have S11 : Same Gbx M2 := z11.trans z12
    refine k f5 _ M2 ?_ y12 (by simp [c2, c7]) ((A9.imp fun k v h => (h.keep SX).keep S11).app (by
      rw [List.length_append, List.length_append, c2, c7]
      exact .cons (RAx.keep S11) (.cons (RBx.keep S11) .nil)))
    have SH4 : Same H K4 := (S1.trans z2).trans S25
    have SH6 : Same H (upd H6 l3 (.lst ([t2, t3] ++ [t4, t5] ++ [t6]))) := fun b o e => B6 b o (ne_of_none (SH4 b o e) n5) (s6 _ _ (z5 _ _ (SH4 b o e)))
    exact (((((SH6.trans z7).trans z8).trans SU).trans S9).trans SX).trans S11
end
end K00
end
section
set_option maxRecDepth 100000
set_option maxHeartbeats 4000000
namespace K00
open PySem PySem.Spec PyProof.Rows L2 Lw
abbrev sAlone : Stmt := top 38
/-- what isinstance asks of the classes -/
structure Kits (K : PySem.W.Frag) (mg : Str → Option Value) (C : Nat → Addr) (SE : Addr) : Prop where
  isi : mg "isinstance" = none
  ve : mg "ValueError" = none
  range : mg "range" = none
  len : mg "len" = none
  gN : mg "Nothing" = some (.ref (C 28))
  gS : mg "StayError" = some (.ref SE)
  exc : ∀ j, j < 29 → ExcC K (C j)
  kit : ∀ i j, i < 29 → j < 29 → PySem.W.kitOne K (.ref (C j)) (.ref (C i)) = some (decide (i = j))
  kitS : ∀ j, j < 29 → PySem.W.kitOne K (.ref (C j)) (.ref SE) = some true
  kitV : ∀ j, j < 29 → PySem.W.kitOne K (.ref (C j)) (.type "ValueError") = some true
section
variable {X : Cx} {C : Nat → Addr} {SE : Addr} {i : Nat} {a b : Str} {p1 p2 p3 pos : Pos}
theorem pe_isi (Z : Kits X.K X.mg C SE) (hi : i < 29) (hm : X.mg b = some (.ref (C i))) (hg : Gl X b) (hg2 : Gl X "isinstance") (h0 : PE X (.Name a p1) (tVar 0)) (hd : (b == ("__debug__" : Str)) = false := by decide)
    (he : starEach [.Name a p1, .Name b p2] X.env = (false, eval (.Name a p1) X.env) :: starEach [.Name b p2] X.env := by rfl) (hpl : (backTo pos (starEach [.Name b p2] X.env)).any (·.1) = false := by rfl) :
    PE X (.Call (.Name "isinstance" p3) [.Name a p1, .Name b p2] [] pos) (fun σ H Q => ∃ x j, σ[0]? = some (some (.ref x)) ∧ j < 29 ∧ TyE H x (C j) ∧ Q (.bl (decide (i = j))) H) := by
  refine PE.imp (pe_callB call_ei hg2 Z.isi (by decide +kernel) (pa_cons h0 (pa_cons (pe_glob (v := .ref (C i)) hg hm rfl hd) pa_nil)) (by decide) (by decide) he hpl) fun σ H Q h => ?_
  obtain ⟨x, j, h1, h2, h3, q⟩ := h
  exact ⟨_, h1, x, C j, _, _, _, rfl, h3, Z.exc j h2, ClsV.own _, Z.kit i j hi h2, q⟩
end
section
variable {P : Program} {w : World} {K : PySem.W.Frag} {mg : Str → Option Value} {base : Heap} {C fI : Nat → Addr} {fd : Nat → FuncData} {SE : Addr}
abbrev nAlone : List Str := ["_law_made", "_law_kind", "_law_kinds", "_law_told_so", "_law_k"]
theorem scAlone : FnScope nAlone ["_law_made", "_law_kind"] (defScope sAlone) := ⟨rfl, rfl, rfl, by decide +kernel, rfl, by decide +kernel, by decide +kernel⟩
def spAlone (C : Nat → Addr) : Sp := fun vs H Q _ => ∃ (a : Addr) (j n : Nat), vs = [.ref a, .int (n : Int)] ∧ j < 29 ∧ TyE H a (C j) ∧ ∀ H2, Same H H2 → Q (.bl (decide (n = j))) H2
theorem ok_alone {f : Addr} {gd : FuncData} (F : Fun K "_law_is_alone" "_law_is_alone" sAlone f gd) (T : Errs P w K mg base C fI fd) (Z : Kits K mg C SE) : FnOk P w K mg base CX0 1 f gd ["_law_made", "_law_kind"] (spAlone C) := by
  refine F.ok scAlone (fun vs H Q E h => ?_) (fun cdv A outer s H vs Q E hr h => ?_)
  · obtain ⟨a, j, n, rfl, _⟩ := h
    rfl
  · obtain ⟨a, j, n, rfl, hj, ty, k⟩ := h
    refine ⟨_, pss_cons (ps_set (i := 2) scAlone.nd rfl (Or.inr rfl) (pe_lstS (pa_cons (pe_isi (i := 0) Z (by decide) T.e0.gl rfl rfl (pv 0)) (pa_cons (pe_isi (i := 1) Z (by decide) T.e1.gl rfl rfl (pv 0)) (pa_cons (pe_isi (i := 2) Z (by decide) T.e2.gl rfl rfl (pv 0)) pa_nil)))))
      (pss_cons (ps_set (i := 2) scAlone.nd rfl (Or.inr rfl) (pe_op op_catS (pv 2) (pe_lstS (pa_cons (pe_isi (i := 3) Z (by decide) T.e3.gl rfl rfl (pv 0)) (pa_cons (pe_isi (i := 4) Z (by decide) T.e4.gl rfl rfl (pv 0)) (pa_cons (pe_isi (i := 5) Z (by decide) T.e5.gl rfl rfl (pv 0)) pa_nil))))))
      (pss_cons (ps_set (i := 2) scAlone.nd rfl (Or.inr rfl) (pe_op op_catS (pv 2) (pe_lstS (pa_cons (pe_isi (i := 6) Z (by decide) T.e6.gl rfl rfl (pv 0)) (pa_cons (pe_isi (i := 7) Z (by decide) T.e7.gl rfl rfl (pv 0)) (pa_cons (pe_isi (i := 8) Z (by decide) T.e8.gl rfl rfl (pv 0)) pa_nil))))))
      (pss_cons (ps_set (i := 2) scAlone.nd rfl (Or.inr rfl) (pe_op op_catS (pv 2) (pe_lstS (pa_cons (pe_isi (i := 9) Z (by decide) T.e9.gl rfl rfl (pv 0)) (pa_cons (pe_isi (i := 10) Z (by decide) T.e10.gl rfl rfl (pv 0)) (pa_cons (pe_isi (i := 11) Z (by decide) T.e11.gl rfl rfl (pv 0)) pa_nil))))))
      (pss_cons (ps_set (i := 2) scAlone.nd rfl (Or.inr rfl) (pe_op op_catS (pv 2) (pe_lstS (pa_cons (pe_isi (i := 12) Z (by decide) T.e12.gl rfl rfl (pv 0)) (pa_cons (pe_isi (i := 13) Z (by decide) T.e13.gl rfl rfl (pv 0)) (pa_cons (pe_isi (i := 14) Z (by decide) T.e14.gl rfl rfl (pv 0)) pa_nil))))))
      (pss_cons (ps_set (i := 2) scAlone.nd rfl (Or.inr rfl) (pe_op op_catS (pv 2) (pe_lstS (pa_cons (pe_isi (i := 15) Z (by decide) T.e15.gl rfl rfl (pv 0)) (pa_cons (pe_isi (i := 16) Z (by decide) T.e16.gl rfl rfl (pv 0)) (pa_cons (pe_isi (i := 17) Z (by decide) T.e17.gl rfl rfl (pv 0)) pa_nil))))))
      (pss_cons (ps_set (i := 2) scAlone.nd rfl (Or.inr rfl) (pe_op op_catS (pv 2) (pe_lstS (pa_cons (pe_isi (i := 18) Z (by decide) T.e18.gl rfl rfl (pv 0)) (pa_cons (pe_isi (i := 19) Z (by decide) T.e19.gl rfl rfl (pv 0)) (pa_cons (pe_isi (i := 20) Z (by decide) T.e20.gl rfl rfl (pv 0)) pa_nil))))))
      (pss_cons (ps_set (i := 2) scAlone.nd rfl (Or.inr rfl) (pe_op op_catS (pv 2) (pe_lstS (pa_cons (pe_isi (i := 21) Z (by decide) T.e21.gl rfl rfl (pv 0)) (pa_cons (pe_isi (i := 22) Z (by decide) T.e22.gl rfl rfl (pv 0)) (pa_cons (pe_isi (i := 23) Z (by decide) T.e23.gl rfl rfl (pv 0)) pa_nil))))))
      (pss_cons (ps_set (i := 2) scAlone.nd rfl (Or.inr rfl) (pe_op op_catS (pv 2) (pe_lstS (pa_cons (pe_isi (i := 24) Z (by decide) T.e24.gl rfl rfl (pv 0)) (pa_cons (pe_isi (i := 25) Z (by decide) T.e25.gl rfl rfl (pv 0)) (pa_cons (pe_isi (i := 26) Z (by decide) T.e26.gl rfl rfl (pv 0)) pa_nil))))))
      (pss_cons (ps_set (i := 2) scAlone.nd rfl (Or.inr rfl) (pe_op op_catS (pv 2) (pe_lstS (pa_cons (pe_isi (i := 27) Z (by decide) T.e27.gl rfl rfl (pv 0)) (pa_cons (pe_isi (i := 28) Z (by decide) Z.gN rfl rfl (pv 0)) pa_nil)))))
      (pss_cons (ps_setLc (i := 3) (own := [("_law_k", 4)]) (g := gName 4) (tt := tB (tOp (rIxL K) (tVar 2) (tVar 4))) (te := tVar 4) rfl scAlone.nd rfl rfl (sw_true rfl rfl rfl (by decide +kernel)) (pi_range1 rfl Z.range (pa_cons (pe_callB call_len_seq (by rfl) Z.len PySem.boot_len (pa_cons (pv 2) pa_nil)) pa_nil))
        (blkOk_by (N := nAlone) (sc := defScope sAlone) (own := [("_law_k", 4)]) (by decide +kernel)) (fun _ _ _ _ _ => pg_name (i := 4) scAlone.nd rfl (Or.inl rfl)) (fun _ _ _ _ _ => pts_one (pt_val (pe_ix ix_list (pv 2) (pv 4) (fun _ _ => rfl)))) (fun _ _ _ _ _ => pv 4))
      (pss_one (ps_ret (pe_and (pe_cmpR (op_eqD hr.units) (pv 3) (pe_lstS (pa_cons (pv 1) pa_nil)) (nomark _)) (pe_and (pe_callB call_ei (by rfl) Z.isi (by decide +kernel) (pa_cons (pv 0) (pa_cons (pe_glob (v := .ref SE) rfl Z.gS rfl) pa_nil)))
        (pe_one (pe_callB call_ei (by rfl) Z.isi (by decide +kernel) (pa_cons (pv 0) (pa_cons (pe_bltn (v := .ty "ValueError") (by rfl) Z.ve boot_ValueError rfl) pa_nil)))))))))))))))))), ?_⟩
    rw [show L2.start nAlone [.ref a, .int (n : Int)] = [some (.ref a), some (.int (n : Int)), none, none, none] from rfl]
    refine ⟨a, j, rfl, hj, ty, a, j, rfl, hj, ty, a, j, rfl, hj, ty, sz (by simp), fun l0 H0 n0 s0 g0 => ?_⟩
    have ty1 := ty.keep s0
    refine ⟨_, rfl, a, j, rfl, hj, ty1, a, j, rfl, hj, ty1, a, j, rfl, hj, ty1, sz (by simp), fun m1 M1 o1 u1 w1 => ⟨_, _, _, _, rfl, rfl, u1 _ _ g0, w1, sz (by simp), fun l1 H1 n1 s1 g1 => ?_⟩⟩
    have S1 := (s0.trans u1).trans s1
    dsimp only [gName, List.set]
    have ty2 := ty.keep S1
    refine ⟨_, rfl, a, j, rfl, hj, ty2, a, j, rfl, hj, ty2, a, j, rfl, hj, ty2, sz (by simp), fun m2 M2 o2 u2 w2 => ⟨_, _, _, _, rfl, rfl, u2 _ _ g1, w2, sz (by simp), fun l2 H2 n2 s2 g2 => ?_⟩⟩
    have S2 := (S1.trans u2).trans s2
    dsimp only [gName, List.set]
    have ty3 := ty.keep S2
    refine ⟨_, rfl, a, j, rfl, hj, ty3, a, j, rfl, hj, ty3, a, j, rfl, hj, ty3, sz (by simp), fun m3 M3 o3 u3 w3 => ⟨_, _, _, _, rfl, rfl, u3 _ _ g2, w3, sz (by simp), fun l3 H3 n3 s3 g3 => ?_⟩⟩
    have S3 := (S2.trans u3).trans s3
    dsimp only [gName, List.set]
    have ty4 := ty.keep S3
    refine ⟨_, rfl, a, j, rfl, hj, ty4, a, j, rfl, hj, ty4, a, j, rfl, hj, ty4, sz (by simp), fun m4 M4 o4 u4 w4 => ⟨_, _, _, _, rfl, rfl, u4 _ _ g3, w4, sz (by simp), fun l4 H4 n4 s4 g4 => ?_⟩⟩
    have S4 := (S3.trans u4).trans s4
    dsimp only [gName, List.set]
    have ty5 := ty.keep S4
    refine ⟨_, rfl, a, j, rfl, hj, ty5, a, j, rfl, hj, ty5, a, j, rfl, hj, ty5, sz (by simp), fun m5 M5 o5 u5 w5 => ⟨_, _, _, _, rfl, rfl, u5 _ _ g4, w5, sz (by simp), fun l5 H5 n5 s5 g5 => ?_⟩⟩
    have S5 := (S4.trans u5).trans s5
    dsimp only [gName, List.set]
    have ty6 := ty.keep S5
    refine ⟨_, rfl, a, j, rfl, hj, ty6, a, j, rfl, hj, ty6, a, j, rfl, hj, ty6, sz (by simp), fun m6 M6 o6 u6 w6 => ⟨_, _, _, _, rfl, rfl, u6 _ _ g5, w6, sz (by simp), fun l6 H6 n6 s6 g6 => ?_⟩⟩
    have S6 := (S5.trans u6).trans s6
    dsimp only [gName, List.set]
    have ty7 := ty.keep S6
    refine ⟨_, rfl, a, j, rfl, hj, ty7, a, j, rfl, hj, ty7, a, j, rfl, hj, ty7, sz (by simp), fun m7 M7 o7 u7 w7 => ⟨_, _, _, _, rfl, rfl, u7 _ _ g6, w7, sz (by simp), fun l7 H7 n7 s7 g7 => ?_⟩⟩
    have S7 := (S6.trans u7).trans s7
    dsimp only [gName, List.set]
    have ty8 := ty.keep S7
    refine ⟨_, rfl, a, j, rfl, hj, ty8, a, j, rfl, hj, ty8, a, j, rfl, hj, ty8, sz (by simp), fun m8 M8 o8 u8 w8 => ⟨_, _, _, _, rfl, rfl, u8 _ _ g7, w8, sz (by simp), fun l8 H8 n8 s8 g8 => ?_⟩⟩
    have S8 := (S7.trans u8).trans s8
    dsimp only [gName, List.set]
    have ty9 := ty.keep S8
    refine ⟨_, rfl, a, j, rfl, hj, ty9, a, j, rfl, hj, ty9, sz (by simp), fun m9 M9 o9 u9 w9 => ⟨_, _, _, _, rfl, rfl, u9 _ _ g8, w9, sz (by simp), fun l9 H9 n9 s9 g9 => ?_⟩⟩
    have S9 := (S8.trans u9).trans s9
    dsimp only [gName, List.set]
    have g : H9 l9 = some (.lst ((List.range 29).map fun i => V.bl (decide (i = j)))) := g9
    dsimp only [gName, tSeq, tAsg]
    refine ⟨_, rfl, _, _, rfl, Or.inl (SqL.of g), _, rfl, by simp, by simp, fun D hD => lc_range (lo := 0) (n := 29) (fun i H' => Same H9 H' ∧ H' D = some (.lst (if j < i then [.int (j : Int)] else []))) ⟨Same.new hD, by rw [upd_same, if_neg (by omega)]⟩ ?_ ?_⟩
    · rintro i H' hi ⟨q, e⟩
      have hat : atI ((List.range 29).map fun i => V.bl (decide (i = j))) (0 + (i : Int)) = some (.bl (decide (i = j))) := by
        rw [Int.zero_add]
        refine atI_nat ?_
        rw [List.getElem?_map, List.getElem?_range hi]
        rfl
      refine ⟨rfl, _, rfl, _, rfl, _, _, _, _, rfl, rfl, SqL.of (q _ _ g), hat, _, rfl, ?_⟩
      refine ite2 (fun c => ?_) (fun c => ?_)
      · obtain rfl := of_decide_eq_true c
        refine ⟨_, rfl, _, e, ?_, fun b o z => ?_, ?_⟩
        · rw [if_neg (by omega)]
          decide
        · rw [upd_ne (ne_of_none z hD)]
          exact q b o z
        · rw [upd_same, if_neg (by omega), if_pos (by omega), Int.zero_add]
          rfl
      · have c2 : ¬ i = j := fun z => c (decide_eq_true z)
        refine ⟨q, ?_⟩
        rw [e]
        by_cases h1 : j < i
        · rw [if_pos h1, if_pos (by omega)]
        · rw [if_neg h1, if_neg (by omega)]
    · rintro H' ⟨q, e⟩
      rw [if_pos hj] at e
      have tyF := ty.keep (S9.trans q)
      refine ⟨_, rfl, _, rfl, sz (by simp), fun l H2 n2 s2 g2 => ?_⟩
      refine ⟨.list ([(j : Int)].map PyData.int), .list ([(n : Int)].map PyData.int), .lst (SqL.of (s2 _ _ e)) (dp_ints [(j : Int)]), .lst (SqL.of g2) (dp_ints [(n : Int)]), shaped_ints _, shaped_ints _, _, rfl, ?_⟩
      have eqv : PyData.eqv (.list ([(j : Int)].map PyData.int)) (.list ([(n : Int)].map PyData.int)) = decide (n = j) := by
        by_cases c : n = j
        · subst c
          simp [PyData.eqv, PyData.eqvAll]
        · have c2 : ¬ (j : Int) = (n : Int) := by omega
          simp [PyData.eqv, PyData.eqvAll, c, c2]
      rw [eqv]
      have sF := (S9.trans q).trans s2
      refine ite2 (fun c => ?_) (fun c => ?_)
      · refine ⟨_, rfl, a, C j, _, _, _, rfl, tyF.keep s2, Z.exc j hj, ClsV.own SE, Z.kitS j hj, _, rfl, iteT ?_⟩
        refine ⟨_, rfl, a, C j, _, _, _, rfl, tyF.keep s2, Z.exc j hj, ClsV.ty "ValueError", Z.kitV j hj, ?_⟩
        have z := k H2 sF
        rw [c] at z
        exact z
      · have z := k H2 sF
        have c2 : decide (n = j) = false := by simpa using c
        rw [c2] at z
        exact z
end
end K00
end
section
set_option maxRecDepth 100000
set_option maxHeartbeats 4000000
namespace K00
open PySem PySem.Spec PyProof.Rows L2 Lw
abbrev sTwo : Stmt := top 39
/-- what is asked besides -/
structure More (K : PySem.W.Frag) (mg : Str → Option Value) (C : Nat → Addr) : Prop where
  repr : mg "repr" = none
  gN : mg "Nothing" = some (.ref (C 28))
  kN : PySem.W.keepIn K (.ref (C 28)) = true
  exN : PySem.W.excIn K (C 28) [.type "ValueError", .type "Exception", .type "BaseException", .type "object"] "ValueError.__new__" = true
abbrev nTwo : List Str := ["_law_one_so", "_law_two_so", "_law_made", "_law_texts", "_law_most_so", "_law_told_so", "_law_kinds", "_law_one"]
/-- v is an exception of the class at C with two fields -/
def E2At (C : Addr) (f g : Str) (v1 v2 : V) (H : Hp) (v : V) : Prop := ∃ e d, v = .ref e ∧ H e = some (exo e C (some d)) ∧ H d = some (exd d [(g, v2), (f, v1)])
theorem E2At.keep {C : Addr} {f g : Str} {v1 v2 v : V} {H H' : Hp} (s : Same H H') (h : E2At C f g v1 v2 H v) : E2At C f g v1 v2 H' v := by
  obtain ⟨e, d, e1, h1, h2⟩ := h
  exact ⟨e, d, e1, s _ _ h1, s _ _ h2⟩
section
variable {P : Program} {w : World} {K : PySem.W.Frag} {mg : Str → Option Value} {base : Heap} {C fI : Nat → Addr} {fd : Nat → FuncData} {SE : Addr}
theorem daAll_rep {H : Hp} {v1 v2 : V} {d1 d2 : PyData} (a1 : Da K H v1 d1) (a2 : Da K H v2 d2) : ∀ rows : List V, (∀ x ∈ rows, ∃ t, x = .ref t ∧ H t = some (.lst [v1, v2])) → DaAll K H rows (List.replicate rows.length (.list [d1, d2]))
  | [], _ => .nil
  | x :: r, h => by
    obtain ⟨t, rfl, ht⟩ := h x List.mem_cons_self
    exact .cons (.lst ht (.cons a1 (.cons a2 .nil))) (daAll_rep a1 a2 r fun y hy => h y (List.mem_cons_of_mem _ hy))
theorem six_ok {d1 d2 : PyData} (m1 : Sm d1) (m2 : Sm d2) : (PyData.list (List.replicate 6 (.list [d1, d2]))).showable = true ∧ (PyData.list (List.replicate 6 (.list [d1, d2]))).depth ≤ 60 ∧ (PyData.list (List.replicate 6 (.list [d1, d2]))).shown.length ≤ sizeLine := by
  have e : List.replicate 6 (PyData.list [d1, d2]) = [.list [d1, d2], .list [d1, d2], .list [d1, d2], .list [d1, d2], .list [d1, d2], .list [d1, d2]] := rfl
  rw [e]
  refine ⟨by simp [PyData.showable, PyData.showableAll, m1.sh, m2.sh], ?_, ?_⟩
  · have h1 := m1.dp
    have h2 := m2.dp
    simp only [PyData.depth, PyData.depthAll]
    omega
  · have h1 := m1.sz
    have h2 := m2.sz
    have z := listText_len_le [d1.shown, d2.shown]
    have y := listText_len_le (PyData.shownAll [.list [d1, d2], .list [d1, d2], .list [d1, d2], .list [d1, d2], .list [d1, d2], .list [d1, d2]])
    simp only [PyData.shownAll, PyData.shown, List.map_cons, List.map_nil, List.sum_cons, List.sum_nil, List.length_cons, List.length_nil] at y z ⊢
    refine Nat.le_trans ?_ (show 5000 ≤ sizeLine by decide)
    omega
/-- [[x.f, x.g] for x in xs] -/
theorem comp_two {c : Addr} {f g : Str} {a s : Nat} {v1 v2 : V} {σ : L2.St} {l : Addr} {J : Hp} {xs : List V} {Q : VK} (hX : ExK K c) (hf : PySem.W.findIn K (.ref c) f = some none) (hg : PySem.W.findIn K (.ref c) g = some none) (hfg : (f == g) = false)
    (A : ∀ x ∈ xs, E2At c f g v1 v2 J x) (w : J l = some (.lst xs)) (hl : xs.length ≤ 900) (hs : σ[s]? = some (some (.ref l)))
    (hw : ∀ x, wipe ((wipe σ [a]).set a x) [a] = wipe σ [a]) (ha : ∀ x, ((wipe σ [a]).set a x)[a]? = some x)
    (q : ∀ r rows H2, Same J H2 → H2 r = some (.lst rows) → rows.length = xs.length → (∀ x ∈ rows, ∃ t, x = .ref t ∧ H2 t = some (.lst [v1, v2])) → Q (.ref r) H2) :
    tLc (iList K (tVar s)) (gName a) tYes (tLstS (tCons (tEf K f (tVar a)) (tCons (tEf K g (tVar a)) tNil))) [a] σ J Q := by
  refine ⟨_, hs, _, rfl, ⟨_, SqL.of w⟩, fun D hD => lc_list (K := K) (xs := _) (fun i H' => Same J H' ∧ ∃ acc, H' D = some (.lst acc) ∧ acc.length = i ∧ ∀ x ∈ acc, ∃ t, t ≠ D ∧ x = .ref t ∧ H' t = some (.lst [v1, v2])) ⟨Same.new hD, [], upd_same, rfl, fun x z => nomatch z⟩ (fun i H' _ ⟨q, _⟩ => SqL.of (q _ _ w)) ?_ ?_⟩
  · rintro i x H' hi ⟨q, acc, a1, a2, a3⟩
    obtain ⟨e, d, rfl, h1, h2⟩ := (A x (List.mem_of_getElem? hi)).keep q
    have hi2 : i < xs.length := (List.getElem?_eq_some_iff.mp hi).1
    refine ⟨hw _, ?_⟩
    refine yes_if ?_
    refine ⟨_, ha _, e, c, d, _, v1, rfl, hX, hf, h1, h2, (by simp [List.lookup, hfg]), _, ha _, e, c, d, _, v2, rfl, hX, hg, h1, h2, (by simp [List.lookup]), sz (by simp), fun t H2 n2 s2 g2 => ?_⟩
    refine ⟨acc, s2 _ _ a1, ?_, ?_⟩
    · have : acc.length < 1000 := by omega
      exact Nat.lt_of_lt_of_le this (sz (Nat.le_refl _))
    have nt : t ≠ D := (ne_of_none a1 n2).symm
    refine ⟨fun b o z => ?_, _, upd_same, by simp [a2], fun x hx => ?_⟩
    · rw [upd_ne (ne_of_none z hD)]
      exact s2 _ _ (q b o z)
    · rcases List.mem_append.mp hx with hx | hx
      · obtain ⟨t', n', e', g'⟩ := a3 x hx
        exact ⟨t', n', e', by rw [upd_ne n']; exact s2 _ _ g'⟩
      · have ex : x = .ref t := by simpa using hx
        exact ⟨t, nt, ex, by rw [upd_ne nt]; exact g2⟩
  · rintro H' ⟨q2, acc, a1, a2, a3⟩
    exact q _ acc H' q2 a1 a2 fun x hx => by
      obtain ⟨t, _, e, g⟩ := a3 x hx
      exact ⟨t, e, g⟩
/-- [is_alone(x, n) for x in xs] -/
theorem comp_alone {C : Nat → Addr} {n a s : Nat} {σ : L2.St} {l : Addr} {J : Hp} {xs : List V} {Q : VK} (hn : n < 29) (A : ∀ x ∈ xs, ∃ e, x = .ref e ∧ TyE J e (C n)) (w : J l = some (.lst xs)) (hl : xs.length ≤ 900) (hs : σ[s]? = some (some (.ref l)))
    (hw : ∀ x, wipe ((wipe σ [a]).set a x) [a] = wipe σ [a]) (ha : ∀ x, ((wipe σ [a]).set a x)[a]? = some x)
    (q : ∀ r H2, Same J H2 → H2 r = some (.lst (List.replicate xs.length (.bl true))) → Q (.ref r) H2) :
    tLc (iList K (tVar s)) (gName a) tYes (tCall (spAlone C) [] E0 (tCons (tVar a) (tCons (tC (.int (n : Int))) tNil))) [a] σ J Q := by
  refine ⟨_, hs, _, rfl, ⟨_, SqL.of w⟩, fun D hD => lc_list (K := K) (xs := _) (fun i H' => Same J H' ∧ H' D = some (.lst (List.replicate i (.bl true)))) ⟨Same.new hD, upd_same⟩ (fun i H' _ ⟨q, _⟩ => SqL.of (q _ _ w)) ?_ ?_⟩
  · rintro i x H' hi ⟨q, a1⟩
    obtain ⟨e, rfl, ty⟩ := A x (List.mem_of_getElem? hi)
    have hi2 : i < xs.length := (List.getElem?_eq_some_iff.mp hi).1
    refine ⟨hw _, ?_⟩
    refine yes_if ?_
    refine ⟨_, ha _, e, n, n, rfl, hn, ty.keep q, fun H2 s2 => ?_⟩
    refine ⟨_, s2 _ _ a1, ?_, fun b o z => ?_, ?_⟩
    · rw [List.length_replicate]
      have : i < 1000 := by omega
      exact Nat.lt_of_lt_of_le this (sz (Nat.le_refl _))
    · rw [upd_ne (ne_of_none z hD)]
      exact s2 _ _ (q b o z)
    · rw [upd_same, List.replicate_succ', decide_eq_true (rfl : n = n)]
  · rintro H' ⟨q2, a1⟩
    exact q _ H' q2 a1
theorem scTwo : FnScope nTwo ["_law_one_so", "_law_two_so"] (defScope sTwo) := ⟨rfl, rfl, rfl, by decide +kernel, rfl, by decide +kernel, by decide +kernel⟩
def spTwo (K : PySem.W.Frag) : Sp := fun vs H Q _ => ∃ v1 v2 d1 d2, vs = [v1, v2] ∧ Sm d1 ∧ Sm d2 ∧ Da K H v1 d1 ∧ Da K H v2 d2 ∧ ∀ H2, Same H H2 → Q (.bl true) H2
theorem ok_two {f ga : Addr} {gd gda : FuncData} (F : Fun K "_law_two_right" "_law_two_right" sTwo f gd) (T : Errs P w K mg base C fI fd) (Z : Kits K mg C SE) (Y : More K mg C) (hS : ∃ m, base.Ns sysModules m)
    (GA : FnOk P w K mg base CX0 1 ga gda ["_law_made", "_law_kind"] (spAlone C)) (mgA : mg "_law_is_alone" = some (.ref ga)) (kA : PySem.W.keepIn K (.ref ga) = true) (bA : Binds K gda ["_law_made", "_law_kind"] []) : FnG P w K mg base CX0 3 f gd ["_law_one_so", "_law_two_so"] (spTwo K) := by
  refine okG F scTwo (fun vs H Q E h => ?_) (fun cdv A outer s H vs Q E hG hr h => ?_)
  · obtain ⟨v1, v2, d1, d2, rfl, _⟩ := h
    rfl
  · obtain ⟨v1, v2, d1, d2, rfl, m1, m2, a1, a2, k⟩ := h
    have hr1 : Room 1 _ := hr.mono (by decide)
    refine ⟨_, pss_cons (ps_set (i := 2) scTwo.nd rfl (Or.inl rfl) (pe_lstS (pa_cons (pe_e2 T.e25 (hr.mono (by decide)) rfl pass0 (pa_cons (pv 0) (pa_cons (pv 1) pa_nil))) (pa_cons (pe_e2q T.e25 (hr.mono (by decide)) rfl pass0 (pk_cons (pv 1) (pk_cons (pv 0) pk_nil))) pa_nil))))
      (pss_cons (ps_set (i := 3) scTwo.nd rfl (Or.inl rfl) (pe_lstS (pa_cons (pe_e2 T.e26 (hr.mono (by decide)) rfl pass0 (pa_cons (pv 0) (pa_cons (pv 1) pa_nil))) (pa_cons (pe_e2q T.e26 (hr.mono (by decide)) rfl pass0 (pk_cons (pv 1) (pk_cons (pv 0) pk_nil))) pa_nil))))
      (pss_cons (ps_set (i := 4) scTwo.nd rfl (Or.inl rfl) (pe_lstS (pa_cons (pe_e2 T.e27 (hr.mono (by decide)) rfl pass0 (pa_cons (pv 0) (pa_cons (pv 1) pa_nil))) (pa_cons (pe_e2q T.e27 (hr.mono (by decide)) rfl pass0 (pk_cons (pv 1) (pk_cons (pv 0) pk_nil))) pa_nil))))
      (pss_cons (ps_set (i := 5) scTwo.nd rfl (Or.inl rfl) (pe_op op_catS (pe_lc (own := [("_law_one", 7)]) (g := gName 7) (tt := tYes) (te := tLstS (tCons (tEf K "part" (tVar 7)) (tCons (tEf K "wish" (tVar 7)) tNil))) rfl scTwo.nd (pi_list (pv 2)) (blkOk_by (N := nTwo) (sc := defScope sTwo) (own := [("_law_one", 7)]) (by decide +kernel))
        (fun _ _ _ _ _ => pg_name (i := 7) scTwo.nd rfl (Or.inl rfl)) (fun _ _ _ _ _ => pts_nil) (fun _ _ _ _ _ => pe_lstS (pa_cons (pe_ef (pv 7)) (pa_cons (pe_ef (pv 7)) pa_nil)))) (pe_lc (own := [("_law_one", 7)]) (g := gName 7) (tt := tYes) (te := tLstS (tCons (tEf K "line" (tVar 7)) (tCons (tEf K "word" (tVar 7)) tNil))) rfl scTwo.nd (pi_list (pv 3)) (blkOk_by (N := nTwo) (sc := defScope sTwo) (own := [("_law_one", 7)]) (by decide +kernel))
        (fun _ _ _ _ _ => pg_name (i := 7) scTwo.nd rfl (Or.inl rfl)) (fun _ _ _ _ _ => pts_nil) (fun _ _ _ _ _ => pe_lstS (pa_cons (pe_ef (pv 7)) (pa_cons (pe_ef (pv 7)) pa_nil))))))
      (pss_cons (ps_set (i := 5) scTwo.nd rfl (Or.inl rfl) (pe_op op_catS (pv 5) (pe_lc (own := [("_law_one", 7)]) (g := gName 7) (tt := tYes) (te := tLstS (tCons (tEf K "what" (tVar 7)) (tCons (tEf K "most" (tVar 7)) tNil))) rfl scTwo.nd (pi_list (pv 4)) (blkOk_by (N := nTwo) (sc := defScope sTwo) (own := [("_law_one", 7)]) (by decide +kernel))
        (fun _ _ _ _ _ => pg_name (i := 7) scTwo.nd rfl (Or.inl rfl)) (fun _ _ _ _ _ => pts_nil) (fun _ _ _ _ _ => pe_lstS (pa_cons (pe_ef (pv 7)) (pa_cons (pe_ef (pv 7)) pa_nil))))))
      (pss_cons (ps_set (i := 6) scTwo.nd rfl (Or.inl rfl) (pe_op op_catS (pe_lc (own := [("_law_one", 7)]) (g := gName 7) (tt := tYes) (te := tCall (spAlone C) [] E0 (tCons (tVar 7) (tCons (tC (.int 25)) tNil))) rfl scTwo.nd (pi_list (pv 2)) (blkOk_by (N := nTwo) (sc := defScope sTwo) (own := [("_law_one", 7)]) (by decide +kernel))
        (fun _ _ _ _ _ => pg_name (i := 7) scTwo.nd rfl (Or.inl rfl)) (fun _ _ _ _ _ => pts_nil) (fun _ _ _ _ _ => pe_call GA hr1 rfl mgA kA bA .nil pass0 (pa_cons (pv 7) (pa_cons pe_int pa_nil)))) (pe_lc (own := [("_law_one", 7)]) (g := gName 7) (tt := tYes) (te := tCall (spAlone C) [] E0 (tCons (tVar 7) (tCons (tC (.int 26)) tNil))) rfl scTwo.nd (pi_list (pv 3)) (blkOk_by (N := nTwo) (sc := defScope sTwo) (own := [("_law_one", 7)]) (by decide +kernel))
        (fun _ _ _ _ _ => pg_name (i := 7) scTwo.nd rfl (Or.inl rfl)) (fun _ _ _ _ _ => pts_nil) (fun _ _ _ _ _ => pe_call GA hr1 rfl mgA kA bA .nil pass0 (pa_cons (pv 7) (pa_cons pe_int pa_nil))))))
      (pss_cons (ps_set (i := 6) scTwo.nd rfl (Or.inl rfl) (pe_op op_catS (pe_op op_catS (pv 6) (pe_lc (own := [("_law_one", 7)]) (g := gName 7) (tt := tYes) (te := tCall (spAlone C) [] E0 (tCons (tVar 7) (tCons (tC (.int 27)) tNil))) rfl scTwo.nd (pi_list (pv 4)) (blkOk_by (N := nTwo) (sc := defScope sTwo) (own := [("_law_one", 7)]) (by decide +kernel))
        (fun _ _ _ _ _ => pg_name (i := 7) scTwo.nd rfl (Or.inl rfl)) (fun _ _ _ _ _ => pts_nil) (fun _ _ _ _ _ => pe_call GA hr1 rfl mgA kA bA .nil pass0 (pa_cons (pv 7) (pa_cons pe_int pa_nil))))) (pe_lstS (pa_cons (pe_call GA hr1 rfl mgA kA bA .nil pass0 (pa_cons (pe_x0 PySem.F.excBase_ValueError Y.exN Y.gN Y.kN rfl) (pa_cons pe_int pa_nil))) pa_nil))))
      (pss_one (ps_ret (pe_and (pe_cmpR op_eq (pe_callB (call_repr hG hr.units hS) (by rfl) Y.repr (by decide +kernel) (pa_cons (pv 5) pa_nil)) (pe_callB (call_repr hG hr.units hS) (by rfl) Y.repr (by decide +kernel) (pa_cons (pe_op op_repS (pe_lstS (pa_cons (pe_lstS (pa_cons (pv 0) (pa_cons (pv 1) pa_nil))) pa_nil)) pe_int) pa_nil)) (nomark _)) (pe_one (pe_cmpR (op_eqD hr.units) (pv 6) (pe_op op_repS (pe_lstS (pa_cons pe_bl pa_nil)) pe_int) (nomark _)))))))))))), ?_⟩
    rw [show L2.start nTwo [v1, v2] = [some v1, some v2, none, none, none, none, none, none] from rfl]
    refine ⟨_, rfl, _, rfl, _, _, rfl, fun ea da Fa ua => ⟨_, rfl, _, rfl, _, _, rfl, fun ea2 da2 Ga ta => ⟨sz (by simp), fun la Ka na za ya => ?_⟩⟩⟩
    dsimp only [gName, List.set]
    refine ⟨_, rfl, _, rfl, _, _, rfl, fun eb db Fb ub => ⟨_, rfl, _, rfl, _, _, rfl, fun eb2 db2 Gb tb => ⟨sz (by simp), fun lb Kb nb zb yb => ?_⟩⟩⟩
    dsimp only [gName, List.set]
    refine ⟨_, rfl, _, rfl, _, _, rfl, fun ec dc Fc uc => ⟨_, rfl, _, rfl, _, _, rfl, fun ec2 dc2 Gc tc => ⟨sz (by simp), fun lc Kc nc zc yc => ?_⟩⟩⟩
    dsimp only [gName, List.set]
    have Sb : Same Ka Kb := (ub.1.trans tb.1).trans zb
    have Sc : Same Kb Kc := (uc.1.trans tc.1).trans zc
    have xa : ∀ x ∈ [V.ref ea, V.ref ea2], E2At (C 25) "part" "wish" v1 v2 Kc x := by
      intro x hx
      rcases List.mem_cons.mp hx with e | hx
      · exact ⟨ea, da, e, Sc _ _ (Sb _ _ (za _ _ (ta.1 _ _ ua.2.1))), Sc _ _ (Sb _ _ (za _ _ (ta.1 _ _ ua.2.2)))⟩
      · exact ⟨ea2, da2, by simpa using hx, Sc _ _ (Sb _ _ (za _ _ ta.2.1)), Sc _ _ (Sb _ _ (za _ _ ta.2.2))⟩
    have xb : ∀ x ∈ [V.ref eb, V.ref eb2], E2At (C 26) "line" "word" v1 v2 Kc x := by
      intro x hx
      rcases List.mem_cons.mp hx with e | hx
      · exact ⟨eb, db, e, Sc _ _ (zb _ _ (tb.1 _ _ ub.2.1)), Sc _ _ (zb _ _ (tb.1 _ _ ub.2.2))⟩
      · exact ⟨eb2, db2, by simpa using hx, Sc _ _ (zb _ _ tb.2.1), Sc _ _ (zb _ _ tb.2.2)⟩
    have xc : ∀ x ∈ [V.ref ec, V.ref ec2], E2At (C 27) "what" "most" v1 v2 Kc x := by
      intro x hx
      rcases List.mem_cons.mp hx with e | hx
      · exact ⟨ec, dc, e, zc _ _ (tc.1 _ _ uc.2.1), zc _ _ (tc.1 _ _ uc.2.2)⟩
      · exact ⟨ec2, dc2, by simpa using hx, zc _ _ tc.2.1, zc _ _ tc.2.2⟩
    have ya2 := Sc _ _ (Sb _ _ ya)
    have yb2 := Sc _ _ yb
    have S0 : Same H Kc := (((ua.1.trans ta.1).trans za).trans Sb).trans Sc
    dsimp only [gName, tSeq, tAsg]
    refine comp_two (c := C 25) (f := "part") (g := "wish") (T.exk 25 (by decide)) T.e25.no T.e25.no2 (by decide +kernel) xa ya2 (by simp) rfl (fun _ => rfl) (fun _ => rfl) fun r1 rows1 R1 p1 q1 c1 w1 => ?_
    refine comp_two (c := C 26) (f := "line") (g := "word") (T.exk 26 (by decide)) T.e26.no T.e26.no2 (by decide +kernel) (fun x hx => (xb x hx).keep p1) (p1 _ _ yb2) (by simp) rfl (fun _ => rfl) (fun _ => rfl) fun r2 rows2 R2 p2 q2 c2 w2 => ?_
    refine ⟨_, _, _, _, rfl, rfl, p2 _ _ q1, q2, sz (by rw [c1, c2]; simp), fun r3 R3 n3 p3 q3 => ?_⟩
    have p1' := (p1.trans p2).trans p3
    refine ⟨_, rfl, ?_⟩
    refine comp_two (c := C 27) (f := "what") (g := "most") (T.exk 27 (by decide)) T.e27.no T.e27.no2 (by decide +kernel) (fun x hx => (xc x hx).keep p1') (p1' _ _ yc) (by simp) rfl (fun _ => rfl) (fun _ => rfl) fun r4 rows3 R4 p4 q4 c3 w3 => ?_
    refine ⟨_, _, _, _, rfl, rfl, p4 _ _ q3, q4, sz (by rw [List.length_append, c1, c2, c3]; simp), fun r5 R5 n5 p5 q5 => ?_⟩
    have P5 := (p1'.trans p4).trans p5
    have t1 : ∀ {x}, E2At (C 25) "part" "wish" v1 v2 Kc x → ∃ e, x = .ref e ∧ TyE R5 e (C 25) := fun ⟨e, d, h0, h1, h2⟩ => ⟨e, h0, .inl ⟨d, _, P5 _ _ h1, P5 _ _ h2⟩⟩
    have t2 : ∀ {x}, E2At (C 26) "line" "word" v1 v2 Kc x → ∃ e, x = .ref e ∧ TyE R5 e (C 26) := fun ⟨e, d, h0, h1, h2⟩ => ⟨e, h0, .inl ⟨d, _, P5 _ _ h1, P5 _ _ h2⟩⟩
    have t3 : ∀ {x}, E2At (C 27) "what" "most" v1 v2 Kc x → ∃ e, x = .ref e ∧ TyE R5 e (C 27) := fun ⟨e, d, h0, h1, h2⟩ => ⟨e, h0, .inl ⟨d, _, P5 _ _ h1, P5 _ _ h2⟩⟩
    have k2 : ∀ {R R' : Hp} {x : V} {c : Addr}, Same R R' → (∃ e, x = .ref e ∧ TyE R e c) → ∃ e, x = .ref e ∧ TyE R' e c := fun s ⟨e, h0, h1⟩ => ⟨e, h0, h1.keep s⟩
    refine comp_alone (n := 25) (by decide) (fun x hx => t1 (xa x hx)) (P5 _ _ ya2) (by simp) rfl (fun _ => rfl) (fun _ => rfl) fun r6 R6 p6 q6 => ?_
    refine comp_alone (n := 26) (by decide) (fun x hx => k2 p6 (t2 (xb x hx))) (p6 _ _ (P5 _ _ yb2)) (by simp) rfl (fun _ => rfl) (fun _ => rfl) fun r7 R7 p7 q7 => ?_
    refine ⟨_, _, _, _, rfl, rfl, p7 _ _ q6, q7, sz (by simp), fun r8 R8 n8 p8 q8 => ?_⟩
    have P8 := (p6.trans p7).trans p8
    refine ⟨_, rfl, ?_⟩
    refine comp_alone (n := 27) (by decide) (fun x hx => k2 P8 (t3 (xc x hx))) (P8 _ _ (P5 _ _ yc)) (by simp) rfl (fun _ => rfl) (fun _ => rfl) fun r9 R9 p9 q9 => ?_
    refine ⟨_, _, _, _, rfl, rfl, p9 _ _ q8, q9, sz (by simp), fun r10 R10 n10 p10 q10 => ?_⟩
    refine fun eN HN sN gN => ⟨eN, 28, 28, rfl, by decide, .inr gN, fun R11 p11 => ⟨sz (by simp), fun r12 R12 n12 p12 q12 => ⟨_, _, _, _, rfl, rfl, p12 _ _ (p11 _ _ (sN _ _ q10)), q12, sz (by simp), fun r13 R13 n13 p13 q13 => ?_⟩⟩⟩
    have W : ∀ x ∈ (rows1 ++ rows2) ++ rows3, ∃ t, x = .ref t ∧ R5 t = some (.lst [v1, v2]) := by
      intro x hx
      rcases List.mem_append.mp hx with hx | hx
      · rcases List.mem_append.mp hx with hx | hx
        · obtain ⟨t, e, g⟩ := w1 x hx
          exact ⟨t, e, p5 _ _ (p4 _ _ (p3 _ _ (p2 _ _ g)))⟩
        · obtain ⟨t, e, g⟩ := w2 x hx
          exact ⟨t, e, p5 _ _ (p4 _ _ (p3 _ _ g))⟩
      · obtain ⟨t, e, g⟩ := w3 x hx
        exact ⟨t, e, p5 _ _ g⟩
    have P13 : Same R5 R13 := (((((P8.trans p9).trans p10).trans sN).trans p11).trans p12).trans p13
    have SH : Same H R13 := (S0.trans P5).trans P13
    have b1 := a1.keep SH
    have b2 := a2.keep SH
    have six := six_ok m1 m2
    have len6 : ((rows1 ++ rows2) ++ rows3).length = 6 := by simp [c1, c2, c3]
    have D6 : Da K R13 (.ref r5) (.list (List.replicate 6 (.list [d1, d2]))) := by
      have z := daAll_rep b1 b2 _ fun x hx => by
        obtain ⟨t, e, g⟩ := W x hx
        exact ⟨t, e, P13 _ _ g⟩
      rw [len6] at z
      exact .lst (P13 _ _ q5) z
    refine ⟨_, rfl, _, _, rfl, D6, six.1, six.2.1, six.2.2, ?_⟩
    refine ⟨_, rfl, _, rfl, sz (by simp), fun t R14 n14 p14 q14 => ⟨sz (by simp), fun u R15 n15 p15 q15 => ⟨_, _, _, rfl, rfl, q15, by decide, by decide, sz (by simp), fun r16 R16 n16 p16 q16 => ?_⟩⟩⟩
    have E6 : Da K R16 (.ref r16) (.list (List.replicate 6 (.list [d1, d2]))) :=
      .lst q16 (daAll_rep (b1.keep ((p14.trans p15).trans p16)) (b2.keep ((p14.trans p15).trans p16)) _ fun x hx => ⟨t, by simpa using hx, p16 _ _ (p15 _ _ q14)⟩)
    refine ⟨_, _, rfl, E6, six.1, six.2.1, six.2.2, rfl, _, rfl, ?_⟩
    rw [decide_eq_true rfl, if_pos rfl]
    refine ⟨_, rfl, sz (by simp), fun u2 R17 n17 p17 q17 => ⟨_, _, _, rfl, rfl, q17, by decide, by decide, sz (by simp), fun r18 R18 n18 p18 q18 => ?_⟩⟩
    have g13 : R18 r13 = some (.lst [.bl true, .bl true, .bl true, .bl true, .bl true, .bl true, .bl true]) := p18 _ _ (p17 _ _ (p16 _ _ (p15 _ _ (p14 _ _ q13))))
    have g18 : R18 r18 = some (.lst [.bl true, .bl true, .bl true, .bl true, .bl true, .bl true, .bl true]) := q18
    have ds : DpAll K R18 [.bl true, .bl true, .bl true, .bl true, .bl true, .bl true, .bl true] [.bool true, .bool true, .bool true, .bool true, .bool true, .bool true, .bool true] :=
      .cons (.bl _) (.cons (.bl _) (.cons (.bl _) (.cons (.bl _) (.cons (.bl _) (.cons (.bl _) (.cons (.bl _) .nil))))))
    exact ⟨_, _, .lst (SqL.of g13) ds, .lst (SqL.of g18) ds, rfl, rfl, k R18 (((((SH.trans p14).trans p15).trans p16).trans p17).trans p18)⟩
end
end K00
end
section
set_option maxRecDepth 100000
set_option maxHeartbeats 4000000
namespace K00
open PySem PySem.Spec PyProof.Rows L2 Lw
abbrev sLaw : Stmt := top 40
abbrev nLaw : List Str := ["_law_script", "_law_pen_here", "_law_lap", "_law_one_so", "_law_two_so", "_law_rows_so", "_law_k", "_law_one", "_law_first", "_law_two", "_law_second"]
section
variable {P : Program} {w : World} {K : PySem.W.Frag} {mg : Str → Option Value} {base : Heap} {C fI : Nat → Addr} {fd : Nat → FuncData} {SE : Addr}
theorem nF {c : Bool} {A B : Prop} (e : c = true) (h : B) : if (!c) = true then A else B := by
  rw [e]
  exact iteF h
theorem scLaw : FnScope nLaw ["_law_script"] (defScope sLaw) := ⟨rfl, rfl, rfl, by decide +kernel, rfl, by decide +kernel, by decide +kernel⟩
def spLaw (K : PySem.W.Frag) : Sp := fun vs H Q _ => ∃ (a : Addr) (ns : List Int), vs = [.ref a] ∧ SqL K H a (ns.map V.int) ∧ ns.length ≤ 63 ∧ ∀ H', Q (.bl true) H'
/-- a def that is called by its name -/
structure Cal (P : Program) (w : World) (K : PySem.W.Frag) (mg : Str → Option Value) (base : Heap) (nm : Str) (k : Nat) (ps : List Str) (sp : Sp) (f : Addr) (fd : FuncData) : Prop where
  ok : FnG P w K mg base CX0 k f fd ps sp
  gl : mg nm = some (.ref f)
  kp : PySem.W.keepIn K (.ref f) = true
  bi : Binds K fd ps []
variable {f1 f2 f3 f4 f5 f6 : Addr} {g1 g2 g3 g4 g5 g6 : FuncData}
theorem ok_law {f : Addr} {gd : FuncData} (F : Fun K "law" "law" sLaw f gd) (Z : Kits K mg C SE) (Y : More K mg C) (hS : ∃ m, base.Ns sysModules m) (kVE : PySem.W.kitOne K (.type "ValueError") (.ref SE) = some false)
    (c1 : Cal P w K mg base "_law_pen" 1 ["_law_script"] (spPen K) f1 g1) (c2 : Cal P w K mg base "_law_some" 3 ["_law_pen_here"] (spSome K) f2 g2) (c3 : Cal P w K mg base "_law_parts" 3 ["_law_one_so", "_law_two_so"] (spParts C) f3 g3)
    (c4 : Cal P w K mg base "_law_names" 3 ["_law_one_so", "_law_two_so"] (spNames C) f4 g4) (c5 : Cal P w K mg base "_law_is_alone" 1 ["_law_made", "_law_kind"] (spAlone C) f5 g5) (c6 : Cal P w K mg base "_law_two_right" 3 ["_law_one_so", "_law_two_so"] (spTwo K) f6 g6) :
    FnG P w K mg base CX0 4 f gd ["_law_script"] (spLaw K) := by
  refine okG F scLaw (fun vs H Q E h => ?_) (fun cdv A outer s H vs Q E hG hr h => ?_)
  · obtain ⟨a, ns, rfl, _⟩ := h
    rfl
  · obtain ⟨a, ns, rfl, hS0, hl, k⟩ := h
    have hr1 : Room 1 _ := hr.mono (by decide)
    refine ⟨_, pss_cons (ps_set (i := 1) scLaw.nd rfl (Or.inl rfl) (pe_callG c1.ok hG hr1 rfl c1.gl c1.kp c1.bi .nil pass0 (pa_cons (pv 0) pa_nil)))
      (pss_cons (ps_for PassesOwn.never rfl (pi_range1 rfl Z.range (pa_cons pe_int pa_nil)) (pg_name (i := 2) scLaw.nd rfl (Or.inl rfl))
        (pss_cons (ps_par (i := 3) (j := 4) rfl scLaw.nd rfl rfl (by decide) rfl rfl (pa_cons (pe_callG c2.ok hG hr rfl c2.gl c2.kp c2.bi .nil pass0 (pa_cons (pv 1) pa_nil)) (pa_cons (pe_callG c2.ok hG hr rfl c2.gl c2.kp c2.bi .nil pass0 (pa_cons (pv 1) pa_nil)) pa_nil)) (by rfl))
        (pss_cons (ps_set (i := 5) scLaw.nd rfl (Or.inl rfl) (pe_op op_catS (pe_callG c3.ok hG hr rfl c3.gl c3.kp c3.bi .nil pass0 (pa_cons (pv 3) (pa_cons (pv 4) pa_nil))) (pe_callG c4.ok hG hr rfl c4.gl c4.kp c4.bi .nil pass0 (pa_cons (pv 3) (pa_cons (pv 4) pa_nil)))))
        (pss_cons (ps_for PassesOwn.never rfl (pi_range1 rfl Z.range (pa_cons (pe_callB call_len_seq (by rfl) Z.len PySem.boot_len (pa_cons (pv 5) pa_nil)) pa_nil)) (pg_name (i := 6) scLaw.nd rfl (Or.inl rfl))
          (pss_cons (ps_asg (pe_ix ix_list (pv 5) (pv 6) (fun _ _ => rfl)) (pg_tup rfl (pgs_cons (pg_name (i := 7) scLaw.nd rfl (Or.inl rfl)) (pgs_cons (pg_name (i := 8) scLaw.nd rfl (Or.inl rfl)) (pgs_cons (pg_name (i := 9) scLaw.nd rfl (Or.inl rfl)) (pgs_cons (pg_name (i := 10) scLaw.nd rfl (Or.inl rfl)) pgs_nil))))))
          (pss_cons (ps_if (PW.pt (pw_or (pt_cmpR op_ne (pe_callB (call_repr hG hr.units hS) (by rfl) Y.repr (by decide +kernel) (pa_cons (pv 8) pa_nil)) (pe_callB (call_repr hG hr.units hS) (by rfl) Y.repr (by decide +kernel) (pa_cons (pv 3) pa_nil)) (nomark _))
              (pw_or1 (pt_cmpR op_ne (pe_callB (call_repr hG hr.units hS) (by rfl) Y.repr (by decide +kernel) (pa_cons (pv 10) pa_nil)) (pe_callB (call_repr hG hr.units hS) (by rfl) Y.repr (by decide +kernel) (pa_cons (pv 4) pa_nil)) (nomark _))))) (pss_one (ps_ret pe_bl)) pss_nil)
          (pss_one (ps_if (PW.pt (pw_or (pt_not (pt_val (pe_callG c5.ok hG hr1 rfl c5.gl c5.kp c5.bi .nil pass0 (pa_cons (pv 7) (pa_cons (pv 6) pa_nil))))) (pw_or1 (pt_not (pt_val (pe_callG c5.ok hG hr1 rfl c5.gl c5.kp c5.bi .nil pass0 (pa_cons (pv 9) (pa_cons (pv 6) pa_nil)))))))) (pss_one (ps_ret pe_bl)) pss_nil)))))
        (pss_one (ps_if (pt_not (pt_val (pe_callG c6.ok hG hr rfl c6.gl c6.kp c6.bi .nil pass0 (pa_cons (pv 3) (pa_cons (pv 4) pa_nil))))) (pss_one (ps_ret pe_bl)) pss_nil))))))
      (pss_one (ps_ret (pe_not (pe_callB call_vi (by rfl) Z.isi (by decide +kernel) (pa_cons (pe_callTy call_VE (by rfl) Z.ve boot_ValueError (pa_cons pe_str pa_nil)) (pa_cons (pe_glob (v := .ref SE) rfl Z.gS rfl) pa_nil))))))), ?_⟩
    rw [show L2.start nLaw [.ref a] = [some (.ref a), none, none, none, none, none, none, none, none, none, none] from rfl]
    refine ⟨_, rfl, a, ns, rfl, hS0, hl, fun p c H0 s0 D0 => ?_⟩
    dsimp only [gName, List.set]
    refine ⟨4, rfl, by decide, by decide, for_range (lo := 0) (n := 4) (fun t σ H' => ∃ (i r : Int) (x2 x3 x4 x5 x6 x7 x8 x9 x10 : Option V), σ = [some (.ref a), some (.ref p), x2, x3, x4, x5, x6, x7, x8, x9, x10] ∧ PenAt H' p c ns i r ∧ i ≤ 2 * (t : Int))
      ⟨0, 0, _, _, _, _, _, _, _, _, _, rfl, D0, by decide⟩ ?_ ?_⟩
    · rintro t σ H1 ht ⟨i, r, x2, x3, x4, x5, x6, x7, x8, x9, x10, rfl, D1, hi⟩
      refine ⟨_, rfl, p, c, ns, i, r, rfl, D1, (by omega), fun v1 d1 i1 r1 H2 m1 a1 i1a i1b D2 B1 => ?_⟩
      refine ⟨_, rfl, p, c, ns, i1, r1, rfl, D2, (by omega), fun v2 d2 i2 r2 H3 m2 a2 i2a i2b D3 B2 => ⟨_, _, rfl, ?_⟩⟩
      dsimp only [gName, List.set]
      have b1 : Da K H3 v1 d1 := (a1.keep (cut_but B2)).keep cut_same
      have b2 : Da K H3 v2 d2 := a2.keep cut_same
      refine ⟨_, rfl, _, rfl, v1, v2, rfl, fun q1 rows1 H4 s4 g4 e4 A4 => ?_⟩
      refine ⟨_, rfl, _, rfl, v1, v2, rfl, fun q2 rows2 H5 s5 g5 e5 A5 => ⟨_, _, _, _, rfl, rfl, s5 _ _ g4, g5, sz (by rw [e4, e5]; decide), fun q3 H6 n6 s6 g6 => ?_⟩⟩
      dsimp only [gName, List.set]
      have A6 : Ats (fun k v => RowAt (C k) v1 v2 H6 v) 0 (rows1 ++ rows2) := (A4.imp fun k v h => (h.keep s5).keep s6).app (by
        rw [e4]
        exact A5.imp fun k v h => h.keep s6)
      have S6 : Same H3 H6 := (s4.trans s5).trans s6
      have l6 : (rows1 ++ rows2).length = 25 := by rw [List.length_append, e4, e5]
      refine ⟨_, rfl, _, _, rfl, Or.inl (SqL.of g6), _, rfl, by omega, by omega, for_range (lo := 0) (n := (rows1 ++ rows2).length) (fun k σ H' => ∃ (x6 x7 x8 x9 x10 : Option V), σ = [some (.ref a), some (.ref p), some (.int (0 + (t : Int))), some v1, some v2, some (.ref q3), x6, x7, x8, x9, x10] ∧ Same H6 H') ⟨_, _, _, _, _, rfl, Same.refl _⟩ ?_ ?_⟩
      · rintro j σ H7 hj ⟨x6, x7, x8, x9, x10, rfl, q⟩
        have hx := List.getElem?_eq_getElem hj
        obtain ⟨tt, e1, e2, et, h1, h2, h3⟩ := (A6.get hx).keep q
        rw [Nat.zero_add] at h2 h3
        have hat : atI (rows1 ++ rows2) (0 + (j : Int)) = some (.ref tt) := by
          rw [Int.zero_add]
          exact atI_nat (hx.trans (congrArg some et))
        have b1' := b1.keep (S6.trans q)
        have b2' := b2.keep (S6.trans q)
        refine ⟨_, rfl, _, rfl, _, _, _, _, rfl, rfl, SqL.of (q _ _ g6), hat, ?_⟩
        refine ⟨_, _, rfl, SqT.of h1, rfl, _, _, rfl, _, _, rfl, _, _, rfl, _, _, rfl, rfl, ?_⟩
        dsimp only [gName, List.set, cxOf]
        have z1 := sz (Nat.le_trans m1.sz (by decide))
        have z2 := sz (Nat.le_trans m2.sz (by decide))
        refine ⟨_, rfl, v1, d1, rfl, b1', m1.sh, Nat.le_trans m1.dp (by decide), z1, _, rfl, v1, d1, rfl, b1', m1.sh, Nat.le_trans m1.dp (by decide), z1, rfl, _, rfl, ?_⟩
        refine nF (decide_eq_true rfl) ?_
        refine ⟨_, rfl, v2, d2, rfl, b2', m2.sh, Nat.le_trans m2.dp (by decide), z2, _, rfl, v2, d2, rfl, b2', m2.sh, Nat.le_trans m2.dp (by decide), z2, rfl, _, rfl, ?_⟩
        refine nF (decide_eq_true rfl) ?_
        refine ⟨_, rfl, _, rfl, e1, j, j, by simp, by omega, h2, fun H8 s8 => ⟨_, rfl, ?_⟩⟩
        refine nF (decide_eq_true rfl) ?_
        refine ⟨_, rfl, _, rfl, e2, j, j, by simp, by omega, h3.keep s8, fun H9 s9 => ⟨_, rfl, ?_⟩⟩
        refine nF (decide_eq_true rfl) ?_
        exact ⟨_, _, _, _, _, rfl, (q.trans s8).trans s9⟩
      · rintro σ H7 ⟨x6, x7, x8, x9, x10, rfl, q⟩
        refine ⟨_, rfl, _, rfl, v1, v2, d1, d2, rfl, m1, m2, b1.keep (S6.trans q), b2.keep (S6.trans q), fun H8 s8 => ⟨_, rfl, ?_⟩⟩
        refine nF rfl ?_
        exact ⟨i2, r2, _, _, _, _, _, _, _, _, _, rfl, D3.keep ((S6.trans q).trans s8), by omega⟩
    · rintro σ H1 ⟨i, r, x2, x3, x4, x5, x6, x7, x8, x9, x10, rfl, D1, hi⟩
      refine ⟨by decide, fun e H2 s2 g2 => ⟨e, _, _, _, rfl, g2, ClsV.own SE, kVE, _, rfl, k H2⟩⟩
end
end K00
end
section
set_option maxRecDepth 100000
set_option maxHeartbeats 4000000
namespace K00
open PySem PySem.Spec PyProof.Rows L2 Lw
section
variable {P : Program} {w : World} {K : PySem.W.Frag} {mg : Str → Option Value} {base : Heap} {f C : Addr} {gd : FuncData}
abbrev sI0 : Stmt := inClass (top 2) 0
theorem okI0 (F : Fun K "__init__" "BadWish.__init__" sI0 f gd) (T : OexC K C) (no : PySem.W.findIn K (.ref C) "part" = some none) : FnOk P w K mg base CX0 1 f gd ["self", "part"] (spI1 C "part") := by
  have sc : FnScope ["self", "part"] ["self", "part"] (defScope sI0) := ⟨rfl, rfl, rfl, by decide +kernel, rfl, by decide +kernel, by decide +kernel⟩
  refine F.ok sc (fun vs H Q E h => ?_) (fun cdv A outer s H vs Q E hr h => ?_)
  · obtain ⟨a, v, rfl, _⟩ := h
    rfl
  · obtain ⟨a, v, rfl, ha, k⟩ := h
    exact ⟨_, pss_one (ps_ost (pv 0) (pv 1)), _, rfl, _, rfl, a, C, rfl, T, no, .inl ⟨ha, fun d nd ne => k d nd ne⟩⟩
abbrev sI1 : Stmt := inClass (top 3) 0
theorem okI1 (F : Fun K "__init__" "BadSite.__init__" sI1 f gd) (T : OexC K C) (no : PySem.W.findIn K (.ref C) "part" = some none) : FnOk P w K mg base CX0 1 f gd ["self", "part"] (spI1 C "part") := by
  have sc : FnScope ["self", "part"] ["self", "part"] (defScope sI1) := ⟨rfl, rfl, rfl, by decide +kernel, rfl, by decide +kernel, by decide +kernel⟩
  refine F.ok sc (fun vs H Q E h => ?_) (fun cdv A outer s H vs Q E hr h => ?_)
  · obtain ⟨a, v, rfl, _⟩ := h
    rfl
  · obtain ⟨a, v, rfl, ha, k⟩ := h
    exact ⟨_, pss_one (ps_ost (pv 0) (pv 1)), _, rfl, _, rfl, a, C, rfl, T, no, .inl ⟨ha, fun d nd ne => k d nd ne⟩⟩
abbrev sI2 : Stmt := inClass (top 4) 0
theorem okI2 (F : Fun K "__init__" "BadPlan.__init__" sI2 f gd) (T : OexC K C) (no : PySem.W.findIn K (.ref C) "part" = some none) : FnOk P w K mg base CX0 1 f gd ["self", "part"] (spI1 C "part") := by
  have sc : FnScope ["self", "part"] ["self", "part"] (defScope sI2) := ⟨rfl, rfl, rfl, by decide +kernel, rfl, by decide +kernel, by decide +kernel⟩
  refine F.ok sc (fun vs H Q E h => ?_) (fun cdv A outer s H vs Q E hr h => ?_)
  · obtain ⟨a, v, rfl, _⟩ := h
    rfl
  · obtain ⟨a, v, rfl, ha, k⟩ := h
    exact ⟨_, pss_one (ps_ost (pv 0) (pv 1)), _, rfl, _, rfl, a, C, rfl, T, no, .inl ⟨ha, fun d nd ne => k d nd ne⟩⟩
abbrev sI3 : Stmt := inClass (top 5) 0
theorem okI3 (F : Fun K "__init__" "BadLimit.__init__" sI3 f gd) (T : OexC K C) (no : PySem.W.findIn K (.ref C) "part" = some none) : FnOk P w K mg base CX0 1 f gd ["self", "part"] (spI1 C "part") := by
  have sc : FnScope ["self", "part"] ["self", "part"] (defScope sI3) := ⟨rfl, rfl, rfl, by decide +kernel, rfl, by decide +kernel, by decide +kernel⟩
  refine F.ok sc (fun vs H Q E h => ?_) (fun cdv A outer s H vs Q E hr h => ?_)
  · obtain ⟨a, v, rfl, _⟩ := h
    rfl
  · obtain ⟨a, v, rfl, ha, k⟩ := h
    exact ⟨_, pss_one (ps_ost (pv 0) (pv 1)), _, rfl, _, rfl, a, C, rfl, T, no, .inl ⟨ha, fun d nd ne => k d nd ne⟩⟩
abbrev sI4 : Stmt := inClass (top 6) 0
theorem okI4 (F : Fun K "__init__" "BadPromise.__init__" sI4 f gd) (T : OexC K C) (no : PySem.W.findIn K (.ref C) "part" = some none) : FnOk P w K mg base CX0 1 f gd ["self", "part"] (spI1 C "part") := by
  have sc : FnScope ["self", "part"] ["self", "part"] (defScope sI4) := ⟨rfl, rfl, rfl, by decide +kernel, rfl, by decide +kernel, by decide +kernel⟩
  refine F.ok sc (fun vs H Q E h => ?_) (fun cdv A outer s H vs Q E hr h => ?_)
  · obtain ⟨a, v, rfl, _⟩ := h
    rfl
  · obtain ⟨a, v, rfl, ha, k⟩ := h
    exact ⟨_, pss_one (ps_ost (pv 0) (pv 1)), _, rfl, _, rfl, a, C, rfl, T, no, .inl ⟨ha, fun d nd ne => k d nd ne⟩⟩
abbrev sI5 : Stmt := inClass (top 8) 0
theorem okI5 (F : Fun K "__init__" "BadStock.__init__" sI5 f gd) (T : OexC K C) (no : PySem.W.findIn K (.ref C) "part" = some none) : FnOk P w K mg base CX0 1 f gd ["self", "part"] (spI1 C "part") := by
  have sc : FnScope ["self", "part"] ["self", "part"] (defScope sI5) := ⟨rfl, rfl, rfl, by decide +kernel, rfl, by decide +kernel, by decide +kernel⟩
  refine F.ok sc (fun vs H Q E h => ?_) (fun cdv A outer s H vs Q E hr h => ?_)
  · obtain ⟨a, v, rfl, _⟩ := h
    rfl
  · obtain ⟨a, v, rfl, ha, k⟩ := h
    exact ⟨_, pss_one (ps_ost (pv 0) (pv 1)), _, rfl, _, rfl, a, C, rfl, T, no, .inl ⟨ha, fun d nd ne => k d nd ne⟩⟩
abbrev sI6 : Stmt := inClass (top 9) 0
theorem okI6 (F : Fun K "__init__" "BadCounts.__init__" sI6 f gd) (T : OexC K C) (no : PySem.W.findIn K (.ref C) "part" = some none) : FnOk P w K mg base CX0 1 f gd ["self", "part"] (spI1 C "part") := by
  have sc : FnScope ["self", "part"] ["self", "part"] (defScope sI6) := ⟨rfl, rfl, rfl, by decide +kernel, rfl, by decide +kernel, by decide +kernel⟩
  refine F.ok sc (fun vs H Q E h => ?_) (fun cdv A outer s H vs Q E hr h => ?_)
  · obtain ⟨a, v, rfl, _⟩ := h
    rfl
  · obtain ⟨a, v, rfl, ha, k⟩ := h
    exact ⟨_, pss_one (ps_ost (pv 0) (pv 1)), _, rfl, _, rfl, a, C, rfl, T, no, .inl ⟨ha, fun d nd ne => k d nd ne⟩⟩
abbrev sI7 : Stmt := inClass (top 10) 0
theorem okI7 (F : Fun K "__init__" "BadRule.__init__" sI7 f gd) (T : OexC K C) (no : PySem.W.findIn K (.ref C) "part" = some none) : FnOk P w K mg base CX0 1 f gd ["self", "part"] (spI1 C "part") := by
  have sc : FnScope ["self", "part"] ["self", "part"] (defScope sI7) := ⟨rfl, rfl, rfl, by decide +kernel, rfl, by decide +kernel, by decide +kernel⟩
  refine F.ok sc (fun vs H Q E h => ?_) (fun cdv A outer s H vs Q E hr h => ?_)
  · obtain ⟨a, v, rfl, _⟩ := h
    rfl
  · obtain ⟨a, v, rfl, ha, k⟩ := h
    exact ⟨_, pss_one (ps_ost (pv 0) (pv 1)), _, rfl, _, rfl, a, C, rfl, T, no, .inl ⟨ha, fun d nd ne => k d nd ne⟩⟩
abbrev sI8 : Stmt := inClass (top 11) 0
theorem okI8 (F : Fun K "__init__" "BadStay.__init__" sI8 f gd) (T : OexC K C) (no : PySem.W.findIn K (.ref C) "part" = some none) : FnOk P w K mg base CX0 1 f gd ["self", "part"] (spI1 C "part") := by
  have sc : FnScope ["self", "part"] ["self", "part"] (defScope sI8) := ⟨rfl, rfl, rfl, by decide +kernel, rfl, by decide +kernel, by decide +kernel⟩
  refine F.ok sc (fun vs H Q E h => ?_) (fun cdv A outer s H vs Q E hr h => ?_)
  · obtain ⟨a, v, rfl, _⟩ := h
    rfl
  · obtain ⟨a, v, rfl, ha, k⟩ := h
    exact ⟨_, pss_one (ps_ost (pv 0) (pv 1)), _, rfl, _, rfl, a, C, rfl, T, no, .inl ⟨ha, fun d nd ne => k d nd ne⟩⟩
abbrev sI9 : Stmt := inClass (top 12) 0
theorem okI9 (F : Fun K "__init__" "BadBook.__init__" sI9 f gd) (T : OexC K C) (no : PySem.W.findIn K (.ref C) "part" = some none) : FnOk P w K mg base CX0 1 f gd ["self", "part"] (spI1 C "part") := by
  have sc : FnScope ["self", "part"] ["self", "part"] (defScope sI9) := ⟨rfl, rfl, rfl, by decide +kernel, rfl, by decide +kernel, by decide +kernel⟩
  refine F.ok sc (fun vs H Q E h => ?_) (fun cdv A outer s H vs Q E hr h => ?_)
  · obtain ⟨a, v, rfl, _⟩ := h
    rfl
  · obtain ⟨a, v, rfl, ha, k⟩ := h
    exact ⟨_, pss_one (ps_ost (pv 0) (pv 1)), _, rfl, _, rfl, a, C, rfl, T, no, .inl ⟨ha, fun d nd ne => k d nd ne⟩⟩
abbrev sI10 : Stmt := inClass (top 13) 0
theorem okI10 (F : Fun K "__init__" "BadCalendar.__init__" sI10 f gd) (T : OexC K C) (no : PySem.W.findIn K (.ref C) "part" = some none) : FnOk P w K mg base CX0 1 f gd ["self", "part"] (spI1 C "part") := by
  have sc : FnScope ["self", "part"] ["self", "part"] (defScope sI10) := ⟨rfl, rfl, rfl, by decide +kernel, rfl, by decide +kernel, by decide +kernel⟩
  refine F.ok sc (fun vs H Q E h => ?_) (fun cdv A outer s H vs Q E hr h => ?_)
  · obtain ⟨a, v, rfl, _⟩ := h
    rfl
  · obtain ⟨a, v, rfl, ha, k⟩ := h
    exact ⟨_, pss_one (ps_ost (pv 0) (pv 1)), _, rfl, _, rfl, a, C, rfl, T, no, .inl ⟨ha, fun d nd ne => k d nd ne⟩⟩
abbrev sI11 : Stmt := inClass (top 14) 0
theorem okI11 (F : Fun K "__init__" "BadLines.__init__" sI11 f gd) (T : OexC K C) (no : PySem.W.findIn K (.ref C) "part" = some none) : FnOk P w K mg base CX0 1 f gd ["self", "part"] (spI1 C "part") := by
  have sc : FnScope ["self", "part"] ["self", "part"] (defScope sI11) := ⟨rfl, rfl, rfl, by decide +kernel, rfl, by decide +kernel, by decide +kernel⟩
  refine F.ok sc (fun vs H Q E h => ?_) (fun cdv A outer s H vs Q E hr h => ?_)
  · obtain ⟨a, v, rfl, _⟩ := h
    rfl
  · obtain ⟨a, v, rfl, ha, k⟩ := h
    exact ⟨_, pss_one (ps_ost (pv 0) (pv 1)), _, rfl, _, rfl, a, C, rfl, T, no, .inl ⟨ha, fun d nd ne => k d nd ne⟩⟩
abbrev sI12 : Stmt := inClass (top 15) 0
theorem okI12 (F : Fun K "__init__" "BadHouse.__init__" sI12 f gd) (T : OexC K C) (no : PySem.W.findIn K (.ref C) "part" = some none) : FnOk P w K mg base CX0 1 f gd ["self", "part"] (spI1 C "part") := by
  have sc : FnScope ["self", "part"] ["self", "part"] (defScope sI12) := ⟨rfl, rfl, rfl, by decide +kernel, rfl, by decide +kernel, by decide +kernel⟩
  refine F.ok sc (fun vs H Q E h => ?_) (fun cdv A outer s H vs Q E hr h => ?_)
  · obtain ⟨a, v, rfl, _⟩ := h
    rfl
  · obtain ⟨a, v, rfl, ha, k⟩ := h
    exact ⟨_, pss_one (ps_ost (pv 0) (pv 1)), _, rfl, _, rfl, a, C, rfl, T, no, .inl ⟨ha, fun d nd ne => k d nd ne⟩⟩
abbrev sI13 : Stmt := inClass (top 27) 0
theorem okI13 (F : Fun K "__init__" "Unbounded.__init__" sI13 f gd) (T : OexC K C) (no : PySem.W.findIn K (.ref C) "part" = some none) : FnOk P w K mg base CX0 1 f gd ["self", "part"] (spI1 C "part") := by
  have sc : FnScope ["self", "part"] ["self", "part"] (defScope sI13) := ⟨rfl, rfl, rfl, by decide +kernel, rfl, by decide +kernel, by decide +kernel⟩
  refine F.ok sc (fun vs H Q E h => ?_) (fun cdv A outer s H vs Q E hr h => ?_)
  · obtain ⟨a, v, rfl, _⟩ := h
    rfl
  · obtain ⟨a, v, rfl, ha, k⟩ := h
    exact ⟨_, pss_one (ps_ost (pv 0) (pv 1)), _, rfl, _, rfl, a, C, rfl, T, no, .inl ⟨ha, fun d nd ne => k d nd ne⟩⟩
abbrev sI14 : Stmt := inClass (top 16) 0
theorem okI14 (F : Fun K "__init__" "BadNumber.__init__" sI14 f gd) (T : OexC K C) (no : PySem.W.findIn K (.ref C) "value" = some none) : FnOk P w K mg base CX0 1 f gd ["self", "value"] (spI1 C "value") := by
  have sc : FnScope ["self", "value"] ["self", "value"] (defScope sI14) := ⟨rfl, rfl, rfl, by decide +kernel, rfl, by decide +kernel, by decide +kernel⟩
  refine F.ok sc (fun vs H Q E h => ?_) (fun cdv A outer s H vs Q E hr h => ?_)
  · obtain ⟨a, v, rfl, _⟩ := h
    rfl
  · obtain ⟨a, v, rfl, ha, k⟩ := h
    exact ⟨_, pss_one (ps_ost (pv 0) (pv 1)), _, rfl, _, rfl, a, C, rfl, T, no, .inl ⟨ha, fun d nd ne => k d nd ne⟩⟩
abbrev sI15 : Stmt := inClass (top 17) 0
theorem okI15 (F : Fun K "__init__" "BadName.__init__" sI15 f gd) (T : OexC K C) (no : PySem.W.findIn K (.ref C) "value" = some none) : FnOk P w K mg base CX0 1 f gd ["self", "value"] (spI1 C "value") := by
  have sc : FnScope ["self", "value"] ["self", "value"] (defScope sI15) := ⟨rfl, rfl, rfl, by decide +kernel, rfl, by decide +kernel, by decide +kernel⟩
  refine F.ok sc (fun vs H Q E h => ?_) (fun cdv A outer s H vs Q E hr h => ?_)
  · obtain ⟨a, v, rfl, _⟩ := h
    rfl
  · obtain ⟨a, v, rfl, ha, k⟩ := h
    exact ⟨_, pss_one (ps_ost (pv 0) (pv 1)), _, rfl, _, rfl, a, C, rfl, T, no, .inl ⟨ha, fun d nd ne => k d nd ne⟩⟩
abbrev sI16 : Stmt := inClass (top 20) 0
theorem okI16 (F : Fun K "__init__" "NoWish.__init__" sI16 f gd) (T : OexC K C) (no : PySem.W.findIn K (.ref C) "name" = some none) : FnOk P w K mg base CX0 1 f gd ["self", "name"] (spI1 C "name") := by
  have sc : FnScope ["self", "name"] ["self", "name"] (defScope sI16) := ⟨rfl, rfl, rfl, by decide +kernel, rfl, by decide +kernel, by decide +kernel⟩
  refine F.ok sc (fun vs H Q E h => ?_) (fun cdv A outer s H vs Q E hr h => ?_)
  · obtain ⟨a, v, rfl, _⟩ := h
    rfl
  · obtain ⟨a, v, rfl, ha, k⟩ := h
    exact ⟨_, pss_one (ps_ost (pv 0) (pv 1)), _, rfl, _, rfl, a, C, rfl, T, no, .inl ⟨ha, fun d nd ne => k d nd ne⟩⟩
abbrev sI17 : Stmt := inClass (top 21) 0
theorem okI17 (F : Fun K "__init__" "NoSite.__init__" sI17 f gd) (T : OexC K C) (no : PySem.W.findIn K (.ref C) "name" = some none) : FnOk P w K mg base CX0 1 f gd ["self", "name"] (spI1 C "name") := by
  have sc : FnScope ["self", "name"] ["self", "name"] (defScope sI17) := ⟨rfl, rfl, rfl, by decide +kernel, rfl, by decide +kernel, by decide +kernel⟩
  refine F.ok sc (fun vs H Q E h => ?_) (fun cdv A outer s H vs Q E hr h => ?_)
  · obtain ⟨a, v, rfl, _⟩ := h
    rfl
  · obtain ⟨a, v, rfl, ha, k⟩ := h
    exact ⟨_, pss_one (ps_ost (pv 0) (pv 1)), _, rfl, _, rfl, a, C, rfl, T, no, .inl ⟨ha, fun d nd ne => k d nd ne⟩⟩
abbrev sI18 : Stmt := inClass (top 22) 0
theorem okI18 (F : Fun K "__init__" "NoGuest.__init__" sI18 f gd) (T : OexC K C) (no : PySem.W.findIn K (.ref C) "name" = some none) : FnOk P w K mg base CX0 1 f gd ["self", "name"] (spI1 C "name") := by
  have sc : FnScope ["self", "name"] ["self", "name"] (defScope sI18) := ⟨rfl, rfl, rfl, by decide +kernel, rfl, by decide +kernel, by decide +kernel⟩
  refine F.ok sc (fun vs H Q E h => ?_) (fun cdv A outer s H vs Q E hr h => ?_)
  · obtain ⟨a, v, rfl, _⟩ := h
    rfl
  · obtain ⟨a, v, rfl, ha, k⟩ := h
    exact ⟨_, pss_one (ps_ost (pv 0) (pv 1)), _, rfl, _, rfl, a, C, rfl, T, no, .inl ⟨ha, fun d nd ne => k d nd ne⟩⟩
abbrev sI19 : Stmt := inClass (top 23) 0
theorem okI19 (F : Fun K "__init__" "NoHall.__init__" sI19 f gd) (T : OexC K C) (no : PySem.W.findIn K (.ref C) "name" = some none) : FnOk P w K mg base CX0 1 f gd ["self", "name"] (spI1 C "name") := by
  have sc : FnScope ["self", "name"] ["self", "name"] (defScope sI19) := ⟨rfl, rfl, rfl, by decide +kernel, rfl, by decide +kernel, by decide +kernel⟩
  refine F.ok sc (fun vs H Q E h => ?_) (fun cdv A outer s H vs Q E hr h => ?_)
  · obtain ⟨a, v, rfl, _⟩ := h
    rfl
  · obtain ⟨a, v, rfl, ha, k⟩ := h
    exact ⟨_, pss_one (ps_ost (pv 0) (pv 1)), _, rfl, _, rfl, a, C, rfl, T, no, .inl ⟨ha, fun d nd ne => k d nd ne⟩⟩
abbrev sI20 : Stmt := inClass (top 24) 0
theorem okI20 (F : Fun K "__init__" "NoGate.__init__" sI20 f gd) (T : OexC K C) (no : PySem.W.findIn K (.ref C) "name" = some none) : FnOk P w K mg base CX0 1 f gd ["self", "name"] (spI1 C "name") := by
  have sc : FnScope ["self", "name"] ["self", "name"] (defScope sI20) := ⟨rfl, rfl, rfl, by decide +kernel, rfl, by decide +kernel, by decide +kernel⟩
  refine F.ok sc (fun vs H Q E h => ?_) (fun cdv A outer s H vs Q E hr h => ?_)
  · obtain ⟨a, v, rfl, _⟩ := h
    rfl
  · obtain ⟨a, v, rfl, ha, k⟩ := h
    exact ⟨_, pss_one (ps_ost (pv 0) (pv 1)), _, rfl, _, rfl, a, C, rfl, T, no, .inl ⟨ha, fun d nd ne => k d nd ne⟩⟩
abbrev sI21 : Stmt := inClass (top 7) 0
theorem okI21 (F : Fun K "__init__" "BadRow.__init__" sI21 f gd) (T : OexC K C) (no : PySem.W.findIn K (.ref C) "at" = some none) : FnOk P w K mg base CX0 1 f gd ["self", "at"] (spI1 C "at") := by
  have sc : FnScope ["self", "at"] ["self", "at"] (defScope sI21) := ⟨rfl, rfl, rfl, by decide +kernel, rfl, by decide +kernel, by decide +kernel⟩
  refine F.ok sc (fun vs H Q E h => ?_) (fun cdv A outer s H vs Q E hr h => ?_)
  · obtain ⟨a, v, rfl, _⟩ := h
    rfl
  · obtain ⟨a, v, rfl, ha, k⟩ := h
    exact ⟨_, pss_one (ps_ost (pv 0) (pv 1)), _, rfl, _, rfl, a, C, rfl, T, no, .inl ⟨ha, fun d nd ne => k d nd ne⟩⟩
abbrev sI22 : Stmt := inClass (top 19) 0
theorem okI22 (F : Fun K "__init__" "BadLine.__init__" sI22 f gd) (T : OexC K C) (no : PySem.W.findIn K (.ref C) "word" = some none) : FnOk P w K mg base CX0 1 f gd ["self", "word"] (spI1 C "word") := by
  have sc : FnScope ["self", "word"] ["self", "word"] (defScope sI22) := ⟨rfl, rfl, rfl, by decide +kernel, rfl, by decide +kernel, by decide +kernel⟩
  refine F.ok sc (fun vs H Q E h => ?_) (fun cdv A outer s H vs Q E hr h => ?_)
  · obtain ⟨a, v, rfl, _⟩ := h
    rfl
  · obtain ⟨a, v, rfl, ha, k⟩ := h
    exact ⟨_, pss_one (ps_ost (pv 0) (pv 1)), _, rfl, _, rfl, a, C, rfl, T, no, .inl ⟨ha, fun d nd ne => k d nd ne⟩⟩
abbrev sI23 : Stmt := inClass (top 28) 0
theorem okI23 (F : Fun K "__init__" "Barred.__init__" sI23 f gd) (T : OexC K C) (no : PySem.W.findIn K (.ref C) "word" = some none) : FnOk P w K mg base CX0 1 f gd ["self", "word"] (spI1 C "word") := by
  have sc : FnScope ["self", "word"] ["self", "word"] (defScope sI23) := ⟨rfl, rfl, rfl, by decide +kernel, rfl, by decide +kernel, by decide +kernel⟩
  refine F.ok sc (fun vs H Q E h => ?_) (fun cdv A outer s H vs Q E hr h => ?_)
  · obtain ⟨a, v, rfl, _⟩ := h
    rfl
  · obtain ⟨a, v, rfl, ha, k⟩ := h
    exact ⟨_, pss_one (ps_ost (pv 0) (pv 1)), _, rfl, _, rfl, a, C, rfl, T, no, .inl ⟨ha, fun d nd ne => k d nd ne⟩⟩
abbrev sI24 : Stmt := inClass (top 26) 0
theorem okI24 (F : Fun K "__init__" "NoBay.__init__" sI24 f gd) (T : OexC K C) (no : PySem.W.findIn K (.ref C) "wish" = some none) : FnOk P w K mg base CX0 1 f gd ["self", "wish"] (spI1 C "wish") := by
  have sc : FnScope ["self", "wish"] ["self", "wish"] (defScope sI24) := ⟨rfl, rfl, rfl, by decide +kernel, rfl, by decide +kernel, by decide +kernel⟩
  refine F.ok sc (fun vs H Q E h => ?_) (fun cdv A outer s H vs Q E hr h => ?_)
  · obtain ⟨a, v, rfl, _⟩ := h
    rfl
  · obtain ⟨a, v, rfl, ha, k⟩ := h
    exact ⟨_, pss_one (ps_ost (pv 0) (pv 1)), _, rfl, _, rfl, a, C, rfl, T, no, .inl ⟨ha, fun d nd ne => k d nd ne⟩⟩
abbrev sI25 : Stmt := inClass (top 25) 0
theorem okI25 (F : Fun K "__init__" "Refused.__init__" sI25 f gd) (T : OexC K C) (no : PySem.W.findIn K (.ref C) "part" = some none) (no2 : PySem.W.findIn K (.ref C) "wish" = some none) : FnOk P w K mg base CX0 1 f gd ["self", "part", "wish"] (spI2 C "part" "wish") := by
  have sc : FnScope ["self", "part", "wish"] ["self", "part", "wish"] (defScope sI25) := ⟨rfl, rfl, rfl, by decide +kernel, rfl, by decide +kernel, by decide +kernel⟩
  refine F.ok sc (fun vs H Q E h => ?_) (fun cdv A outer s H vs Q E hr h => ?_)
  · obtain ⟨a, v, u, rfl, _⟩ := h
    rfl
  · obtain ⟨a, v, u, rfl, ha, k⟩ := h
    exact ⟨_, pss_cons (ps_ost (pv 0) (pv 1)) (pss_one (ps_ost (pv 0) (pv 2))), _, rfl, _, rfl, a, C, rfl, T, no, .inl ⟨ha, fun d nd ne => ⟨_, rfl, _, rfl, a, C, rfl, T, no2, .inr ⟨d, _, upd_same, by rw [upd_ne ne]; exact upd_same, by simp, k d nd ne⟩⟩⟩⟩
abbrev sI26 : Stmt := inClass (top 18) 0
theorem okI26 (F : Fun K "__init__" "BadText.__init__" sI26 f gd) (T : OexC K C) (no : PySem.W.findIn K (.ref C) "line" = some none) (no2 : PySem.W.findIn K (.ref C) "word" = some none) : FnOk P w K mg base CX0 1 f gd ["self", "line", "word"] (spI2 C "line" "word") := by
  have sc : FnScope ["self", "line", "word"] ["self", "line", "word"] (defScope sI26) := ⟨rfl, rfl, rfl, by decide +kernel, rfl, by decide +kernel, by decide +kernel⟩
  refine F.ok sc (fun vs H Q E h => ?_) (fun cdv A outer s H vs Q E hr h => ?_)
  · obtain ⟨a, v, u, rfl, _⟩ := h
    rfl
  · obtain ⟨a, v, u, rfl, ha, k⟩ := h
    exact ⟨_, pss_cons (ps_ost (pv 0) (pv 1)) (pss_one (ps_ost (pv 0) (pv 2))), _, rfl, _, rfl, a, C, rfl, T, no, .inl ⟨ha, fun d nd ne => ⟨_, rfl, _, rfl, a, C, rfl, T, no2, .inr ⟨d, _, upd_same, by rw [upd_ne ne]; exact upd_same, by simp, k d nd ne⟩⟩⟩⟩
abbrev sI27 : Stmt := inClass (top 29) 0
theorem okI27 (F : Fun K "__init__" "TooMany.__init__" sI27 f gd) (T : OexC K C) (no : PySem.W.findIn K (.ref C) "what" = some none) (no2 : PySem.W.findIn K (.ref C) "most" = some none) : FnOk P w K mg base CX0 1 f gd ["self", "what", "most"] (spI2 C "what" "most") := by
  have sc : FnScope ["self", "what", "most"] ["self", "what", "most"] (defScope sI27) := ⟨rfl, rfl, rfl, by decide +kernel, rfl, by decide +kernel, by decide +kernel⟩
  refine F.ok sc (fun vs H Q E h => ?_) (fun cdv A outer s H vs Q E hr h => ?_)
  · obtain ⟨a, v, u, rfl, _⟩ := h
    rfl
  · obtain ⟨a, v, u, rfl, ha, k⟩ := h
    exact ⟨_, pss_cons (ps_ost (pv 0) (pv 1)) (pss_one (ps_ost (pv 0) (pv 2))), _, rfl, _, rfl, a, C, rfl, T, no, .inl ⟨ha, fun d nd ne => ⟨_, rfl, _, rfl, a, C, rfl, T, no2, .inr ⟨d, _, upd_same, by rw [upd_ne ne]; exact upd_same, by simp, k d nd ne⟩⟩⟩⟩
end
end K00
end
section
set_option maxRecDepth 100000
set_option maxHeartbeats 4000000
/-! What the top has written, at the places where it stands. -/
namespace K00
open PySem PySem.Spec PyProof.Rows L2 Lw
/-- the place of class number k, and of its own __init__ -/
def cs (k : Nat) : Addr := [44, 63, 82, 101, 120, 158, 177, 196, 215, 234, 253, 272, 291, 519, 310, 329, 386, 405, 424, 443, 462, 139, 367, 538, 500, 481, 348, 557, 569].getD k 0
def fs (k : Nat) : Addr := cs k - 3
def SEa : Addr := 24
/-- the data of the def that stands there -/
def fdAt (K : PySem.W.Frag) (a : Addr) : FuncData := match K.lookup a with
  | some o => (match o.data with
    | .func g => g
    | _ => PySem.W.fnOf "" "" ⟨[], [], none, [], [], none, []⟩ [] ⟨.function, [], false, false, []⟩ .none .none .none .none none .none .none)
  | none => PySem.W.fnOf "" "" ⟨[], [], none, [], [], none, []⟩ [] ⟨.function, [], false, false, []⟩ .none .none .none .none none .none .none
theorem fun_at {K : PySem.W.Frag} {x qual : Str} {st : Stmt} {f : Addr} {oc : Value} {od an : Option Addr} {osl : Array (Option Value)} {kV doc pm cdv ct : Value}
    (l : K.lookup f = some ⟨oc, od, .func (PySem.W.fnOf x qual (defArgs st) (defBody st) (defScope st) .none kV doc pm an cdv ct), osl⟩)
    (b : (PySem.W.codeIn K cdv qual && PySem.W.keepIn K (.ref f)) = true) : Fun K x qual st f (fdAt K f) := by
  obtain ⟨c, k⟩ := Bool.and_eq_true_iff.mp b
  have e : fdAt K f = PySem.W.fnOf x qual (defArgs st) (defBody st) (defScope st) .none kV doc pm an cdv ct := by
    unfold fdAt
    rw [l]
  rw [e]
  exact fun_mk l c k
/-- a look at an own error class over ValueError -/
def clsB (K : PySem.W.Frag) (C : Addr) : Bool := match K.lookup C with
  | some ⟨.type "type", _, .cls d, sl⟩ => (match d.mro, sl.toList with
    | .ref D :: bm, [_, _, _, _, some (.builtin n), _] => D == C && (n == "ValueError.__new__" && (!d.hasDel && (d.hasDict && PySem.HandSPX.refsVE bm)))
    | _, _ => false)
  | _ => false
theorem clsB_of {K : PySem.W.Frag} {C : Addr} (q : clsB K C = true) :
    ∃ nm q N bs bm sn sub ab col dd k0 k1 k2 k3 k5, K.lookup C = some (excClassObj nm q C N bs bm true sn sub ab col dd k0 k1 k2 k3 k5 "ValueError.__new__") ∧ PySem.HandSPX.refsVE bm = true := by
  unfold clsB at q
  split at q
  · rename_i dd d sl ho
    split at q
    · rename_i D bm k0 k1 k2 k3 n k5 hm hs
      simp only [Bool.and_eq_true, beq_iff_eq, Bool.not_eq_true'] at q
      obtain ⟨rfl, rfl, hdel, hdi, hr⟩ := q
      obtain ⟨nm, bs, mro, ns, qn, hd, sn, sub, ab, col, del⟩ := d
      dsimp only at hm hdel hdi
      subst hm hdel hdi
      have hsl : sl = #[k0, k1, k2, k3, some (.builtin "ValueError.__new__"), k5] := by
        obtain ⟨l⟩ := sl
        simp only at hs
        rw [hs]
      subst hsl
      exact ⟨nm, qn, ns, bs, bm, sn, sub, ab, col, dd, k0, k1, k2, k3, k5, ho, hr⟩
    · cases q
  · cases q
def exB (K : PySem.W.Frag) (C : Addr) : Bool :=
  PySem.W.findIn K (.ref C) "__getattribute__" == some (some (.builtin "BaseException.__getattribute__")) && (PySem.W.findIn K (.ref C) "__getattr__" == some none && (PySem.W.subIn K (.ref C) (.type "BaseException") == some true && (PySem.W.hasDictIn K C &&
  (PySem.W.findIn K (.ref C) "__class__" == some (some (.builtin "object.__class__")) && (PySem.W.specialIn K (.builtin "object.__class__") "__get__" == some (some (.builtin "getset_descriptor.__get__")) && (PySem.W.takesIn K (.builtin "object.__class__") == some true && PySem.W.mroIn K C (.type "object") == some true))))))
theorem exB_of {K : PySem.W.Frag} {C : Addr} (q : exB K C = true) : ExcC K C := by
  unfold exB at q
  simp only [Bool.and_eq_true, beq_iff_eq] at q
  obtain ⟨h1, h2, h3, h4, h5, h6, h7, h8⟩ := q
  exact ⟨h1, h2, h3, h4, h5, h6, h7, h8⟩
def oxB (K : PySem.W.Frag) (C fI : Addr) : Bool :=
  clsB K C && (exB K C && (PySem.W.findIn K (.ref C) "__setattr__" == some (some (.builtin "object.__setattr__")) && (PySem.W.typeIn K (.ref C) == some (.type "type") && (PySem.W.keepIn K (.ref C) &&
  (PySem.W.findIn K (.ref C) "__init__" == some (some (.ref fI)) && PySem.W.typeIn K (.ref fI) == some (.type "function"))))))
theorem oxB_of {K : PySem.W.Frag} {C fI : Addr} (q : oxB K C fI = true) : ExK K C ∧ PySem.W.findIn K (.ref C) "__init__" = some (some (.ref fI)) ∧ PySem.W.typeIn K (.ref fI) = some (.type "function") := by
  unfold oxB at q
  simp only [Bool.and_eq_true, beq_iff_eq] at q
  obtain ⟨h1, h2, h3, h4, h5, h6, h7⟩ := q
  have e := exB_of h2
  exact ⟨⟨⟨clsB_of h1, h3, e.hs, h4, h5⟩, e⟩, h6, h7⟩
section
variable {P : Program} {w : World} {K : PySem.W.Frag} {mg : Str → Option Value} {base : Heap} {nm f g qual : Str} {st : Stmt} {C fI : Addr} {fd : FuncData}
theorem cl1_mk (q : oxB K C fI = true) (no : (PySem.W.findIn K (.ref C) f == some none) = true) (gl : mg nm = some (.ref C)) (F : Fun K "__init__" qual st fI fd)
    (ok : OexC K C → PySem.W.findIn K (.ref C) f = some none → FnOk P w K mg base CX0 1 fI fd ["self", f] (spI1 C f))
    (hb : ∀ (kV doc pm : Value) (an : Option Addr) (cdv ct x v : Value), PySem.bindArgs (PySem.W.fnOf "__init__" qual (defArgs st) (defBody st) (defScope st) .none kV doc pm an cdv ct) ⟨[x, v], []⟩ = pure ([("self", x), (f, v)] : List (Str × Value)))
    (hk : ∀ (kV doc pm : Value) (an : Option Addr) (cdv ct x v : Value), PySem.bindArgs (PySem.W.fnOf "__init__" qual (defArgs st) (defBody st) (defScope st) .none kV doc pm an cdv ct) ⟨[x], [(f, v)]⟩ = pure ([("self", x), (f, v)] : List (Str × Value))) :
    Cl1 P w K mg base nm f C fI fd := by
  obtain ⟨e, h6, h7⟩ := oxB_of q
  have no' := beq_iff_eq.mp no
  have fn := ok e.toOexC no'
  obtain ⟨oc, od, kV, doc, pm, an, cdv, ct, osl, rfl, lk, hcd⟩ := F.ex
  exact { toExK := e, gl := gl, ini := h6, typ := h7, fn := fn, bp := fun s x v => .of_eq (hb _ _ _ _ _ _ x v), bk := fun s x v => .of_eq (hk _ _ _ _ _ _ x v), no := no' }
theorem cl2_mk (q : oxB K C fI = true) (no : (PySem.W.findIn K (.ref C) f == some none) = true) (no2 : (PySem.W.findIn K (.ref C) g == some none) = true) (gl : mg nm = some (.ref C)) (F : Fun K "__init__" qual st fI fd)
    (ok : OexC K C → PySem.W.findIn K (.ref C) f = some none → PySem.W.findIn K (.ref C) g = some none → FnOk P w K mg base CX0 1 fI fd ["self", f, g] (spI2 C f g))
    (hb : ∀ (kV doc pm : Value) (an : Option Addr) (cdv ct x v u : Value), PySem.bindArgs (PySem.W.fnOf "__init__" qual (defArgs st) (defBody st) (defScope st) .none kV doc pm an cdv ct) ⟨[x, v, u], []⟩ = pure ([("self", x), (f, v), (g, u)] : List (Str × Value)))
    (hk : ∀ (kV doc pm : Value) (an : Option Addr) (cdv ct x v u : Value), PySem.bindArgs (PySem.W.fnOf "__init__" qual (defArgs st) (defBody st) (defScope st) .none kV doc pm an cdv ct) ⟨[x], [(f, v), (g, u)]⟩ = pure ([("self", x), (f, v), (g, u)] : List (Str × Value)))
    (hq : ∀ (kV doc pm : Value) (an : Option Addr) (cdv ct x v u : Value), PySem.bindArgs (PySem.W.fnOf "__init__" qual (defArgs st) (defBody st) (defScope st) .none kV doc pm an cdv ct) ⟨[x], [(g, u), (f, v)]⟩ = pure ([("self", x), (f, v), (g, u)] : List (Str × Value))) :
    Cl2 P w K mg base nm f g C fI fd := by
  obtain ⟨e, h6, h7⟩ := oxB_of q
  have no' := beq_iff_eq.mp no
  have no2' := beq_iff_eq.mp no2
  have fn := ok e.toOexC no' no2'
  obtain ⟨oc, od, kV, doc, pm, an, cdv, ct, osl, rfl, lk, hcd⟩ := F.ex
  exact { toExK := e, gl := gl, ini := h6, typ := h7, fn := fn, bp := fun s x v u => .of_eq (hb _ _ _ _ _ _ x v u), bk := fun s x v u => .of_eq (hk _ _ _ _ _ _ x v u), bq := fun s x v u => .of_eq (hq _ _ _ _ _ _ x v u), no := no', no2 := no2' }
end
section
variable {P : Program} {w : World} {R : Params} {mg : Str → Option Value} {base : Heap}
noncomputable abbrev KK (R : Params) : PySem.W.Frag := hd00.heap_39 R
theorem fI0 : Fun (KK R) "__init__" "BadWish.__init__" sI0 41 (fdAt (KK R) 41) := fun_at (by rfl) (by kernel_rfl)
theorem cl0 (g : mg "BadWish" = some (.ref 44)) : Cl1 P w (KK R) mg base "BadWish" "part" 44 41 (fdAt (KK R) 41) := cl1_mk (by kernel_rfl) (by kernel_rfl) g fI0 (okI0 fI0) (fun _ _ _ _ _ _ _ _ => rfl) (fun _ _ _ _ _ _ _ _ => rfl)
theorem fI1 : Fun (KK R) "__init__" "BadSite.__init__" sI1 60 (fdAt (KK R) 60) := fun_at (by rfl) (by kernel_rfl)
theorem cl1 (g : mg "BadSite" = some (.ref 63)) : Cl1 P w (KK R) mg base "BadSite" "part" 63 60 (fdAt (KK R) 60) := cl1_mk (by kernel_rfl) (by kernel_rfl) g fI1 (okI1 fI1) (fun _ _ _ _ _ _ _ _ => rfl) (fun _ _ _ _ _ _ _ _ => rfl)
theorem fI2 : Fun (KK R) "__init__" "BadPlan.__init__" sI2 79 (fdAt (KK R) 79) := fun_at (by rfl) (by kernel_rfl)
theorem cl2 (g : mg "BadPlan" = some (.ref 82)) : Cl1 P w (KK R) mg base "BadPlan" "part" 82 79 (fdAt (KK R) 79) := cl1_mk (by kernel_rfl) (by kernel_rfl) g fI2 (okI2 fI2) (fun _ _ _ _ _ _ _ _ => rfl) (fun _ _ _ _ _ _ _ _ => rfl)
theorem fI3 : Fun (KK R) "__init__" "BadLimit.__init__" sI3 98 (fdAt (KK R) 98) := fun_at (by rfl) (by kernel_rfl)
theorem cl3 (g : mg "BadLimit" = some (.ref 101)) : Cl1 P w (KK R) mg base "BadLimit" "part" 101 98 (fdAt (KK R) 98) := cl1_mk (by kernel_rfl) (by kernel_rfl) g fI3 (okI3 fI3) (fun _ _ _ _ _ _ _ _ => rfl) (fun _ _ _ _ _ _ _ _ => rfl)
theorem fI4 : Fun (KK R) "__init__" "BadPromise.__init__" sI4 117 (fdAt (KK R) 117) := fun_at (by rfl) (by kernel_rfl)
theorem cl4 (g : mg "BadPromise" = some (.ref 120)) : Cl1 P w (KK R) mg base "BadPromise" "part" 120 117 (fdAt (KK R) 117) := cl1_mk (by kernel_rfl) (by kernel_rfl) g fI4 (okI4 fI4) (fun _ _ _ _ _ _ _ _ => rfl) (fun _ _ _ _ _ _ _ _ => rfl)
theorem fI5 : Fun (KK R) "__init__" "BadStock.__init__" sI5 155 (fdAt (KK R) 155) := fun_at (by rfl) (by kernel_rfl)
theorem cl5 (g : mg "BadStock" = some (.ref 158)) : Cl1 P w (KK R) mg base "BadStock" "part" 158 155 (fdAt (KK R) 155) := cl1_mk (by kernel_rfl) (by kernel_rfl) g fI5 (okI5 fI5) (fun _ _ _ _ _ _ _ _ => rfl) (fun _ _ _ _ _ _ _ _ => rfl)
theorem fI6 : Fun (KK R) "__init__" "BadCounts.__init__" sI6 174 (fdAt (KK R) 174) := fun_at (by rfl) (by kernel_rfl)
theorem cl6 (g : mg "BadCounts" = some (.ref 177)) : Cl1 P w (KK R) mg base "BadCounts" "part" 177 174 (fdAt (KK R) 174) := cl1_mk (by kernel_rfl) (by kernel_rfl) g fI6 (okI6 fI6) (fun _ _ _ _ _ _ _ _ => rfl) (fun _ _ _ _ _ _ _ _ => rfl)
theorem fI7 : Fun (KK R) "__init__" "BadRule.__init__" sI7 193 (fdAt (KK R) 193) := fun_at (by rfl) (by kernel_rfl)
theorem cl7 (g : mg "BadRule" = some (.ref 196)) : Cl1 P w (KK R) mg base "BadRule" "part" 196 193 (fdAt (KK R) 193) := cl1_mk (by kernel_rfl) (by kernel_rfl) g fI7 (okI7 fI7) (fun _ _ _ _ _ _ _ _ => rfl) (fun _ _ _ _ _ _ _ _ => rfl)
theorem fI8 : Fun (KK R) "__init__" "BadStay.__init__" sI8 212 (fdAt (KK R) 212) := fun_at (by rfl) (by kernel_rfl)
theorem cl8 (g : mg "BadStay" = some (.ref 215)) : Cl1 P w (KK R) mg base "BadStay" "part" 215 212 (fdAt (KK R) 212) := cl1_mk (by kernel_rfl) (by kernel_rfl) g fI8 (okI8 fI8) (fun _ _ _ _ _ _ _ _ => rfl) (fun _ _ _ _ _ _ _ _ => rfl)
theorem fI9 : Fun (KK R) "__init__" "BadBook.__init__" sI9 231 (fdAt (KK R) 231) := fun_at (by rfl) (by kernel_rfl)
theorem cl9 (g : mg "BadBook" = some (.ref 234)) : Cl1 P w (KK R) mg base "BadBook" "part" 234 231 (fdAt (KK R) 231) := cl1_mk (by kernel_rfl) (by kernel_rfl) g fI9 (okI9 fI9) (fun _ _ _ _ _ _ _ _ => rfl) (fun _ _ _ _ _ _ _ _ => rfl)
theorem fI10 : Fun (KK R) "__init__" "BadCalendar.__init__" sI10 250 (fdAt (KK R) 250) := fun_at (by rfl) (by kernel_rfl)
theorem cl10 (g : mg "BadCalendar" = some (.ref 253)) : Cl1 P w (KK R) mg base "BadCalendar" "part" 253 250 (fdAt (KK R) 250) := cl1_mk (by kernel_rfl) (by kernel_rfl) g fI10 (okI10 fI10) (fun _ _ _ _ _ _ _ _ => rfl) (fun _ _ _ _ _ _ _ _ => rfl)
theorem fI11 : Fun (KK R) "__init__" "BadLines.__init__" sI11 269 (fdAt (KK R) 269) := fun_at (by rfl) (by kernel_rfl)
theorem cl11 (g : mg "BadLines" = some (.ref 272)) : Cl1 P w (KK R) mg base "BadLines" "part" 272 269 (fdAt (KK R) 269) := cl1_mk (by kernel_rfl) (by kernel_rfl) g fI11 (okI11 fI11) (fun _ _ _ _ _ _ _ _ => rfl) (fun _ _ _ _ _ _ _ _ => rfl)
theorem fI12 : Fun (KK R) "__init__" "BadHouse.__init__" sI12 288 (fdAt (KK R) 288) := fun_at (by rfl) (by kernel_rfl)
theorem cl12 (g : mg "BadHouse" = some (.ref 291)) : Cl1 P w (KK R) mg base "BadHouse" "part" 291 288 (fdAt (KK R) 288) := cl1_mk (by kernel_rfl) (by kernel_rfl) g fI12 (okI12 fI12) (fun _ _ _ _ _ _ _ _ => rfl) (fun _ _ _ _ _ _ _ _ => rfl)
theorem fI13 : Fun (KK R) "__init__" "Unbounded.__init__" sI13 516 (fdAt (KK R) 516) := fun_at (by rfl) (by kernel_rfl)
theorem cl13 (g : mg "Unbounded" = some (.ref 519)) : Cl1 P w (KK R) mg base "Unbounded" "part" 519 516 (fdAt (KK R) 516) := cl1_mk (by kernel_rfl) (by kernel_rfl) g fI13 (okI13 fI13) (fun _ _ _ _ _ _ _ _ => rfl) (fun _ _ _ _ _ _ _ _ => rfl)
theorem fI14 : Fun (KK R) "__init__" "BadNumber.__init__" sI14 307 (fdAt (KK R) 307) := fun_at (by rfl) (by kernel_rfl)
theorem cl14 (g : mg "BadNumber" = some (.ref 310)) : Cl1 P w (KK R) mg base "BadNumber" "value" 310 307 (fdAt (KK R) 307) := cl1_mk (by kernel_rfl) (by kernel_rfl) g fI14 (okI14 fI14) (fun _ _ _ _ _ _ _ _ => rfl) (fun _ _ _ _ _ _ _ _ => rfl)
theorem fI15 : Fun (KK R) "__init__" "BadName.__init__" sI15 326 (fdAt (KK R) 326) := fun_at (by rfl) (by kernel_rfl)
theorem cl15 (g : mg "BadName" = some (.ref 329)) : Cl1 P w (KK R) mg base "BadName" "value" 329 326 (fdAt (KK R) 326) := cl1_mk (by kernel_rfl) (by kernel_rfl) g fI15 (okI15 fI15) (fun _ _ _ _ _ _ _ _ => rfl) (fun _ _ _ _ _ _ _ _ => rfl)
theorem fI16 : Fun (KK R) "__init__" "NoWish.__init__" sI16 383 (fdAt (KK R) 383) := fun_at (by rfl) (by kernel_rfl)
theorem cl16 (g : mg "NoWish" = some (.ref 386)) : Cl1 P w (KK R) mg base "NoWish" "name" 386 383 (fdAt (KK R) 383) := cl1_mk (by kernel_rfl) (by kernel_rfl) g fI16 (okI16 fI16) (fun _ _ _ _ _ _ _ _ => rfl) (fun _ _ _ _ _ _ _ _ => rfl)
theorem fI17 : Fun (KK R) "__init__" "NoSite.__init__" sI17 402 (fdAt (KK R) 402) := fun_at (by rfl) (by kernel_rfl)
theorem cl17 (g : mg "NoSite" = some (.ref 405)) : Cl1 P w (KK R) mg base "NoSite" "name" 405 402 (fdAt (KK R) 402) := cl1_mk (by kernel_rfl) (by kernel_rfl) g fI17 (okI17 fI17) (fun _ _ _ _ _ _ _ _ => rfl) (fun _ _ _ _ _ _ _ _ => rfl)
theorem fI18 : Fun (KK R) "__init__" "NoGuest.__init__" sI18 421 (fdAt (KK R) 421) := fun_at (by rfl) (by kernel_rfl)
theorem cl18 (g : mg "NoGuest" = some (.ref 424)) : Cl1 P w (KK R) mg base "NoGuest" "name" 424 421 (fdAt (KK R) 421) := cl1_mk (by kernel_rfl) (by kernel_rfl) g fI18 (okI18 fI18) (fun _ _ _ _ _ _ _ _ => rfl) (fun _ _ _ _ _ _ _ _ => rfl)
theorem fI19 : Fun (KK R) "__init__" "NoHall.__init__" sI19 440 (fdAt (KK R) 440) := fun_at (by rfl) (by kernel_rfl)
theorem cl19 (g : mg "NoHall" = some (.ref 443)) : Cl1 P w (KK R) mg base "NoHall" "name" 443 440 (fdAt (KK R) 440) := cl1_mk (by kernel_rfl) (by kernel_rfl) g fI19 (okI19 fI19) (fun _ _ _ _ _ _ _ _ => rfl) (fun _ _ _ _ _ _ _ _ => rfl)
theorem fI20 : Fun (KK R) "__init__" "NoGate.__init__" sI20 459 (fdAt (KK R) 459) := fun_at (by rfl) (by kernel_rfl)
theorem cl20 (g : mg "NoGate" = some (.ref 462)) : Cl1 P w (KK R) mg base "NoGate" "name" 462 459 (fdAt (KK R) 459) := cl1_mk (by kernel_rfl) (by kernel_rfl) g fI20 (okI20 fI20) (fun _ _ _ _ _ _ _ _ => rfl) (fun _ _ _ _ _ _ _ _ => rfl)
theorem fI21 : Fun (KK R) "__init__" "BadRow.__init__" sI21 136 (fdAt (KK R) 136) := fun_at (by rfl) (by kernel_rfl)
theorem cl21 (g : mg "BadRow" = some (.ref 139)) : Cl1 P w (KK R) mg base "BadRow" "at" 139 136 (fdAt (KK R) 136) := cl1_mk (by kernel_rfl) (by kernel_rfl) g fI21 (okI21 fI21) (fun _ _ _ _ _ _ _ _ => rfl) (fun _ _ _ _ _ _ _ _ => rfl)
theorem fI22 : Fun (KK R) "__init__" "BadLine.__init__" sI22 364 (fdAt (KK R) 364) := fun_at (by rfl) (by kernel_rfl)
theorem cl22 (g : mg "BadLine" = some (.ref 367)) : Cl1 P w (KK R) mg base "BadLine" "word" 367 364 (fdAt (KK R) 364) := cl1_mk (by kernel_rfl) (by kernel_rfl) g fI22 (okI22 fI22) (fun _ _ _ _ _ _ _ _ => rfl) (fun _ _ _ _ _ _ _ _ => rfl)
theorem fI23 : Fun (KK R) "__init__" "Barred.__init__" sI23 535 (fdAt (KK R) 535) := fun_at (by rfl) (by kernel_rfl)
theorem cl23 (g : mg "Barred" = some (.ref 538)) : Cl1 P w (KK R) mg base "Barred" "word" 538 535 (fdAt (KK R) 535) := cl1_mk (by kernel_rfl) (by kernel_rfl) g fI23 (okI23 fI23) (fun _ _ _ _ _ _ _ _ => rfl) (fun _ _ _ _ _ _ _ _ => rfl)
theorem fI24 : Fun (KK R) "__init__" "NoBay.__init__" sI24 497 (fdAt (KK R) 497) := fun_at (by rfl) (by kernel_rfl)
theorem cl24 (g : mg "NoBay" = some (.ref 500)) : Cl1 P w (KK R) mg base "NoBay" "wish" 500 497 (fdAt (KK R) 497) := cl1_mk (by kernel_rfl) (by kernel_rfl) g fI24 (okI24 fI24) (fun _ _ _ _ _ _ _ _ => rfl) (fun _ _ _ _ _ _ _ _ => rfl)
theorem fI25 : Fun (KK R) "__init__" "Refused.__init__" sI25 478 (fdAt (KK R) 478) := fun_at (by rfl) (by kernel_rfl)
theorem cl25 (g : mg "Refused" = some (.ref 481)) : Cl2 P w (KK R) mg base "Refused" "part" "wish" 481 478 (fdAt (KK R) 478) := cl2_mk (by kernel_rfl) (by kernel_rfl) (by kernel_rfl) g fI25 (okI25 fI25) (fun _ _ _ _ _ _ _ _ _ => rfl) (fun _ _ _ _ _ _ _ _ _ => rfl) (fun _ _ _ _ _ _ _ _ _ => rfl)
theorem fI26 : Fun (KK R) "__init__" "BadText.__init__" sI26 345 (fdAt (KK R) 345) := fun_at (by rfl) (by kernel_rfl)
theorem cl26 (g : mg "BadText" = some (.ref 348)) : Cl2 P w (KK R) mg base "BadText" "line" "word" 348 345 (fdAt (KK R) 345) := cl2_mk (by kernel_rfl) (by kernel_rfl) (by kernel_rfl) g fI26 (okI26 fI26) (fun _ _ _ _ _ _ _ _ _ => rfl) (fun _ _ _ _ _ _ _ _ _ => rfl) (fun _ _ _ _ _ _ _ _ _ => rfl)
theorem fI27 : Fun (KK R) "__init__" "TooMany.__init__" sI27 554 (fdAt (KK R) 554) := fun_at (by rfl) (by kernel_rfl)
theorem cl27 (g : mg "TooMany" = some (.ref 557)) : Cl2 P w (KK R) mg base "TooMany" "what" "most" 557 554 (fdAt (KK R) 554) := cl2_mk (by kernel_rfl) (by kernel_rfl) (by kernel_rfl) g fI27 (okI27 fI27) (fun _ _ _ _ _ _ _ _ _ => rfl) (fun _ _ _ _ _ _ _ _ _ => rfl) (fun _ _ _ _ _ _ _ _ _ => rfl)
theorem fdP : Fun (KK R) "_law_pen" "_law_pen" sPen 578 (fdAt (KK R) 578) := fun_at (by rfl) (by kernel_rfl)
theorem nsP : PySem.W.nsIn (KK R) mainGlobals "_law_pen" = some (some (.ref 578)) := by kernel_rfl
theorem fdD : Fun (KK R) "_law_draw" "_law_draw" sDraw 585 (fdAt (KK R) 585) := fun_at (by rfl) (by kernel_rfl)
theorem nsD : PySem.W.nsIn (KK R) mainGlobals "_law_draw" = some (some (.ref 585)) := by kernel_rfl
theorem fdK : Fun (KK R) "_law_pick" "_law_pick" sPick 592 (fdAt (KK R) 592) := fun_at (by rfl) (by kernel_rfl)
theorem nsK : PySem.W.nsIn (KK R) mainGlobals "_law_pick" = some (some (.ref 592)) := by kernel_rfl
theorem fdS : Fun (KK R) "_law_some" "_law_some" sSome 599 (fdAt (KK R) 599) := fun_at (by rfl) (by kernel_rfl)
theorem nsS : PySem.W.nsIn (KK R) mainGlobals "_law_some" = some (some (.ref 599)) := by kernel_rfl
theorem fdA : Fun (KK R) "_law_parts" "_law_parts" sParts 604 (fdAt (KK R) 604) := fun_at (by rfl) (by kernel_rfl)
theorem nsA : PySem.W.nsIn (KK R) mainGlobals "_law_parts" = some (some (.ref 604)) := by kernel_rfl
theorem fdN : Fun (KK R) "_law_names" "_law_names" sNames 609 (fdAt (KK R) 609) := fun_at (by rfl) (by kernel_rfl)
theorem nsN : PySem.W.nsIn (KK R) mainGlobals "_law_names" = some (some (.ref 609)) := by kernel_rfl
theorem fdL : Fun (KK R) "_law_is_alone" "_law_is_alone" sAlone 614 (fdAt (KK R) 614) := fun_at (by rfl) (by kernel_rfl)
theorem nsL : PySem.W.nsIn (KK R) mainGlobals "_law_is_alone" = some (some (.ref 614)) := by kernel_rfl
theorem fdT : Fun (KK R) "_law_two_right" "_law_two_right" sTwo 619 (fdAt (KK R) 619) := fun_at (by rfl) (by kernel_rfl)
theorem nsT : PySem.W.nsIn (KK R) mainGlobals "_law_two_right" = some (some (.ref 619)) := by kernel_rfl
theorem fdZ : Fun (KK R) "law" "law" sLaw 626 (fdAt (KK R) 626) := fun_at (by rfl) (by kernel_rfl)
theorem nsZ : PySem.W.nsIn (KK R) mainGlobals "law" = some (some (.ref 626)) := by kernel_rfl
theorem ns0 : PySem.W.nsIn (KK R) mainGlobals "BadWish" = some (some (.ref 44)) := by kernel_rfl
theorem ns1 : PySem.W.nsIn (KK R) mainGlobals "BadSite" = some (some (.ref 63)) := by kernel_rfl
theorem ns2 : PySem.W.nsIn (KK R) mainGlobals "BadPlan" = some (some (.ref 82)) := by kernel_rfl
theorem ns3 : PySem.W.nsIn (KK R) mainGlobals "BadLimit" = some (some (.ref 101)) := by kernel_rfl
theorem ns4 : PySem.W.nsIn (KK R) mainGlobals "BadPromise" = some (some (.ref 120)) := by kernel_rfl
theorem ns5 : PySem.W.nsIn (KK R) mainGlobals "BadStock" = some (some (.ref 158)) := by kernel_rfl
theorem ns6 : PySem.W.nsIn (KK R) mainGlobals "BadCounts" = some (some (.ref 177)) := by kernel_rfl
theorem ns7 : PySem.W.nsIn (KK R) mainGlobals "BadRule" = some (some (.ref 196)) := by kernel_rfl
theorem ns8 : PySem.W.nsIn (KK R) mainGlobals "BadStay" = some (some (.ref 215)) := by kernel_rfl
theorem ns9 : PySem.W.nsIn (KK R) mainGlobals "BadBook" = some (some (.ref 234)) := by kernel_rfl
theorem ns10 : PySem.W.nsIn (KK R) mainGlobals "BadCalendar" = some (some (.ref 253)) := by kernel_rfl
theorem ns11 : PySem.W.nsIn (KK R) mainGlobals "BadLines" = some (some (.ref 272)) := by kernel_rfl
theorem ns12 : PySem.W.nsIn (KK R) mainGlobals "BadHouse" = some (some (.ref 291)) := by kernel_rfl
theorem ns13 : PySem.W.nsIn (KK R) mainGlobals "Unbounded" = some (some (.ref 519)) := by kernel_rfl
theorem ns14 : PySem.W.nsIn (KK R) mainGlobals "BadNumber" = some (some (.ref 310)) := by kernel_rfl
theorem ns15 : PySem.W.nsIn (KK R) mainGlobals "BadName" = some (some (.ref 329)) := by kernel_rfl
theorem ns16 : PySem.W.nsIn (KK R) mainGlobals "NoWish" = some (some (.ref 386)) := by kernel_rfl
theorem ns17 : PySem.W.nsIn (KK R) mainGlobals "NoSite" = some (some (.ref 405)) := by kernel_rfl
theorem ns18 : PySem.W.nsIn (KK R) mainGlobals "NoGuest" = some (some (.ref 424)) := by kernel_rfl
theorem ns19 : PySem.W.nsIn (KK R) mainGlobals "NoHall" = some (some (.ref 443)) := by kernel_rfl
theorem ns20 : PySem.W.nsIn (KK R) mainGlobals "NoGate" = some (some (.ref 462)) := by kernel_rfl
theorem ns21 : PySem.W.nsIn (KK R) mainGlobals "BadRow" = some (some (.ref 139)) := by kernel_rfl
theorem ns22 : PySem.W.nsIn (KK R) mainGlobals "BadLine" = some (some (.ref 367)) := by kernel_rfl
theorem ns23 : PySem.W.nsIn (KK R) mainGlobals "Barred" = some (some (.ref 538)) := by kernel_rfl
theorem ns24 : PySem.W.nsIn (KK R) mainGlobals "NoBay" = some (some (.ref 500)) := by kernel_rfl
theorem ns25 : PySem.W.nsIn (KK R) mainGlobals "Refused" = some (some (.ref 481)) := by kernel_rfl
theorem ns26 : PySem.W.nsIn (KK R) mainGlobals "BadText" = some (some (.ref 348)) := by kernel_rfl
theorem ns27 : PySem.W.nsIn (KK R) mainGlobals "TooMany" = some (some (.ref 557)) := by kernel_rfl
theorem ns28 : PySem.W.nsIn (KK R) mainGlobals "Nothing" = some (some (.ref 569)) := by kernel_rfl
theorem nsSE : PySem.W.nsIn (KK R) mainGlobals "StayError" = some (some (.ref 24)) := by kernel_rfl
theorem no_isinstance : PySem.W.nsIn (KK R) mainGlobals "isinstance" = some none := by kernel_rfl
theorem no_ValueError : PySem.W.nsIn (KK R) mainGlobals "ValueError" = some none := by kernel_rfl
theorem no_range : PySem.W.nsIn (KK R) mainGlobals "range" = some none := by kernel_rfl
theorem no_len : PySem.W.nsIn (KK R) mainGlobals "len" = some none := by kernel_rfl
theorem no_abs : PySem.W.nsIn (KK R) mainGlobals "abs" = some none := by kernel_rfl
theorem no_int : PySem.W.nsIn (KK R) mainGlobals "int" = some none := by kernel_rfl
theorem no_list : PySem.W.nsIn (KK R) mainGlobals "list" = some none := by kernel_rfl
theorem no_repr : PySem.W.nsIn (KK R) mainGlobals "repr" = some none := by kernel_rfl
theorem errs {h : Heap} (X : (KK R).In h) (G : h.Ns mainGlobals mg) : Errs P w (KK R) mg base cs fs (fun k => fdAt (KK R) (fs k)) where
  e0 := cl0 (PySem.W.mg_of X G ns0)
  e1 := cl1 (PySem.W.mg_of X G ns1)
  e2 := cl2 (PySem.W.mg_of X G ns2)
  e3 := cl3 (PySem.W.mg_of X G ns3)
  e4 := cl4 (PySem.W.mg_of X G ns4)
  e5 := cl5 (PySem.W.mg_of X G ns5)
  e6 := cl6 (PySem.W.mg_of X G ns6)
  e7 := cl7 (PySem.W.mg_of X G ns7)
  e8 := cl8 (PySem.W.mg_of X G ns8)
  e9 := cl9 (PySem.W.mg_of X G ns9)
  e10 := cl10 (PySem.W.mg_of X G ns10)
  e11 := cl11 (PySem.W.mg_of X G ns11)
  e12 := cl12 (PySem.W.mg_of X G ns12)
  e13 := cl13 (PySem.W.mg_of X G ns13)
  e14 := cl14 (PySem.W.mg_of X G ns14)
  e15 := cl15 (PySem.W.mg_of X G ns15)
  e16 := cl16 (PySem.W.mg_of X G ns16)
  e17 := cl17 (PySem.W.mg_of X G ns17)
  e18 := cl18 (PySem.W.mg_of X G ns18)
  e19 := cl19 (PySem.W.mg_of X G ns19)
  e20 := cl20 (PySem.W.mg_of X G ns20)
  e21 := cl21 (PySem.W.mg_of X G ns21)
  e22 := cl22 (PySem.W.mg_of X G ns22)
  e23 := cl23 (PySem.W.mg_of X G ns23)
  e24 := cl24 (PySem.W.mg_of X G ns24)
  e25 := cl25 (PySem.W.mg_of X G ns25)
  e26 := cl26 (PySem.W.mg_of X G ns26)
  e27 := cl27 (PySem.W.mg_of X G ns27)
def kitB (K : PySem.W.Frag) : Bool := (List.range 29).all fun i => (List.range 29).all fun j => PySem.W.kitOne K (.ref (cs j)) (.ref (cs i)) == some (decide (i = j))
def kit1B (K : PySem.W.Frag) (c : Value) : Bool := (List.range 29).all fun j => PySem.W.kitOne K (.ref (cs j)) c == some true
def excB (K : PySem.W.Frag) : Bool := (List.range 29).all fun j => exB K (cs j)
theorem all29 {p : Nat → Bool} (h : (List.range 29).all p = true) {j : Nat} (hj : j < 29) : p j = true := List.all_eq_true.mp h j (List.mem_range.mpr hj)
theorem kitB_is : kitB (KK R) = true := by kernel_rfl
theorem kitS_is : kit1B (KK R) (.ref SEa) = true := by kernel_rfl
theorem kitV_is : kit1B (KK R) (.type "ValueError") = true := by kernel_rfl
theorem excB_is : excB (KK R) = true := by kernel_rfl
theorem kitVE : PySem.W.kitOne (KK R) (.type "ValueError") (.ref SEa) = some false := by kernel_rfl
theorem kits {h : Heap} (X : (KK R).In h) (G : h.Ns mainGlobals mg) : Kits (KK R) mg cs SEa where
  isi := PySem.W.mg_none_of X G no_isinstance
  ve := PySem.W.mg_none_of X G no_ValueError
  range := PySem.W.mg_none_of X G no_range
  len := PySem.W.mg_none_of X G no_len
  gN := PySem.W.mg_of X G ns28
  gS := PySem.W.mg_of X G nsSE
  exc := fun j hj => exB_of (all29 excB_is hj)
  kit := fun i j hi hj => beq_iff_eq.mp (all29 (all29 kitB_is hi) hj)
  kitS := fun j hj => beq_iff_eq.mp (all29 kitS_is hj)
  kitV := fun j hj => beq_iff_eq.mp (all29 kitV_is hj)
theorem more {h : Heap} (X : (KK R).In h) (G : h.Ns mainGlobals mg) : More (KK R) mg cs where
  repr := PySem.W.mg_none_of X G no_repr
  gN := PySem.W.mg_of X G ns28
  kN := by kernel_rfl
  exN := by kernel_rfl
theorem txtB {h : Heap} (X : (KK R).In h) (G : h.Ns mainGlobals mg) : TxtB mg where
  len := PySem.W.mg_none_of X G no_len
  abs := PySem.W.mg_none_of X G no_abs
  int := PySem.W.mg_none_of X G no_int
  list := PySem.W.mg_none_of X G no_list
end
end K00
end
section
set_option maxRecDepth 100000
set_option maxHeartbeats 4000000
namespace K00
open PySem PySem.Spec PyProof.Rows L2 Lw
section
variable {P : Program} {w : World} {R : Params} {mg : Str → Option Value} {base : Heap}
theorem bi1 {x qual a : Str} {st : Stmt} {f : Addr} {K : PySem.W.Frag} {fd : FuncData} (F : Fun K x qual st f fd)
    (h : ∀ (kV doc pm : Value) (an : Option Addr) (cdv ct u : Value), PySem.bindArgs (PySem.W.fnOf x qual (defArgs st) (defBody st) (defScope st) .none kV doc pm an cdv ct) ⟨[u], []⟩ = pure ([(a, u)] : List (Str × Value))) : Binds K fd [a] [] :=
  F.binds fun kV doc pm an cdv ct us hl => match us, hl with | [u], _ => h kV doc pm an cdv ct u
theorem bi2 {x qual a b : Str} {st : Stmt} {f : Addr} {K : PySem.W.Frag} {fd : FuncData} (F : Fun K x qual st f fd)
    (h : ∀ (kV doc pm : Value) (an : Option Addr) (cdv ct u v : Value), PySem.bindArgs (PySem.W.fnOf x qual (defArgs st) (defBody st) (defScope st) .none kV doc pm an cdv ct) ⟨[u, v], []⟩ = pure ([(a, u), (b, v)] : List (Str × Value))) : Binds K fd [a, b] [] :=
  F.binds fun kV doc pm an cdv ct us hl => match us, hl with | [u, v], _ => h kV doc pm an cdv ct u v
theorem whole (X : (KK R).In base) (G : base.Ns mainGlobals mg) (hS : ∃ m, base.Ns sysModules m) : FnG P w (KK R) mg base CX0 4 626 (fdAt (KK R) 626) ["_law_script"] (spLaw (KK R)) := by
  have T : Errs P w (KK R) mg base cs fs (fun k => fdAt (KK R) (fs k)) := errs X G
  have Z := kits X G
  have Y := more X G
  have B := txtB X G
  have bD : Binds (KK R) (fdAt (KK R) 585) ["_law_pen_here", "_law_many"] [] := bi2 fdD (fun _ _ _ _ _ _ _ _ => rfl)
  have bK : Binds (KK R) (fdAt (KK R) 592) ["_law_pen_here", "_law_some_here"] [] := bi2 fdK (fun _ _ _ _ _ _ _ _ => rfl)
  have bP : Binds (KK R) (fdAt (KK R) 578) ["_law_script"] [] := bi1 fdP (fun _ _ _ _ _ _ _ => rfl)
  have bS : Binds (KK R) (fdAt (KK R) 599) ["_law_pen_here"] [] := bi1 fdS (fun _ _ _ _ _ _ _ => rfl)
  have bA : Binds (KK R) (fdAt (KK R) 604) ["_law_one_so", "_law_two_so"] [] := bi2 fdA (fun _ _ _ _ _ _ _ _ => rfl)
  have bN : Binds (KK R) (fdAt (KK R) 609) ["_law_one_so", "_law_two_so"] [] := bi2 fdN (fun _ _ _ _ _ _ _ _ => rfl)
  have bL : Binds (KK R) (fdAt (KK R) 614) ["_law_made", "_law_kind"] [] := bi2 fdL (fun _ _ _ _ _ _ _ _ => rfl)
  have bT : Binds (KK R) (fdAt (KK R) 619) ["_law_one_so", "_law_two_so"] [] := bi2 fdT (fun _ _ _ _ _ _ _ _ => rfl)
  have gD := PySem.W.mg_of X G nsD
  have gK := PySem.W.mg_of X G nsK
  have gP := PySem.W.mg_of X G nsP
  have gS := PySem.W.mg_of X G nsS
  have gA := PySem.W.mg_of X G nsA
  have gN := PySem.W.mg_of X G nsN
  have gL := PySem.W.mg_of X G nsL
  have gT := PySem.W.mg_of X G nsT
  have okP : FnOk P w (KK R) mg base CX0 1 578 (fdAt (KK R) 578) ["_law_script"] (spPen (KK R)) := ok_pen fdP B
  have okK : FnOk P w (KK R) mg base CX0 2 592 (fdAt (KK R) 592) ["_law_pen_here", "_law_some_here"] spPick := ok_pick fdK B fdD gD bD
  have okS : FnOk P w (KK R) mg base CX0 3 599 (fdAt (KK R) 599) ["_law_pen_here"] (spSome (KK R)) := ok_some fdS fdK.kp gK bK okK
  have okA : FnOk P w (KK R) mg base CX0 3 604 (fdAt (KK R) 604) ["_law_one_so", "_law_two_so"] (spParts cs) := ok_parts fdA T
  have okN : FnOk P w (KK R) mg base CX0 3 609 (fdAt (KK R) 609) ["_law_one_so", "_law_two_so"] (spNames cs) := ok_names fdN T
  have okL : FnOk P w (KK R) mg base CX0 1 614 (fdAt (KK R) 614) ["_law_made", "_law_kind"] (spAlone cs) := ok_alone fdL T Z
  have okT : FnG P w (KK R) mg base CX0 3 619 (fdAt (KK R) 619) ["_law_one_so", "_law_two_so"] (spTwo (KK R)) := ok_two fdT T Z Y hS okL gL fdL.kp bL
  exact ok_law fdZ Z Y hS kitVE ⟨.of okP, gP, fdP.kp, bP⟩ ⟨.of okS, gS, fdS.kp, bS⟩ ⟨.of okA, gA, fdA.kp, bA⟩ ⟨.of okN, gN, fdN.kp, bN⟩ ⟨.of okL, gL, fdL.kp, bL⟩ ⟨okT, gT, fdT.kp, bT⟩
theorem bindsZ (s : Shared) (u : Value) : BindsTo s (fdAt (KK R) 626) ⟨[u], []⟩ [("_law_script", u)] := by
  obtain ⟨oc, od, kV, doc, pm, an, cdv, ct, osl, e, lk, hcd⟩ := (fdZ (R := R)).ex
  rw [e]
  exact .of_eq rfl
end
end K00
end
section
open PySem PySem.W PyProof.Rows
set_option maxRecDepth 100000 in
set_option maxHeartbeats 0 in
theorem PySem.Challenge.cw_stayhouse_k00_errors_and_their_fields_holds : PySem.Challenge.rw_stayhouse_k00_errors_and_their_fields.Holds :=
 hd00 (by
  refine Lw.walk_ofG (l := PySem.Challenge.rw_stayhouse_k00_errors_and_their_fields) (n := 63) (k := 4) (x := "_law_script") (K := hd00.heap_39) (sp := K00.spLaw) rfl (by decide) rfl ⟨rfl, by decide, by decide⟩ ?I (fun w h Y => PySem.W.kIn_of Y) ?F ?S
  case I => kernel_rfl
  case F =>
    intro w mg fa h KX G hmg
    have e := hmg.symm.trans (PySem.W.mg_of KX G K00.nsZ)
    obtain rfl : fa = 626 := PySem.Value.ref.inj (Option.some.inj e)
    exact ⟨_, K00.bindsZ, fun base X G hS => K00.whole X G hS⟩
  case S =>
    intro K H a ns hl hO hS
    exact ⟨a, ns, rfl, hS, hl, fun _ => rfl⟩)
#print axioms PySem.Challenge.cw_stayhouse_k00_errors_and_their_fields_holds
end
