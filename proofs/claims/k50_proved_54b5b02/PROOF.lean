import PyProof.Rows.All
import Wide.All
import OpenK.AllK
import Wide.FinOn
import HandS.ForMost
import HandS.ExcInit
import HandS.ExcIs
import HandS.ExcField
import HandS.ExcValue
import HandS.Defaults
import HandS.IsInst
import HandS.ExcBuiltin
import KE.KExcIs
import HandS.StrMore
import HandS.Exc
import HandS.DictComp
import HandS.Star
import HandS.Walk
import PyProof.Conv_bool
import OpenK.KOps
import HandS.ExcOwn
import HandS.WordsExc
import HandS.Zip
import HandS.Wide
import HandS.Style
import HandS.FStr
import KE.KIntText
import PyProof.Rows.Digits
import HandS.ClsMeth
import HandS.SlotsOwn
import KE.KOpsOwn
import KE.KCallOwn
import PyProof.DictUpdate
import PyProof.MeetsSeq2
import KE.KStar
import HandS.IterVal
import HandS.Iter
import PyProof.InstNe
import HandS.TupMul
import PyProof.SumWalkG
import PyProof.WalksMore
import PyProof.ListMulRoad
import PyProof.FactsAll.tuple_2
import HandS.TupAny
import HandS.OwnEq
import KE.KDictZip
import HandS.HeadHook2
import PySem.Challenge.RW_stayhouse_k50_lines_reckoned
set_option Elab.async false
set_option linter.all false
section
open PySem PySem.W PyProof.Rows
set_option maxRecDepth 100000 in
set_option maxHeartbeats 0 in
open_top hd50 for PySem.Challenge.rw_stayhouse_k50_lines_reckoned
end
section
set_option maxRecDepth 100000
set_option maxHeartbeats 4000000
namespace Lw
open PySem PySem.Spec PyProof.Rows L2
theorem dp_ints {K : PySem.W.Frag} {H : Hp} : ∀ ns : List Int, DpAll K H (ns.map V.int) (ns.map PyData.int)
  | [] => .nil
  | n :: t => .cons (.int n) (dp_ints t)
theorem lay_ints : ∀ ns : List Int, PyData.canLayAll0 (ns.map PyData.int) = true
  | [] => rfl
  | n :: t => by simp [PyData.canLayAll0, PyData.canLay0, lay_ints t]
theorem depth_ints : ∀ ns : List Int, PyData.depthAll (ns.map PyData.int) = 0
  | [] => rfl
  | n :: t => by simp [PyData.depthAll, PyData.depth, depth_ints t]
theorem shaped_ints (ns : List Int) : SeqAt.shaped (.list (ns.map PyData.int)) = true := by
  simp [SeqAt.shaped, PyData.canLay0, PyData.depth, lay_ints, depth_ints]
theorem eqv_ints_nil (ns : List Int) : PyData.eqv (.list (ns.map PyData.int)) (.list []) = ns.isEmpty := by
  cases ns with
  | nil => rfl
  | cons n t => rfl
/-! what a draw reckons -/
theorem fm {a m : Int} (h : 0 < m) : 0 ≤ a.fmod m ∧ a.fmod m < m := ⟨Int.fmod_nonneg_of_pos _ h, Int.fmod_lt_of_pos _ h⟩
theorem pow_ok {x : Int} (j : Int) (h0 : 0 ≤ x) (h1 : x < 18446744073709551616) (j0 : 0 ≤ j) (j1 : j ≤ 1000000) : CPow x j := ⟨j0, j1, by
  have e : (2 : Nat) ^ 64 = 18446744073709551616 := by decide
  rw [e]
  omega⟩
theorem mul_okL {x y : Int} (h0 : -18446744073709551616 < x) (h1 : x < 18446744073709551616) : CMul x y := .inl ⟨by
  have e : (2 : Int) ^ 64 = 18446744073709551616 := by decide
  rw [e]
  omega, by
  have e : (2 : Int) ^ 64 = 18446744073709551616 := by decide
  rw [e]
  omega⟩
theorem mul_le {x y a b : Int} (x0 : 0 ≤ x) (xa : x ≤ a) (y0 : 0 ≤ y) (yb : y ≤ b) : 0 ≤ x * y ∧ x * y ≤ a * b :=
  ⟨Int.mul_nonneg x0 y0, Int.mul_le_mul xa yb y0 (Int.le_trans x0 xa)⟩
theorem at_fmod {ns : List Int} {i : Int} (h : ns.isEmpty = false) : ∃ z : Int, atI (ns.map V.int) (i.fmod (((ns.map V.int).length : Nat) : Int)) = some (V.int z) := by
  have hl : 0 < ns.length := by
    cases ns with
    | nil => cases h
    | cons _ _ => simp
  rw [List.length_map]
  obtain ⟨a0, a1⟩ := fm (a := i) (m := (ns.length : Int)) (by omega)
  obtain ⟨j, hj⟩ := Int.eq_ofNat_of_zero_le a0
  rw [hj] at a1 ⊢
  have hj2 : j < ns.length := by omega
  refine ⟨ns[j], atI_nat ?_⟩
  rw [List.getElem?_map, List.getElem?_eq_getElem hj2]
  rfl
theorem great_nn {z : Int} (c : decide ((10 : Int) ^ (18 : Int).toNat ≤ (if z < 0 then -z else z)) = true) : 0 ≤ 2 * ((if z < 0 then -z else z) - (10 : Int) ^ (18 : Int).toNat) + (if decide (z < 0) = true then (1 : Int) else 0) := by
  have h := of_decide_eq_true c
  generalize (10 : Int) ^ (18 : Int).toNat = t at h ⊢
  generalize (if z < 0 then -z else z) = y at h ⊢
  split <;> omega
theorem fdiv_nn {r m : Int} (h : 0 ≤ r) (hm : 0 < m) : 0 ≤ r.fdiv m := by
  rw [Int.fdiv_eq_ediv_of_nonneg _ (by omega)]
  exact Int.ediv_nonneg h (by omega)
theorem st1_nn {z i A B C : Int} (i0 : 0 ≤ i) (h : 0 < A ∧ 0 ≤ B ∧ 0 ≤ C) : 0 ≤ z.fmod A + B * i + C := by
  have a := (fm (a := z) h.1).1
  have b := Int.mul_nonneg h.2.1 i0
  omega
theorem st1_lt {z i A B C : Int} (hA : 0 < A ∧ A ≤ 4294967296) (hB : 0 ≤ B ∧ B ≤ 1000000 ∧ C ≤ 1000000) (hi : 0 ≤ i ∧ i ≤ 1000000) : z.fmod A + B * i + C < 18446744073709551616 := by
  have a := (fm (a := z) hA.1).2
  have b := (mul_le hB.1 hB.2.1 hi.1 hi.2).2
  omega
theorem st2_a {y D w : Int} (hD : 0 < D ∧ D ≤ 4294967296) : CMul (y.fmod D) w := by
  have a := fm (a := y) hD.1
  exact mul_okL (by omega) (by omega)
theorem st2_b {i F : Int} (hi : 0 ≤ i ∧ i ≤ 1000000) (hF : 0 ≤ F ∧ F ≤ 1000000) : CMul (F * i) i := by
  have b := mul_le hF.1 hF.2 hi.1 hi.2
  exact mul_okL (by omega) (by omega)
theorem st2_nn {y i D E F G : Int} (i0 : 0 ≤ i) (h : 0 < D ∧ 0 ≤ E ∧ 0 ≤ F ∧ 0 ≤ G) : 0 ≤ y.fmod D * (2 * i + E) + F * i * i + G := by
  have a := Int.mul_nonneg (fm (a := y) h.1).1 (show 0 ≤ 2 * i + E by omega)
  have b := Int.mul_nonneg (Int.mul_nonneg h.2.2.1 i0) i0
  omega
theorem st2_lt {y i D E F G : Int} (hD : 0 < D ∧ D ≤ 4294967296) (h : 0 ≤ E ∧ E ≤ 1000000 ∧ 0 ≤ F ∧ F ≤ 1000000 ∧ G ≤ 1000000) (hi : 0 ≤ i ∧ i ≤ 1000000) : y.fmod D * (2 * i + E) + F * i * i + G < 18446744073709551616 := by
  have a := fm (a := y) hD.1
  have a2 := (mul_le a.1 (show y.fmod D ≤ 4294967296 by omega) (show 0 ≤ 2 * i + E by omega) (show 2 * i + E ≤ 3000000 by omega)).2
  have b := mul_le h.2.2.1 h.2.2.2.1 hi.1 hi.2
  have b2 := (mul_le b.1 b.2 hi.1 hi.2).2
  omega
theorem p18 : CPow 10 18 := ⟨by decide, by decide, by decide⟩
/-- a pen stands at p: its cells at c, the number of the next one, what is left of a great one -/
structure PenAt (H : Hp) (p c : Addr) (ns : List Int) (i r : Int) : Prop where
  ob : H p = some (.lst [.ref c, .int i, .int r])
  ce : H c = some (.lst (ns.map V.int))
  i0 : 0 ≤ i
  r0 : 0 ≤ r
  l63 : ns.length ≤ 63
theorem PenAt.ne {H : Hp} {p c : Addr} {ns : List Int} {i r : Int} (h : PenAt H p c ns i r) : p ≠ c := fun e => by
  have a := h.ob
  rw [e, h.ce] at a
  cases ns with
  | nil => simp at a
  | cons n t => simp at a
/-- all but what stands at p stands as it stood -/
def But (p : Addr) (H H' : Hp) : Prop := ∀ b o, b ≠ p → H b = some o → H' b = some o
theorem But.refl (p : Addr) (H : Hp) : But p H H := fun _ _ _ h => h
theorem But.trans {p : Addr} {H H1 H2 : Hp} (a : But p H H1) (b : But p H1 H2) : But p H H2 := fun c o n h => b c o n (a c o n h)
theorem But.upd {p : Addr} {H H' : Hp} {o : HO} (a : But p H H') : But p H (upd H' p o) := fun c u n h => by rw [upd_ne n]; exact a c u n h
theorem But.new {p l : Addr} {H H' : Hp} {o : HO} (a : But p H H') (hl : H' l = none) : But p H (L2.upd H' l o) := fun c u n h => by
  have z := a c u n h
  rw [upd_ne (ne_of_none z hl)]
  exact z
theorem But.same {p : Addr} {H H' : Hp} (a : Same H H') : But p H H' := fun c o _ h => a c o h
theorem PenAt.next {H H' : Hp} {p c : Addr} {ns : List Int} {i r i' r' : Int} (h : PenAt H p c ns i r) (b : But p H H') (o : H' p = some (.lst [.ref c, .int i', .int r'])) (i0 : 0 ≤ i') (r0 : 0 ≤ r') : PenAt H' p c ns i' r' :=
  ⟨o, b _ _ h.ne.symm h.ce, i0, r0, h.l63⟩
/-- a draw below m: a number, and the pen behind -/
def spDraw : Sp := fun vs H Q _ => ∃ (p c : Addr) (ns : List Int) (i r m : Int), vs = [.ref p, .int m] ∧ PenAt H p c ns i r ∧ 0 < m ∧ m < 1073741824 ∧ i ≤ 1000000 ∧
  ∀ (d i' r' : Int) (H' : Hp), 0 ≤ d → d < m → i ≤ i' → i' ≤ i + 1 → PenAt H' p c ns i' r' → But p H H' → Q (.int d) H'
structure TxtB (mg : Str → Option Value) : Prop where
  len : mg "len" = none
  abs : mg "abs" = none
  int : mg "int" = none
  list : mg "list" = none
/-- the turn behind a pen's end, at the same pen -/
theorem upd2 {H : Hp} {p : Addr} {o u : HO} : upd (upd H p o) p u = upd H p u := upd_upd
end Lw
end
section
set_option maxRecDepth 100000
set_option maxHeartbeats 4000000
/-! An own exception class over ValueError, called with arguments of both kinds: the exception as a value. -/
namespace PySem
namespace LwX
open PySem.W PySem.Calls PyProof.Rows PySem.HandSPX
section
variable {M : Model} {A : Around} {E : Value → Shared → Prop} {h : Heap} {g : Array GenState} {d : Drawn} {t : Nat} {os : OsState}
variable {nm q : Str} {C N : Addr} {bs bm bmB : List Value} {hdct : Bool} {sn : List Str} {sub : List Value} {ab : Bool} {col : Option Bool} {dd : Option Addr} {k0 k1 k2 k3 k5 : Option Value} {B newId initId : String}
theorem kwCheckNew (F : ExcBaseFacts B newId initId bmB) (hT : ∀ X : String, bm.contains (.type X) = bmB.contains (.type X))
    {l : List Value} {kw : List (Str × Value)} {Q : Unit → Shared → Prop}
    (hC : h.get? C = some (excClassObj nm q C N bs bm hdct sn sub ab col dd k0 k1 k2 k3 k5 newId))
    (hq : Q () ⟨h, g, d, t, os⟩) :
    wpAny M A (checkBuiltinCall newId ⟨.ref C :: l, kw⟩) Q E ⟨h, g, d, t, os⟩ := by
  have a1 := F.noStar
  have a2 : (Value.ref C :: bm).contains (.type B) = true := by
    rw [List.contains_cons, hT B, F.hasB]
    exact Bool.or_true _
  simp only [checkBuiltinCall, F.newRow, F.newSplit, F.newKind]
  repeat (first
    | refine wpAny_loadPart_at hC ?_
    | (refine wpAny_isSubtype_exc hC ?_; rw [a2])
    | refine wpAny_staticBase_exc hC ?_
    | refine wpAny_madeBy_exc hC ?_
    | simp only [Bool.false_eq_true, bne_self_eq_false, if_false]
    | wp_step)
  exact hq
theorem kwCheckCall {l : List Value} {kw : List (Str × Value)} {Q : Unit → Shared → Prop} (hC : h.get? C = some (excClassObj nm q C N bs bm hdct sn sub ab col dd k0 k1 k2 k3 k5 newId))
    (hq : Q () ⟨h, g, d, t, os⟩) : wpAny M A (checkBuiltinCall "type.__call__" ⟨.ref C :: l, kw⟩) Q E ⟨h, g, d, t, os⟩ := by
  have z := tc_sub
  have ty : (⟨h, g, d, t, os⟩ : Shared).TypeIs (.ref C) "type" := ⟨_, hC, rfl⟩
  simp only [checkBuiltinCall, tc_split, tc_kind]
  repeat (any_goals (first | assumption | with_reducible refine wpAny_loadPart_at hC ?_ | with_reducible refine wpAny_onRaise ?_ | with_reducible refine wpAny_map ?_ | wp_step))
end
section
variable {prog : Program} {w : World} {A : Around} {E : Value → Shared → Prop} {R : Result → Shared → Prop} {h : Heap} {g : Array GenState} {d : Drawn} {t : Nat} {os : OsState}
variable {nm q : Str} {C N : Addr} {bs bm bmB : List Value} {hdct : Bool} {sn : List Str} {sub : List Value} {ab : Bool} {col : Option Bool} {dd : Option Addr} {k0 k1 k2 k3 k5 : Option Value} {B newId initId : String}
theorem kwNew (F : ExcBaseFacts B newId initId bmB) (hT : ∀ X : String, bm.contains (.type X) = bmB.contains (.type X)) {l : List Value} {kw : List (Str × Value)}
    (hC : h.get? C = some (excClassObj nm q C N bs bm hdct sn sub ab col dd k0 k1 k2 k3 k5 newId)) (hl : l.length ≤ sizeLine)
    (hq : R (.ok (.ret (.ref (h.objs.size + 1)))) ⟨(h.push (W.kdv_tup l)).push (excO C h.objs.size), g, d, t, os⟩) :
    codeAny (model prog w) A (.builtin newId ⟨.ref C :: l, kw⟩) R ⟨h, g, d, t, os⟩ := by
  have z0 := F.ends
  have y1 : (Value.ref C :: bm).contains (.type B) = true := by
    rw [List.contains_cons, hT B, F.hasB]
    exact Bool.or_true _
  have y2 : (Value.ref C :: bm).contains (.type "AttributeError") = false := by
    rw [List.contains_cons, hT, F.noAttr]
    rfl
  have y3 : (Value.ref C :: bm).contains (.type "NameError") = false := by
    rw [List.contains_cons, hT, F.noName]
    rfl
  refine codeAny_builtinAt F.entry ?_
  unfold Builtin.«BaseException.__new__»
  refine wpAt_bind ?_
  show wpAt _ _ _ (stack >>= _) _ _ _
  refine wpAt_bind (wpAt_stack fun p below => wpAt_of_wpAny ?_)
  wp_walk
  refine wpAt_of_wpAny ?_
  rw [F.owner]
  repeat (first
    | with_reducible refine wpAny_madeHere_exc F.canon hC ?_
    | with_reducible refine wpAny_loadPart_at hC ?_
    | (with_reducible refine wpAny_isSubtype_exc hC ?_; first | rw [y1] | rw [y2] | rw [y3])
    | wp_step)
  show R _ _
  rw [Heap.size_push]
  exact hq
theorem kwTypeCall (F : ExcBaseFacts B newId initId bmB) (hT : ∀ X : String, bm.contains (.type X) = bmB.contains (.type X)) {l : List Value} {kw : List (Str × Value)} {fI : Addr} {Q : Fin → Shared → Prop}
    (hC : h.get? C = some (excClassObj nm q C N bs bm hdct sn sub ab col dd k0 k1 k2 k3 k5 newId)) (hi : W.Looks (model prog w) h (typeLookup (.ref C) "__init__") (some (.ref fI)))
    (hb : ∀ self, W.Looks (model prog w) h (bindSpecial (.ref fI) self) (.ref fI, [self])) (hl : l.length ≤ sizeLine)
    (hq : codeAny (model prog w) A (.call (.ref fI) ⟨.ref (h.objs.size + 1) :: l, kw⟩)
      (fun r s' => match r with
        | .ok (.ret v) => v = .none ∧ Q (.done (.ret (.ref (h.objs.size + 1)))) s'
        | .ok _ => False
        | .error e => E e s')
      ⟨(h.push (W.kdv_tup l)).push (excO C h.objs.size), g, d, t, os⟩) :
    wpAny (model prog w) A (Builtin.«type.__call__» ⟨.ref C :: l, kw⟩) Q E ⟨h, g, d, t, os⟩ := by
  repeat (first
    | with_reducible refine wpAny_loadPart_at hC ?_
    | with_reducible refine wpAny_madeBy_exc hC ?_
    | wp_step)
  refine codeAny_call_builtin_code (Code.quiet_builtin _ F.quiet) (kwCheckNew F hT hC ?_)
  refine kwNew F hT hC hl ?_
  show wpAny _ _ _ _ _ _
  have kp : ∀ b o, h.get? b = some o → ((h.push (W.kdv_tup l)).push (excO C h.objs.size)).get? b = some o := fun b o e =>
    Heap.get?_push_of_some _ (Heap.get?_push_of_some _ e)
  have hC2 := kp _ _ hC
  have he : ((h.push (W.kdv_tup l)).push (excO C h.objs.size)).get? (h.objs.size + 1) = some (excO C h.objs.size) := by heap_get
  have sub2 : (Value.ref C :: bm).contains (.ref C) = true := by simp
  have i2 := hi.keeps kp
  have b2 := (hb (.ref (h.objs.size + 1))).keeps kp
  unfold isInstance
  repeat (first
    | with_reducible refine wpAny_loadPart_at he ?_
    | (with_reducible refine wpAny_isSubtype_exc hC2 ?_; rw [sub2])
    | wp_step)
  show wpAny _ _ (typeLookup (.ref C) _) _ _ _
  refine i2.at ?_
  refine wpAny_holding (wpAny_bind (b2.at ?_))
  refine wpAny_bind (wpAny_call (codeAny_mono hq fun r s' z => ?_))
  rcases r with e | (v | _ | _ | _) <;> first | exact z.elim | exact z | skip
  obtain ⟨rfl, z2⟩ := z
  first
    | exact wpAny_pure (wpAny_pure z2)
    | (wp_walk; exact z2)
/-- C(.., ..): the new object, then the own __init__ -/
theorem kwCall (F : ExcBaseFacts B newId initId bmB) (hT : ∀ X : String, bm.contains (.type X) = bmB.contains (.type X)) {l : List Value} {kw : List (Str × Value)} {fI : Addr}
    (hC : h.get? C = some (excClassObj nm q C N bs bm hdct sn sub ab col dd k0 k1 k2 k3 k5 newId)) (hi : W.Looks (model prog w) h (typeLookup (.ref C) "__init__") (some (.ref fI)))
    (hb : ∀ self, W.Looks (model prog w) h (bindSpecial (.ref fI) self) (.ref fI, [self])) (hl : l.length ≤ sizeLine)
    (hq : codeAny (model prog w) (A.under (.builtin "type.__call__" ⟨.ref C :: l, kw⟩)) (.call (.ref fI) ⟨.ref (h.objs.size + 1) :: l, kw⟩) (W.InitBack (h.objs.size + 1) R)
      ⟨(h.push (W.kdv_tup l)).push (excO C h.objs.size), g, d, t, os⟩) :
    codeAny (model prog w) A (.call (.ref C) ⟨l, kw⟩) R ⟨h, g, d, t, os⟩ := by
  have z1 := tc_bind (.ref C)
  have z2 := tc_lookup
  have ty : (⟨h, g, d, t, os⟩ : Shared).TypeIs (.ref C) "type" := ⟨_, hC, rfl⟩
  refine codeAny_of_tree ?_
  show wpAny _ _ (callAny (.ref C) _) _ _ _
  repeat (any_goals (first | assumption | with_reducible refine wpAny_loadPart_at hC ?_ | wp_step))
  refine ⟨rfl, ?_⟩
  refine codeAny_call_builtin_at (Code.quiet_builtin _ (by decide +kernel)) entry_typeCall (kwCheckCall hC (kwTypeCall F hT hC hi hb hl ?_))
  refine codeAny_mono hq fun r s' z => ?_
  rcases r with e | (v | _ | _ | _) <;> exact z
end
end LwX
end PySem
end
section
set_option maxRecDepth 100000
set_option maxHeartbeats 4000000
namespace Lw
open PySem PySem.Spec PyProof.Rows L2
theorem Same.new {H : Hp} {l : Addr} {o : HO} (h : H l = none) : Same H (upd H l o) := fun b u e => by
  rw [upd_ne (ne_of_none e h)]
  exact e
/-- what the written part says of an own exception class over ValueError -/
structure ExK (K : PySem.W.Frag) (C : Addr) : Prop extends OexC K C, ExcC K C
section
variable {X : Cx} {CX : CXT} {k : Nat} {C fI : Addr} {fd : FuncData} {ps : List Str} {sp : Sp}
/-- the call of such a class: a new exception, then its own __init__ -/
theorem run_exc {pins : List (Addr × Obj)} {σ : L2.St} {H : Hp} {s : Shared} {Q : VK} {us all : List Value} {kw : List (Str × Value)} {zs : List V} (T : OexC X.K C)
    (iC : PySem.W.findIn X.K (.ref C) "__init__" = some (some (.ref fI))) (tI : PySem.W.typeIn X.K (.ref fI) = some (.type "function")) (G : FnOk X.prog X.w X.K X.mg X.base CX k fI fd ps sp)
    (hr : Room (k + 1) X.A) (hx : Passes CX X (fun _ _ _ => False)) (I : Inv X pins σ H s) (hus : us.length ≤ sizeLine) (rz : Vals zs all)
    (bt : ∀ (s' : Shared) (a : Addr), X.K.In s'.heap → BindsTo s' fd ⟨.ref a :: us, kw⟩ (ps.zip (.ref a :: all)))
    (h : ∀ a, H a = none → sp (.ref a :: zs) (upd H a (exo a C none)) (fun v H2 => v = .non ∧ Q (.ref a) H2) (fun _ _ _ => False)) :
    wpAny (model X.prog X.w) X.A (call (.ref C) us kw) (EP X pins σ Q) X.xe s := by
  obtain ⟨nm, q, N, bs, bm, sn, sub, ab, col, dd, k0, k1, k2, k3, k5, hC, hbm⟩ := T.cls
  obtain ⟨hp, g, dr, tk, os⟩ := s
  have big : hp.objs.size ≤ hp.objs.size + 1 := Nat.le_succ _
  have free : H (hp.objs.size + 1) = none := I.hok.fresh big
  have hq := h (hp.objs.size + 1) free
  have kp : ∀ b o, hp.get? b = some o → ((hp.push (PySem.W.kdv_tup us)).push (PySem.HandSPX.excO C hp.objs.size)).get? b = some o := fun b o e =>
    Heap.get?_push_of_some _ (Heap.get?_push_of_some _ e)
  have he : ((hp.push (PySem.W.kdv_tup us)).push (PySem.HandSPX.excO C hp.objs.size)).get? (hp.objs.size + 1) = some (PySem.HandSPX.excO C hp.objs.size) := by heap_get
  have J : Inv X pins σ (upd H (hp.objs.size + 1) (exo (hp.objs.size + 1) C none)) ⟨(hp.push (PySem.W.kdv_tup us)).push (PySem.HandSPX.excO C hp.objs.size), g, dr, tk, os⟩ :=
    I.laid (t' := tk) (a := hp.objs.size + 1) (o := exo (hp.objs.size + 1) C none) (h' := (hp.push (PySem.W.kdv_tup us)).push (PySem.HandSPX.excO C hp.objs.size)) kp big (exo_ok he)
  have rv : Vals (V.ref (hp.objs.size + 1) :: zs) (Value.ref (hp.objs.size + 1) :: all) := .cons rfl rz
  refine wpAny_call (PySem.LwX.kwCall F.excBase_ValueError (fun Y => PySem.HandSPX.refsVE_contains Y bm hbm) (I.kIn _ _ hC) (PySem.W.looks_findIn I.kIn iC) (fun self => PySem.W.bind_fn I.kIn self tI) hus
    (codeAny_mono (G.run _ X.stack _ _ ⟨Value.ref (hp.objs.size + 1) :: us, kw⟩ (Value.ref (hp.objs.size + 1) :: all) _ _ (fun _ _ _ => False) (hr.make C us kw) (J.env0.make C us kw) (bt _ _ J.kIn) rv hq) fun r s' z => ?_))
  cases r with
  | error er => exact hx pins σ _ _ er s' J z
  | ok fl =>
    cases fl with
    | ret u =>
      obtain ⟨v, H', I3, r3, ev, q3⟩ := J.after z
      subst ev
      exact ⟨r3, ⟨V.ref (hp.objs.size + 1), H', I3, rfl, q3⟩⟩
    | next => exact False.elim z
    | brk => exact False.elim z
    | cont => exact False.elim z
end

/-! ### the own __init__ that stores its arguments -/
/-- __init__(self, f): self.f = f -/
def spI1 (C : Addr) (f : Str) : Sp := fun vs H Q _ => ∃ (a : Addr) (v : V), vs = [.ref a, v] ∧ H a = some (exo a C none) ∧ ∀ d, H d = none → d ≠ a → Q .non (upd (upd H d (exd d [(f, v)])) a (exo a C (some d)))
/-- __init__(self, f, g): self.f = f; self.g = g -/
def spI2 (C : Addr) (f g : Str) : Sp := fun vs H Q _ => ∃ (a : Addr) (v u : V), vs = [.ref a, v, u] ∧ H a = some (exo a C none) ∧ ∀ d, H d = none → d ≠ a → Q .non (upd (upd (upd H d (exd d [(f, v)])) a (exo a C (some d))) d (exd d [(g, u), (f, v)]))
/-- a made exception: its class, its fields; all that stood stands -/
def Made (C : Addr) (fs : List (Str × V)) (H H2 : Hp) (a d : Addr) : Prop := Same H H2 ∧ H2 a = some (exo a C (some d)) ∧ H2 d = some (exd d fs)
theorem made1 {C a d : Addr} {f : Str} {v : V} {H : Hp} (ha : H a = none) (hd : upd H a (exo a C none) d = none) (ne : d ≠ a) :
    Made C [(f, v)] H (upd (upd (upd H a (exo a C none)) d (exd d [(f, v)])) a (exo a C (some d))) a d := by
  refine ⟨fun b o e => ?_, upd_same, by rw [upd_ne ne]; exact upd_same⟩
  have n1 : b ≠ a := ne_of_none e ha
  have n2 : b ≠ d := by
    refine ne_of_none (H := upd H a (exo a C none)) (o := o) ?_ hd
    rw [upd_ne n1]
    exact e
  rw [upd_ne n1, upd_ne n2, upd_ne n1]
  exact e
theorem made2 {C a d : Addr} {f g : Str} {v u : V} {H : Hp} (ha : H a = none) (hd : upd H a (exo a C none) d = none) (ne : d ≠ a) :
    Made C [(g, u), (f, v)] H (upd (upd (upd (upd H a (exo a C none)) d (exd d [(f, v)])) a (exo a C (some d))) d (exd d [(g, u), (f, v)])) a d := by
  obtain ⟨s1, s2, _⟩ := made1 (f := f) (v := v) ha hd ne
  refine ⟨fun b o e => ?_, by rw [upd_ne ne.symm]; exact s2, upd_same⟩
  have n1 : b ≠ a := ne_of_none e ha
  have n2 : b ≠ d := by
    refine ne_of_none (H := upd H a (exo a C none)) (o := o) ?_ hd
    rw [upd_ne n1]
    exact e
  rw [upd_ne n2]
  exact s1 b o e
/-- what is told of a new exception of C with n arguments: vs in the order of the parameters -/
def Exc1 (C : Addr) (f : Str) (vs : List V) (H : Hp) (Q : VK) : Prop := ∃ v, vs = [v] ∧ ∀ a d H2, Made C [(f, v)] H H2 a d → Q (.ref a) H2
def Exc2 (C : Addr) (f g : Str) (vs : List V) (H : Hp) (Q : VK) : Prop := ∃ v u, vs = [v, u] ∧ ∀ a d H2, Made C [(g, u), (f, v)] H H2 a d → Q (.ref a) H2
/-- an own exception class with its own __init__ of one field -/
structure Cl1 (P : Program) (w : World) (K : PySem.W.Frag) (mg : Str → Option Value) (base : Heap) (nm f : Str) (C fI : Addr) (fd : FuncData) : Prop extends ExK K C where
  gl : mg nm = some (.ref C)
  ini : PySem.W.findIn K (.ref C) "__init__" = some (some (.ref fI))
  typ : PySem.W.typeIn K (.ref fI) = some (.type "function")
  fn : FnOk P w K mg base CX0 1 fI fd ["self", f] (spI1 C f)
  bp : ∀ (s : Shared) (x v : Value), BindsTo s fd ⟨[x, v], []⟩ [("self", x), (f, v)]
  bk : ∀ (s : Shared) (x v : Value), BindsTo s fd ⟨[x], [(f, v)]⟩ [("self", x), (f, v)]
  no : PySem.W.findIn K (.ref C) f = some none
structure Cl2 (P : Program) (w : World) (K : PySem.W.Frag) (mg : Str → Option Value) (base : Heap) (nm f g : Str) (C fI : Addr) (fd : FuncData) : Prop extends ExK K C where
  gl : mg nm = some (.ref C)
  ini : PySem.W.findIn K (.ref C) "__init__" = some (some (.ref fI))
  typ : PySem.W.typeIn K (.ref fI) = some (.type "function")
  fn : FnOk P w K mg base CX0 1 fI fd ["self", f, g] (spI2 C f g)
  bp : ∀ (s : Shared) (x v u : Value), BindsTo s fd ⟨[x, v, u], []⟩ [("self", x), (f, v), (g, u)]
  bk : ∀ (s : Shared) (x v u : Value), BindsTo s fd ⟨[x], [(f, v), (g, u)]⟩ [("self", x), (f, v), (g, u)]
  bq : ∀ (s : Shared) (x v u : Value), BindsTo s fd ⟨[x], [(g, u), (f, v)]⟩ [("self", x), (f, v), (g, u)]
  no : PySem.W.findIn K (.ref C) f = some none
  no2 : PySem.W.findIn K (.ref C) g = some none
section
variable {X : Cx} {C fI : Addr} {fd : FuncData} {nm f g : Str} {e : Expr} {es : List Expr} {kws : List Keyword} {t tk : TA} {p pos : Pos}
theorem big2 {l : List V} {us : List Value} (r : Vals l us) (h : l.length ≤ 2) : us.length ≤ sizeLine := by
  rw [← Paired.length r, sizeLine_eq]
  omega
/-- C(e) -/
theorem pe_e1 (T : Cl1 X.prog X.w X.K X.mg X.base nm f C fI fd) (hr : Room 2 X.A) (hg : Gl X nm) (hx : Passes CX0 X (fun _ _ _ => False)) (ha : PA X (e :: es) t)
    (hdb : (nm == ("__debug__" : Str)) = false := by decide) (he : starEach (e :: es) X.env = (false, eval e X.env) :: starEach es X.env := by rfl) (hpl : (backTo pos (starEach es X.env)).any (·.1) = false := by rfl) :
    PE X (.Call (.Name nm p) (e :: es) [] pos) (fun σ H Q => t σ H fun vs H1 => Exc1 C f vs H1 Q) := by
  refine ⟨fun pins s σ H Q I h => ?_⟩
  refine wpAny_Call_Name_kw (ld_glob I hg T.gl ?_ hdb)
  refine PySem.W.callWith_K (h₀ := X.base) I.ok.mod.kin T.kC (thn (ha.run pos pins s σ H _ I h) fun us s1 ⟨vs, H1, I1, r, v, ev, q⟩ => ⟨I1.kIn, ?_⟩) he hpl
  subst ev
  have hz := big2 r (by simp)
  obtain ⟨u, rfl, ru⟩ := vals1 r
  refine run_exc (all := [u]) (zs := [v]) T.toOexC T.ini T.typ T.fn hr hx I1 hz (.cons ru .nil) (fun s' a _ => T.bp s' (.ref a) u) fun a na => ?_
  exact ⟨a, v, rfl, upd_same, fun d nd ne => ⟨rfl, q a d _ (made1 na nd ne)⟩⟩
/-- C(f=e) -/
theorem pe_e1k (T : Cl1 X.prog X.w X.K X.mg X.base nm f C fI fd) (hr : Room 2 X.A) (hg : Gl X nm) (hx : Passes CX0 X (fun _ _ _ => False)) (hkw : PK X kws tk)
    (hall : (backToKw pos (keywordEach kws X.env)).all (·.1.isSome) = true := by rfl) (hks : (backToKw pos (keywordEach kws X.env)).filterMap (·.1) = [f] := by rfl) (hdb : (nm == ("__debug__" : Str)) = false := by decide)
    (hpl : ((backTo pos (starEach [] X.env)).any (·.1) || (backToKw pos (keywordEach kws X.env)).any (·.1.isNone)) = false := by rfl) :
    PE X (.Call (.Name nm p) [] kws pos) (fun σ H Q => tk σ H fun vs H1 => Exc1 C f vs H1 Q) := by
  refine ⟨fun pins s σ H Q I h => ?_⟩
  refine wpAny_Call_Name_kw (ld_glob I hg T.gl ?_ hdb)
  refine PySem.W.callWith_KW0 (h₀ := X.base) I.ok.mod.kin T.kC hall ?_ hpl
  refine thn (hkw.run pos pins s σ H _ I h) fun ws s1 ⟨vs, H1, I1, r, v, ev, q⟩ => ⟨I1.kIn, ?_⟩
  rw [hks]
  subst ev
  obtain ⟨u, rfl, ru⟩ := vals1 r
  refine run_exc (us := []) (kw := [(f, u)]) (all := [u]) (zs := [v]) T.toOexC T.ini T.typ T.fn hr hx I1 (Nat.zero_le _) (.cons ru .nil) (fun s' a _ => T.bk s' (.ref a) u) fun a na => ?_
  exact ⟨a, v, rfl, upd_same, fun d nd ne => ⟨rfl, q a d _ (made1 na nd ne)⟩⟩
/-- C(e, e') -/
theorem pe_e2 (T : Cl2 X.prog X.w X.K X.mg X.base nm f g C fI fd) (hr : Room 2 X.A) (hg : Gl X nm) (hx : Passes CX0 X (fun _ _ _ => False)) (ha : PA X (e :: es) t)
    (hdb : (nm == ("__debug__" : Str)) = false := by decide) (he : starEach (e :: es) X.env = (false, eval e X.env) :: starEach es X.env := by rfl) (hpl : (backTo pos (starEach es X.env)).any (·.1) = false := by rfl) :
    PE X (.Call (.Name nm p) (e :: es) [] pos) (fun σ H Q => t σ H fun vs H1 => Exc2 C f g vs H1 Q) := by
  refine ⟨fun pins s σ H Q I h => ?_⟩
  refine wpAny_Call_Name_kw (ld_glob I hg T.gl ?_ hdb)
  refine PySem.W.callWith_K (h₀ := X.base) I.ok.mod.kin T.kC (thn (ha.run pos pins s σ H _ I h) fun us s1 ⟨vs, H1, I1, r, v, v2, ev, q⟩ => ⟨I1.kIn, ?_⟩) he hpl
  subst ev
  have hz := big2 r (by simp)
  obtain ⟨u, u2, rfl, ru, ru2⟩ := vals2 r
  refine run_exc (all := [u, u2]) (zs := [v, v2]) T.toOexC T.ini T.typ T.fn hr hx I1 hz (.cons ru (.cons ru2 .nil)) (fun s' a _ => T.bp s' (.ref a) u u2) fun a na => ?_
  exact ⟨a, v, v2, rfl, upd_same, fun d nd ne => ⟨rfl, q a d _ (made2 na nd ne)⟩⟩
/-- C(g=e', f=e) -/
theorem pe_e2q (T : Cl2 X.prog X.w X.K X.mg X.base nm f g C fI fd) (hr : Room 2 X.A) (hg : Gl X nm) (hx : Passes CX0 X (fun _ _ _ => False)) (hkw : PK X kws tk)
    (hall : (backToKw pos (keywordEach kws X.env)).all (·.1.isSome) = true := by rfl) (hks : (backToKw pos (keywordEach kws X.env)).filterMap (·.1) = [g, f] := by rfl) (hdb : (nm == ("__debug__" : Str)) = false := by decide)
    (hpl : ((backTo pos (starEach [] X.env)).any (·.1) || (backToKw pos (keywordEach kws X.env)).any (·.1.isNone)) = false := by rfl) :
    PE X (.Call (.Name nm p) [] kws pos) (fun σ H Q => tk σ H fun vs H1 => ∃ u v, vs = [u, v] ∧ ∀ a d H2, Made C [(g, u), (f, v)] H1 H2 a d → Q (.ref a) H2) := by
  refine ⟨fun pins s σ H Q I h => ?_⟩
  refine wpAny_Call_Name_kw (ld_glob I hg T.gl ?_ hdb)
  refine PySem.W.callWith_KW0 (h₀ := X.base) I.ok.mod.kin T.kC hall ?_ hpl
  refine thn (hkw.run pos pins s σ H _ I h) fun ws s1 ⟨vs, H1, I1, r, v2, v, ev, q⟩ => ⟨I1.kIn, ?_⟩
  rw [hks]
  subst ev
  obtain ⟨u2, u, rfl, ru2, ru⟩ := vals2 r
  refine run_exc (us := []) (kw := [(g, u2), (f, u)]) (all := [u, u2]) (zs := [v, v2]) T.toOexC T.ini T.typ T.fn hr hx I1 (Nat.zero_le _) (.cons ru (.cons ru2 .nil)) (fun s' a _ => T.bq s' (.ref a) u u2) fun a na => ?_
  exact ⟨a, v, v2, rfl, upd_same, fun d nd ne => ⟨rfl, q a d _ (made2 na nd ne)⟩⟩
end

/-! ### a made exception: its field; isinstance -/
section
variable {X : Cx} {e : Expr} {te : TE} {n : Str} {pos : Pos}
/-- x.n, x a made exception with a dict -/
def tEf (K : PySem.W.Frag) (n : Str) (te : TE) : TE := fun σ H Q => te σ H fun x H1 => ∃ (a C d : Addr) (fs : List (Str × V)) (v : V), x = .ref a ∧ ExK K C ∧ PySem.W.findIn K (.ref C) n = some none ∧ H1 a = some (exo a C (some d)) ∧ H1 d = some (exd d fs) ∧ fs.lookup n = some v ∧ Q v H1
theorem pe_ef (he : PE X e te) (hb : attributeBase e n X.env (eval e X.env) = eval e X.env := by rfl) : PE X (.Attribute e n pos) (tEf X.K n te) := by
  refine ⟨fun pins s σ H Q I h => ?_⟩
  refine attr_of hb (thn (he.run pins s σ H _ I h) fun u s1 hh => ?_)
  obtain ⟨x, H1, I1, rx, a, C, d, fs, v, ex, T, no, ea, ed, l, q⟩ := hh
  subst ex
  obtain rfl : u = Value.ref a := rx
  obtain ⟨t1, ho⟩ := exo_at I1.hok ea
  obtain ⟨mA, hns, hr⟩ := exd_at I1.hok ed
  obtain ⟨od, hod, hl⟩ := lookIn_ns hns
  obtain ⟨w, hw, rw'⟩ := RelO.some_of (v := v) (o := mA n) (by rw [← l]; exact hr n)
  have J : PySem.W.InstAt s1.heap a ({ cls := .ref C, dict := some d, data := .fields #[.ref t1, .none, .none, .none, .bool false, .none] } : Obj) C (some od) := ⟨ho, rfl, rfl, hod⟩
  exact PySem.HandSPX.exc_get I1.kIn J T.hg T.hk T.hs (PySem.W.findObj_own T.hd no rfl (by rw [hl, hw])) (handed_of rw') ⟨v, H1, I1.tok _, rw', q⟩
end
/-- at a stands an exception of the class at C -/
def TyE (H : Hp) (a C : Addr) : Prop := (∃ d fs, H a = some (exo a C (some d)) ∧ H d = some (exd d fs)) ∨ H a = some (ExO (.ref C) a)
/-- isinstance(x, c), x such an exception -/
def rEi (K : PySem.W.Frag) : List V → Hp → VK → Prop := fun xs H Q => ∃ (a C : Addr) (c : V) (cv : Value) (b : Bool), xs = [.ref a, c] ∧ TyE H a C ∧ ExcC K C ∧ ClsV c cv ∧ PySem.W.kitOne K (.ref C) cv = some b ∧ Q (.bl b) H
section
variable {X : Cx}
theorem call_ei : CallR X (.builtin "isinstance") (rEi X.K) := by
  intro pins s σ H xs us Q I r h
  obtain ⟨a, C, c, cv, b, rfl, ty, T, hc, e, q⟩ := h
  obtain ⟨u1, u2, rfl, r1, r2⟩ := vals2 r
  have e2 := hc.eq r2
  subst e2
  cases r1
  have hcl : (PySem.W.clsIn X.K C).isSome = true := by
    obtain ⟨cd, h1, _⟩ := PySem.W.any_some T.hd
    rw [h1]
    rfl
  rcases ty with ⟨d, fs, ea, ed⟩ | ea
  · obtain ⟨t1, ho⟩ := exo_at I.hok ea
    obtain ⟨mA, hns, _⟩ := exd_at I.hok ed
    obtain ⟨od, hod, _⟩ := lookIn_ns hns
    have J : PySem.W.InstAt s.heap a ({ cls := .ref C, dict := some d, data := .fields #[.ref t1, .none, .none, .none, .bool false, .none] } : Obj) C (some od) := ⟨ho, rfl, rfl, hod⟩
    exact PySem.W.kia_one (PySem.W.kitx_exc hcl T.hg T.hk T.hs T.ha T.hn T.ht T.hm) I.kIn J e (fun z => nomatch z) fun tk => ⟨.bl b, H, I.tok tk, rfl, q⟩
  · obtain ⟨⟨oe, vs, ho, hz, hv, _⟩, _, _⟩ := I.hok a _ ea
    have J : PySem.W.InstAt s.heap a oe C none := by
      obtain ⟨oc, od, oda, osl⟩ := oe
      obtain ⟨h1, h2⟩ := hz
      dsimp only at h1 h2 hv
      subst h1 h2 hv
      exact ⟨ho, rfl, rfl, trivial⟩
    exact PySem.W.kia_one (PySem.W.kitx_exc hcl T.hg T.hk T.hs T.ha T.hn T.ht T.hm) I.kIn J e (fun z => nomatch z) fun tk => ⟨.bl b, H, I.tok tk, rfl, q⟩
end
section
variable {X : Cx} {pos : Pos}
/-- C(), an own exception class without own __init__ -/
theorem pe_x0 {C : Addr} {bmB : List Value} {B newId initId : String} {x : Str} {p : Pos} (F : ExcBaseFacts B newId initId bmB) (q : PySem.W.excIn X.K C bmB newId = true) (gC : X.mg x = some (.ref C)) (kC : PySem.W.keepIn X.K (.ref C) = true) (hg : Gl X x)
    (hdb : (x == ("__debug__" : Str)) = false := by decide) :
    PE X (.Call (.Name x p) [] [] pos) (fun σ H Q => ∀ a H2, Same H H2 → H2 a = some (ExO (.ref C) a) → Q (.ref a) H2) := by
  refine ⟨fun pins s σ H Q I h => ?_⟩
  refine wpAny_Call_Name_kw (ld_glob I hg gC ?_ hdb)
  refine PySem.W.callWith_K0 I.kIn kC ?_
  show wpAny _ _ (call (.ref C) []) _ _ _
  obtain ⟨bm, N, nm, qn, bs, hdct, sn, sub, ab, col, dd, k0, k1, k2, k3, k5, mN, hC, hN, hni, T⟩ := exc_obj I.kIn q
  refine wpAny_call_exc_subT F T hC hN hni (fun h' a hm => ?_) (Nat.zero_le _)
  have hn : H a = none := I.hok.gone hm.new
  obtain ⟨t, ht, _, _⟩ := hm.there
  exact ⟨.ref a, upd H a (ExO (.ref C) a), I.laidN hm.keeps hm.new hn (exO_ok ht ⟨rfl, rfl⟩ rfl rfl rfl (show 4 < 6 by decide)), rfl, h a _ (Same.new hn) upd_same⟩
/-- at a: an exception of a built-in class -/
def exv (T : String) (a : Addr) : HO := .ext fun h => ∃ o, h.get? a = some o ∧ o.cls = .type T
/-- ValueError(..) as a value -/
theorem call_VE : CallR X (.type "ValueError") (fun xs H Q => xs.length ≤ 2 ∧ ∀ a H2, Same H H2 → H2 a = some (exv "ValueError" a) → Q (.ref a) H2) := by
  intro pins s σ H xs us Q I r h
  obtain ⟨hl, q⟩ := h
  obtain ⟨hp, g, d, t, os⟩ := s
  refine wpAny_call_exc PySem.F.excCall_ValueError (fun h' a hm => ?_) (big2 r hl)
  have hn : H a = none := I.hok.gone hm.new
  obtain ⟨t2, ht, _, _⟩ := hm.there
  refine ⟨.ref a, upd H a (exv "ValueError" a), I.laidN hm.keeps hm.new hn ?_, rfl, q a _ (Same.new hn) upd_same⟩
  exact ⟨⟨_, ht, rfl⟩, ⟨_, ht⟩, fun h1 h2 ⟨o, z1, z2⟩ kk => ⟨o, kk o z1, z2⟩⟩
/-- isinstance(x, c), x a ValueError -/
def rVi (K : PySem.W.Frag) : List V → Hp → VK → Prop := fun xs H Q => ∃ (a : Addr) (c : V) (cv : Value) (b : Bool), xs = [.ref a, c] ∧ H a = some (exv "ValueError" a) ∧ ClsV c cv ∧ PySem.W.kitOne K (.type "ValueError") cv = some b ∧ Q (.bl b) H
theorem call_vi : CallR X (.builtin "isinstance") (rVi X.K) := by
  intro pins s σ H xs us Q I r h
  obtain ⟨a, c, cv, b, rfl, ea, hc, e, q⟩ := h
  obtain ⟨u1, u2, rfl, r1, r2⟩ := vals2 r
  have e2 := hc.eq r2
  subst e2
  cases r1
  obtain ⟨⟨o, ho, hcl⟩, _⟩ := I.hok a _ ea
  exact PySem.W.kia_one (PySem.W.kitx_bexc PySem.F.excAttr_ValueError (by kernel_rfl) (by kernel_rfl) (by decide +kernel)) I.kIn ⟨o, ho, hcl⟩ e (fun z => nomatch z) fun tk => ⟨.bl b, H, I.tok tk, rfl, q⟩
end
end Lw
end
section
set_option maxRecDepth 100000
set_option maxHeartbeats 4000000
/-! Defs that are called where no repr is under way; repr of data. -/
namespace Lw
open PySem PySem.Spec PyProof.Rows L2
/-- what a def promises where no repr is under way -/
structure FnG (P : Program) (w : World) (K : PySem.W.Frag) (mg : Str → Option Value) (base : Heap) (CX : CXT) (k : Nat) (f : Addr) (fd : FuncData) (ps : List Str) (sp : Sp) : Prop where
  len : ∀ vs H Q E, sp vs H Q E → vs.length = ps.length
  run : ∀ (A : Around) (outer : List Env) (s : Shared) (H : Hp) (args : Args) (us : List Value) (vs : List V) (Q : VK) (E : XK), A.guards = some [] → Room k A → Env0 P w K mg base A outer s H →
    BindsTo s fd args (ps.zip us) → Vals vs us → sp vs H Q E → codeAny (model P w) A (.call (.ref f) args) (CR CX outer P w H s Q E) s
theorem FnG.of {P : Program} {w : World} {K : PySem.W.Frag} {mg : Str → Option Value} {base : Heap} {CX : CXT} {k : Nat} {f : Addr} {fd : FuncData} {ps : List Str} {sp : Sp} (F : FnOk P w K mg base CX k f fd ps sp) : FnG P w K mg base CX k f fd ps sp :=
  ⟨F.len, fun A outer s H args us vs Q E _ => F.run A outer s H args us vs Q E⟩
theorem fnG_of {CX : CXT} {P : Program} {w : World} {K : PySem.W.Frag} {mg : Str → Option Value} {base : Heap} {k : Nat} {f : Addr} {name qual : Str} {params : Arguments} {body : List Stmt} {scope : Scope} {dV kV doc pm cdv ct oc : Value} {an od : Option Addr}
    {osl : Array (Option Value)} {N ps : List Str} {sp : Sp} (hK : K.lookup f = some ⟨oc, od, .func (PySem.W.fnOf name qual params body scope dV kV doc pm an cdv ct), osl⟩) (hc : PySem.W.codeIn K cdv qual = true) (S : FnScope N ps scope)
    (len : ∀ vs H Q E, sp vs H Q E → vs.length = ps.length)
    (walk : ∀ (A : Around) (outer : List Env) (s : Shared) (H : Hp) (vs : List V) (Q : VK) (E : XK), A.guards = some [] → Room k (A.deeper (envOfC qual scope s.heap.objs.size f cdv)) → sp vs H Q E →
      ∃ t, PSs (cxOf CX P w K mg base N qual scope f cdv A outer s H E) body t ∧ t { nx := fun _ H' => Q .non H', rt := Q } (start N vs) H) :
    FnG P w K mg base CX (k + 1) f (PySem.W.fnOf name qual params body scope dV kV doc pm an cdv ct) ps sp := by
  refine ⟨len, fun A outer s H args us vs Q E hG hr e0 hb rv hs => ?_⟩
  have hn := len _ _ _ _ hs
  have kin : K.In s.heap := e0.mod.kin.keeps fun b o z => (e0.bs b o z).1
  have lim : s.heap.NoLimit := e0.mod.nolimit.keeps fun b o z => (e0.bs b o z).1
  have kinds : ∀ y ∈ ps.zip us, scope.names.lookup y.1 = some .local ∨ (scope.names.lookup y.1 = some .cell ∧ ((cellsFrom (s.heap.objs.size + 1) scope.names []).lookup y.1).isSome = true) := by
    rintro ⟨n, v⟩ hy
    have z := S.par n (List.of_mem_zip hy).1
    exact z.imp id fun q => ⟨q, PySem.W.cellsFrom_some _ _ _ (.inl q)⟩
  refine codeAny_call_function hr.depth (kin _ _ hK) rfl S.co S.gen rfl (PySem.W.codeRec_of kin hc) (hb _ _ _ _ ?_)
  refine wpAny_newFunctionEnv_cells S.kind kinds fun env he s1 x => ?_
  subst he
  refine ⟨lim.keeps x.toInCall.keep, codeAny_func ?_⟩
  obtain ⟨t, ht, hq⟩ := walk A outer s H vs Q E hG (hr.deeper _) hs
  have J : Inv (cxOf CX P w K mg base N qual scope f cdv A outer s H E) [] (start N vs) H s1 := inv_start S hr.hd e0 hn rv x
  refine wpAny_mono (ht.run [] s1 (start N vs) H _ J hq) (fun fl s' z => ?_) fun e s' z => z
  have leave : ∀ {τ : L2.St} {H' : Hp} {v : V} {u : Value}, Inv (cxOf CX P w K mg base N qual scope f cdv A outer s H E) [] τ H' s' → RelV v u → Q v H' → CE outer P w H s Q u s' :=
    fun {τ H' v u} I rr q => ⟨v, H', I.os, I.bare, I.base, I.hok, rr, q⟩
  cases fl with
  | ret u =>
    obtain ⟨v, τ, H', I, rr, q⟩ := z
    exact leave I rr q
  | next =>
    obtain ⟨τ, H', I, q⟩ := z
    exact leave (v := V.non) (u := Value.none) I rfl q
  | brk =>
    obtain ⟨_, _, _, q⟩ := z
    exact False.elim q
  | cont =>
    obtain ⟨_, _, _, q⟩ := z
    exact False.elim q
section
variable {P : Program} {w : World} {K : PySem.W.Frag} {mg : Str → Option Value} {base : Heap}
/-- the rule for a def of the text -/
theorem okG {x qual : Str} {st : Stmt} {f : Addr} {fd : FuncData} {N ps : List Str} {k : Nat} {sp : Sp} (F : Fun K x qual st f fd) (S : FnScope N ps (defScope st)) (len : ∀ vs H Q E, sp vs H Q E → vs.length = ps.length)
    (walk : ∀ (cdv : Value) (A : Around) (outer : List Env) (s : Shared) (H : Hp) (vs : List V) (Q : VK) (E : XK), (A.deeper (envOfC qual (defScope st) s.heap.objs.size f cdv)).guards = some [] → Room k (A.deeper (envOfC qual (defScope st) s.heap.objs.size f cdv)) → sp vs H Q E →
      ∃ t, PSs (cxOf CX0 P w K mg base N qual (defScope st) f cdv A outer s H E).nox (defBody st) t ∧ t { nx := fun _ H' => Q .non H', rt := Q } (start N vs) H) : FnG P w K mg base CX0 (k + 1) f fd ps sp := by
  obtain ⟨oc, od, kV, doc, pm, an, cdv, ct, osl, rfl, lk, hcd⟩ := F.ex
  refine fnG_of lk hcd S len fun A outer s H vs Q E hg hr hsp => ?_
  obtain ⟨t, h, q⟩ := walk cdv A outer s H vs Q E hg hr hsp
  exact ⟨t, h.nox, q⟩
end
section
variable {X : Cx} {CX : CXT} {k : Nat} {f : Addr} {fd : FuncData} {ps : List Str} {sp : Sp} {ds : List Value} {dvs : List V} {E : XK} {x : Str} {p pos : Pos} {e : Expr} {es : List Expr} {t : TA}
theorem run_fnG {pins : List (Addr × Obj)} {σ : L2.St} {H : Hp} {s : Shared} {Q : VK} {us : List Value} {vs : List V} (F : FnG X.prog X.w X.K X.mg X.base CX k f fd ps sp) (hG : X.A.guards = some []) (hr : Room k X.A) (hb : Binds X.K fd ps ds) (hd : Vals dvs ds)
    (hx : Passes CX X E) (I : Inv X pins σ H s) (rv : Vals vs us) (h : sp (vs ++ dvs) H Q E) : wpAny (model X.prog X.w) X.A (call (.ref f) us) (EP X pins σ Q) X.xe s := by
  have both : Vals (vs ++ dvs) (us ++ ds) := rv.append hd
  have ll : (us ++ ds).length = ps.length := both.length.symm.trans (F.len _ _ _ _ h)
  refine wpAny_call (codeAny_mono (F.run X.A X.stack s H ⟨us, []⟩ (us ++ ds) (vs ++ dvs) Q E hG hr I.env0 (hb s us I.kIn ll) both h) fun r s' z => ?_)
  cases r with
  | ok fl =>
    cases fl with
    | ret u => exact I.after z
    | next => exact False.elim z
    | brk => exact False.elim z
    | cont => exact False.elim z
  | error err => exact hx pins σ H s err s' I z
/-- f(e, ..) -/
theorem pe_callG (F : FnG X.prog X.w X.K X.mg X.base CX k f fd ps sp) (hG : X.A.guards = some []) (hr : Room k X.A) (hg : Gl X x) (hm : X.mg x = some (.ref f)) (hk : PySem.W.keepIn X.K (.ref f) = true) (hb : Binds X.K fd ps ds) (hd : Vals dvs ds) (hx : Passes CX X E)
    (ha : PA X (e :: es) t) (hdb : (x == ("__debug__" : Str)) = false := by decide) (he : starEach (e :: es) X.env = (false, eval e X.env) :: starEach es X.env := by rfl) (hpl : (backTo pos (starEach es X.env)).any (·.1) = false := by rfl) :
    PE X (.Call (.Name x p) (e :: es) [] pos) (tCall sp dvs E t) := ⟨fun pins s σ H Q I h => by
  refine wpAny_Call_Name_kw (ld_glob I hg hm ?_ hdb)
  exact PySem.W.callWith_K (h₀ := X.base) I.ok.mod.kin hk (thn (ha.run pos pins s σ H _ I h) fun us s1 ⟨vs, H1, I1, r, q⟩ => ⟨I1.kIn, run_fnG F hG hr hb hd hx I1 r q⟩) he hpl⟩
end

/-! ### data, dicts with written keys among them -/
def keyD : Key → PyData
  | .inl i => .int i
  | .inr s => .str s
mutual
inductive Da (K : PySem.W.Frag) (H : Hp) : V → PyData → Prop
  | non : Da K H .non .none
  | bl (b : Bool) : Da K H (.bl b) (.bool b)
  | int (i : Int) : Da K H (.int i) (.int i)
  | str (x : Str) : Da K H (.str x) (.str x)
  | lst {a : Addr} {xs : List V} {ds : List PyData} : H a = some (.lst xs) → DaAll K H xs ds → Da K H (.ref a) (.list ds)
  | tup {a : Addr} {xs : List V} {ds : List PyData} : H a = some (.tup xs) → DaAll K H xs ds → Da K H (.ref a) (.tuple ds)
  | dic {a : Addr} {kvs : List (Key × V)} {ds : List PyData} : H a = some (.dK kvs) → DaAll K H (kvs.map (·.2)) ds → Da K H (.ref a) (.dict ((kvs.map fun p => keyD p.1).zip ds))
inductive DaAll (K : PySem.W.Frag) (H : Hp) : List V → List PyData → Prop
  | nil : DaAll K H [] []
  | cons {v : V} {vs : List V} {d : PyData} {ds : List PyData} : Da K H v d → DaAll K H vs ds → DaAll K H (v :: vs) (d :: ds)
end
mutual
theorem Da.keep {K : PySem.W.Frag} {H H' : Hp} (s : Same H H') : ∀ {v : V} {d : PyData}, Da K H v d → Da K H' v d
  | _, _, .non => .non
  | _, _, .bl b => .bl b
  | _, _, .int i => .int i
  | _, _, .str x => .str x
  | _, _, .lst h a => .lst (s _ _ h) (DaAll.keep s a)
  | _, _, .tup h a => .tup (s _ _ h) (DaAll.keep s a)
  | _, _, .dic h a => .dic (s _ _ h) (DaAll.keep s a)
theorem DaAll.keep {K : PySem.W.Frag} {H H' : Hp} (s : Same H H') : ∀ {vs : List V} {ds : List PyData}, DaAll K H vs ds → DaAll K H' vs ds
  | _, _, .nil => .nil
  | _, _, .cons h t => .cons (Da.keep s h) (DaAll.keep s t)
end
theorem DaAll.length {K : PySem.W.Frag} {H : Hp} : ∀ {vs : List V} {ds : List PyData}, DaAll K H vs ds → vs.length = ds.length
  | _, _, .nil => rfl
  | _, _, .cons _ t => congrArg Nat.succ t.length
theorem zip_fst {α β : Type} : ∀ {l : List α} {m : List β}, l.length = m.length → (l.zip m).map (·.1) = l
  | [], _, _ => by simp
  | a :: l, [], h => by cases h
  | a :: l, b :: m, h => by simp [zip_fst (Nat.succ.inj h)]
theorem zip_snd {α β : Type} : ∀ {l : List α} {m : List β}, l.length = m.length → (l.zip m).map (·.2) = m
  | [], [], _ => rfl
  | [], b :: m, h => by cases h
  | a :: l, [], h => by cases h
  | a :: l, b :: m, h => by simp [zip_snd (Nat.succ.inj h)]
section
variable {X : Cx} {pins : List (Addr × Obj)} {σ : L2.St} {H : Hp} {s : Shared}
theorem read_key {h : Heap} {k : Key} {v : Value} (e : keyIs k v = true) : Reads h v (keyD k) [] := by
  rcases keyIs_shape e with ⟨i, t, rfl, rfl⟩ | ⟨x, t, rfl, rfl⟩
  · exact Reads.int i t
  · exact Reads.str x t
theorem reads_keys {prog : Program} {w : World} {h : Heap} : ∀ {es : List DictEntry} {vs : List (Key × Value)} {kvs : List (Key × V)}, Pairs (mixKind prog w) es vs → KV kvs vs →
    ReadsAll h (es.map (·.key)) (kvs.map fun p => keyD p.1) [] ∧ Vals (kvs.map (·.2)) (es.map (·.val)) := by
  intro es vs kvs hp
  induction hp generalizing kvs with
  | nil =>
    intro r
    cases r
    exact ⟨.nil, .nil⟩
  | cons h1 h2 _ ih =>
    intro r
    cases r with
    | cons a b =>
      obtain ⟨q1, q2⟩ := ih b
      obtain ⟨e1, e2⟩ := a
      refine ⟨?_, .cons (by dsimp only; rw [h2]; exact e2) q2⟩
      refine ReadsAll.cons (as := []) (bs := []) ?_ q1
      dsimp only
      rw [e1]
      exact read_key h1
mutual
theorem Da.reads (I : Inv X pins σ H s) : ∀ (v : V) (d : PyData) (u : Value), Da X.K H v d → RelV v u → ∃ as, Reads s.heap u d as ∧ ∀ b ∈ as, H b ≠ none
  | _, _, _, .non, r => by
    cases r
    exact ⟨_, Reads.none, fun b z => nomatch z⟩
  | _, _, _, .bl b, r => by
    cases r
    exact ⟨_, Reads.bool b, fun b z => nomatch z⟩
  | _, _, _, .int i, r => by
    obtain ⟨t, rfl⟩ := r
    exact ⟨_, Reads.int i t, fun b z => nomatch z⟩
  | _, _, _, .str x, r => by
    obtain ⟨t, rfl⟩ := r
    exact ⟨_, Reads.str x t, fun b z => nomatch z⟩
  | _, _, _, .lst (a := a) h ha, r => by
    cases r
    obtain ⟨its, rv, ⟨o, n, ho, hc, _, hd⟩, _⟩ := I.list (SqL.of h)
    obtain ⟨as, hr, hn⟩ := DaAll.reads I _ _ its ha rv
    refine ⟨_, Reads.list ho hc hd hr, fun b z => ?_⟩
    rcases List.mem_cons.mp z with e | z
    · rw [e, h]
      exact fun y => nomatch y
    · exact hn b z
  | _, _, _, .tup (a := a) h ha, r => by
    cases r
    obtain ⟨its, rv, ⟨o, ho, hc, n, hd⟩, _⟩ := I.tuple (SqT.of h)
    obtain ⟨as, hr, hn⟩ := DaAll.reads I _ _ its ha rv
    exact ⟨_, Reads.tuple ho hc hd hr, hn⟩
  | _, _, _, .dic (a := a) (kvs := kvs) (ds := ds) h ha, r => by
    cases r
    obtain ⟨_, _, vs, rel, o, es, ep, ho, hx, hd, _, hp, _⟩ := dk_of I.hok h
    obtain ⟨q1, q2⟩ := reads_keys (h := s.heap) hp rel
    obtain ⟨bs, hr, hn⟩ := DaAll.reads I _ _ _ ha q2
    have hl : (kvs.map fun p => keyD p.1).length = ds.length := by
      rw [List.length_map, ← ha.length, List.length_map]
    refine ⟨_, Reads.dict (as := []) (bs := bs) ho hx.1 hd (by rw [zip_fst hl]; exact q1) (by rw [zip_snd hl]; exact hr), fun b z => ?_⟩
    have z' : b ∈ a :: bs := z
    rcases List.mem_cons.mp z' with e | z2
    · rw [e, h]
      exact fun y => nomatch y
    · exact hn b z2
theorem DaAll.reads (I : Inv X pins σ H s) : ∀ (vs : List V) (ds : List PyData) (us : List Value), DaAll X.K H vs ds → Vals vs us → ∃ as, ReadsAll s.heap us ds as ∧ ∀ b ∈ as, H b ≠ none
  | _, _, _, .nil, r => by
    cases r
    exact ⟨_, ReadsAll.nil, fun b z => nomatch z⟩
  | _, _, _, .cons h1 h2, r => by
    cases r with
    | cons r1 r2 =>
      obtain ⟨as, q1, n1⟩ := Da.reads I _ _ _ h1 r1
      obtain ⟨bs, q2, n2⟩ := DaAll.reads I _ _ _ h2 r2
      refine ⟨_, ReadsAll.cons q1 q2, fun b z => ?_⟩
      rcases List.mem_append.mp z with z | z
      · exact n1 b z
      · exact n2 b z
end
end
section
variable {X : Cx}
/-- repr of data -/
theorem call_repr (hG : X.A.guards = some []) (hu : X.A.units + 64 < cLine) (hS : ∃ m, X.base.Ns sysModules m) :
    CallR X (.builtin "repr") (fun xs H Q => ∃ v d, xs = [v] ∧ Da X.K H v d ∧ d.showable = true ∧ d.depth ≤ 60 ∧ d.shown.length ≤ sizeLine ∧ Q (.str d.shown) H) := by
  intro pins s σ H xs us Q I r h
  obtain ⟨v, d, rfl, hd, hs, hp, hz, q⟩ := h
  obtain ⟨u, rfl, ru⟩ := vals1 r
  obtain ⟨as, rd, hn⟩ := Da.reads I v d u hd ru
  have no : sysModules ∉ as := fun z => by
    obtain ⟨m, o, es, ep, ho, _⟩ := hS
    exact hn _ z (I.bs _ _ ho).2
  have fin : ∀ h' u' tk, (∀ b o, s.heap.get? b = some o → h'.get? b = some o) → EP X pins σ Q (.str d.shown u') { s with heap := h', toks := tk } := fun h' u' tk kp =>
    ⟨.str d.shown, H, I.kept (t' := tk) kp, ⟨u', rfl⟩, q⟩
  have here : EP X pins σ Q (.str d.shown s.toks) { s with toks := s.toks + 1 } := ⟨.str d.shown, H, I.tok _, ⟨_, rfl⟩, q⟩
  cases hd with
  | non =>
    cases ru
    exact PySem.P.repr_of_none here
  | bl b =>
    cases ru
    exact PySem.P.repr_of_bool here
  | int i =>
    obtain ⟨t, rfl⟩ := ru
    exact PySem.P.repr_of_int (by simpa [PyData.showable] using hs) here
  | str x =>
    obtain ⟨t, rfl⟩ := ru
    exact PySem.P.repr_of_str here hz
  | lst _ _ =>
    cases ru
    exact repr_of_reads' rd hs (fun _ => no) hG (by omega) (fun _ _ z => z) fin hz
  | tup _ _ =>
    cases ru
    exact repr_of_reads' rd hs (fun _ => no) hG (by omega) (fun _ _ z => z) fin hz
  | dic _ _ =>
    cases ru
    exact repr_of_reads' rd hs (fun _ => no) hG (by omega) (fun _ _ z => z) fin hz
end
end Lw
end
section
set_option maxRecDepth 100000
set_option maxHeartbeats 4000000
/-! The law's own end: its promise where no repr is under way. -/
namespace Lw
open PySem PySem.Spec PyProof.Rows L2
section
variable {P : Program} {w : World} {K : PySem.W.Frag} {mg mb : Str → Option Value} {k : Nat} {fa a : Addr} {fd : FuncData} {x : Str} {sp : Sp} {s₁ : Shared} {vs : List Value} {ns : List Int}
/-- the law is called at the heap behind the top -/
theorem law_callG (kin : K.In s₁.heap) (hg : s₁.heap.Ns mainGlobals mg) (hb : s₁.heap.Ns builtinsNs mb) (hbb : ∀ x : Str, x ≠ "__name__" → mb x = bootBuiltins x) (lim : s₁.heap.NoLimit) (nod : s₁.heap.NoDigits) (hm : ∃ m, s₁.heap.Ns sysModules m) (gens : s₁.gens = #[])
    (ha : s₁.heap.get? a = some { cls := .type "list", data := .seq vs.toArray }) (hi : IntsAre vs ns) (hl : ns.length ≤ sizeLine) (hr : Room k callerA)
    (F : ∀ base : Heap, K.In base → base.Ns mainGlobals mg → (∃ m, base.Ns sysModules m) → base.NoDigits → FnG P w K mg base CX0 k fa fd [x] sp) (hbind : ∀ (s : Shared) (u : Value), BindsTo s fd ⟨[u], []⟩ [(x, u)])
    (hsp : ∀ H : Hp, Only H → SqL K H a (ns.map V.int) → sp [.ref a] H (fun v _ => v = .bl true) fun _ _ _ => False) :
    codeAny (model P w) callerA (.call (.ref fa) ⟨[.ref a], []⟩) (fun r s' => r = .ok (.ret (.bool true)) ∧ OldK s₁.heap s'.heap ∧ s'.os = s₁.os ∧ AllBare s'.gens) s₁ := by
  have vals := vals_ints hi
  have same := hi.length
  -- H: what is tracked at the begin: the script alone, or nothing
  have main : ∀ H : Hp, Only H → SqL K H a (ns.map V.int) → HOk P w H s₁.heap → (∀ b, b ≠ a → H b = none) → (K.lookup a ≠ none → H a = none) →
      codeAny (model P w) callerA (.call (.ref fa) ⟨[.ref a], []⟩) (fun r s' => r = .ok (.ret (.bool true)) ∧ OldK s₁.heap s'.heap ∧ s'.os = s₁.os ∧ AllBare s'.gens) s₁ := by
    intro H only sq ok away kept
    have dict_free : ∀ {b : Addr} {o : Obj} {es : Array DictEntry} {ep : Nat}, s₁.heap.get? b = some o → o.data = .dict es ep → H b = none := by
      intro b o es ep e1 e2
      refine away b fun e3 => ?_
      rw [e3, ha] at e1
      cases e1
      cases e2
    have ns_base : ∀ {b : Addr} {m : Str → Option Value}, s₁.heap.Ns b m → (hidT s₁.heap H).Ns b m := by
      rintro b m ⟨o, es, ep, e1, e2, e3⟩
      exact ⟨o, es, ep, hidT_get e1 (dict_free e1 e2), e2, e3⟩
    have k_base : K.In (hidT s₁.heap H) := by
      intro b o e
      refine hidT_get (kin b o e) ?_
      by_cases q : b = a
      · rw [q]
        refine kept ?_
        rw [← q, e]
        exact fun y => nomatch y
      · exact away b q
    have mod : Mod K mg (hidT s₁.heap H) := ⟨k_base, ns_base hg, ⟨mb, ns_base hb, hbb⟩, by
      obtain ⟨mc, h1, h2⟩ := lim
      exact ⟨mc, ns_base h1, h2⟩⟩
    have env : Env0 P w K mg (hidT s₁.heap H) callerA [] s₁ H := { frames := rfl, mod := mod, bs := fun b o e => of_hidT e, bsz := Nat.le_of_eq (hidT_size _ _), funs := trivial, frf := fun b z => absurd (show b ∈ ([] : List Addr) from z) (by simp), hok := ok, bare := .of_eq gens }
    have G := F _ k_base (ns_base hg) (by
      obtain ⟨m, h1⟩ := hm
      exact ⟨m, ns_base h1⟩) (by
      obtain ⟨mc, h1, h2⟩ := nod
      exact ⟨mc, ns_base h1, h2⟩)
    refine codeAny_mono (G.run callerA [] s₁ H ⟨[.ref a], []⟩ [.ref a] [.ref a] _ _ rfl hr env (hbind s₁ (.ref a)) (.cons rfl .nil) (hsp H only sq)) fun r s' z => ?_
    cases r with
    | error e => exact False.elim z
    | ok fl =>
      cases fl with
      | ret u =>
        obtain ⟨v, H', eo, bare, un, ok', rv, q⟩ := z
        have q2 : v = .bl true := q
        subst q2
        obtain rfl : u = Value.bool true := rv
        refine ⟨rfl, OldK.of_keep fun b o e => ?_, eo, bare⟩
        cases q3 : H b with
        | none => exact un.keep b o e q3 (fun z => absurd (show b ∈ ([] : List Addr) from z) (by simp)) (by simp)
        | some t =>
          rcases only b with z | ⟨ob, xs, z⟩
          · rw [q3] at z
            cases z
          · obtain ⟨e1, _⟩ := ok b _ z
            obtain ⟨e2, _⟩ := ok' b _ (un.frzs b ob _ z)
            rw [e] at e1
            cases e1
            exact e2
      | next => exact False.elim z
      | brk => exact False.elim z
      | cont => exact False.elim z
  by_cases hk : K.lookup a = none
  · have z0 : ∀ b u, (if b = a then some (HO.frz { cls := .type "list", data := .seq vs.toArray } (.lst (ns.map V.int))) else none) = some u → b = a ∧ u = HO.frz { cls := .type "list", data := .seq vs.toArray } (.lst (ns.map V.int)) := by
      intro b u z
      by_cases q : b = a
      · rw [if_pos q] at z
        exact ⟨q, (Option.some.inj z).symm⟩
      · rw [if_neg q] at z
        cases z
    refine main (fun b => if b = a then some (.frz { cls := .type "list", data := .seq vs.toArray } (.lst (ns.map V.int))) else none) (fun b => ?_) (.inl (.inr ⟨_, if_pos rfl⟩)) (fun b u z => ?_) (fun b q => if_neg q) fun q => absurd hk q
    · by_cases q : b = a
      · exact .inr ⟨_, _, if_pos q⟩
      · exact .inl (if_neg q)
    · obtain ⟨rfl, rfl⟩ := z0 b u z
      exact ⟨ha, by rw [List.length_map]; exact hl, vs, _, vals, ha⟩
  · obtain ⟨o, ho⟩ := Option.ne_none_iff_exists'.mp hk
    have e := kin a o ho
    rw [ha] at e
    cases e
    exact main (fun _ => none) (fun _ => .inl rfl) (.inr ⟨_, vs.toArray, _, ho, rfl, rfl, rfl, by rw [List.size_toArray, same]; exact hl, by simpa using vals⟩) (fun b u z => nomatch z) (fun _ _ => rfl) fun _ => rfl
end
/-- the goal that the head leaves -/
theorem walk_ofG {l : PySem.W.OpenLaw} {n k : Nat} {q : Program} {loose : List Str} {XP : (Str → Option Value) → Heap → Prop} {YP : World → Heap → Prop} {d : DefRec} {K : Params → PySem.W.Frag} {sp : PySem.W.Frag → Sp} {x : Str}
    (hn : l.most = some n) (hn2 : n ≤ sizeLine) (hdf : d.params.defaults = []) (hr : Room k callerA) (him : importsNone q = true)
    (hY : ∀ (w : World) (h : Heap), YP w h → (K w.params).In h)
    (F : ∀ (w : World) (mg : Str → Option Value) (fa : Addr) (h : Heap), (K w.params).In h → h.Ns mainGlobals mg → mg d.name = some (.ref fa) →
      ∃ fd : FuncData, (∀ (s : Shared) (u : Value), BindsTo s fd ⟨[u], []⟩ [(x, u)]) ∧
        ∀ base : Heap, (K w.params).In base → base.Ns mainGlobals mg → (∃ m, base.Ns sysModules m) → base.NoDigits → FnG l.prog w (K w.params) mg base CX0 k fa fd [x] (sp (K w.params)))
    (hsp : ∀ (K : PySem.W.Frag) (H : Hp) (a : Addr) (ns : List Int), ns.length ≤ n → Only H → SqL K H a (ns.map V.int) → sp K [.ref a] H (fun v _ => v = .bl true) fun _ _ _ => False) :
    PySem.W.WalkO q loose XP YP l.row.toRowW d [] (fun f vs => PySem.call f vs) := by
  refine Att.attach_call hn hdf fun w s₀ s₁ mg mb fa o pm cd doc a vs ns G Y ho hd hcd hmg hobj hints hlen hgen => ?_
  have kin := hY w _ Y
  obtain ⟨fd, hb, hF⟩ := F w mg fa _ kin G.T.g hmg
  have hm : ∃ m, s₁.heap.Ns sysModules m := by
    obtain ⟨m, z, _⟩ := (G.T.seer him).mods
    exact ⟨m, z⟩
  exact law_callG kin G.T.g G.T.b G.T.builtins G.T.nolimit G.T.nodigits hm hgen hobj hints (Nat.le_trans hlen hn2) hr hF hb fun H hO hS => hsp _ H a ns hlen hO hS
end Lw
end
section
set_option maxRecDepth 100000
set_option maxHeartbeats 4000000
/-! New objects, told by what stands behind them: all that stood, and the new one. -/
namespace Lw
open PySem PySem.Spec PyProof.Rows L2
section
variable {X : Cx} {es : List Expr} {t : TA} {pos : Pos} {e : Expr} {te te' : TE}
theorem PE.imp (h : PE X e te) (i : ∀ σ H Q, te' σ H Q → te σ H Q) : PE X e te' := ⟨fun pins s σ H Q I q => h.run pins s σ H Q I (i σ H Q q)⟩
theorem OpR.imp {f : Value → Value → Sem Value} {r r' : R2} (h : OpR X f r) (i : ∀ x y H Q, r' x y H Q → r x y H Q) : OpR X f r' := fun pins s σ H x y v u Q I rx ry q => h pins s σ H x y v u Q I rx ry (i x y H Q q)
theorem CallR.imp {f : Value} {r r' : List V → Hp → VK → Prop} (h : CallR X f r) (i : ∀ xs H Q, r' xs H Q → r xs H Q) : CallR X f r' := fun pins s σ H xs us Q I rx q => h pins s σ H xs us Q I rx (i xs H Q q)
/-- a new object o, told -/
def New (o : HO) (H : Hp) (Q : VK) : Prop := ∀ p H2, H p = none → Same H H2 → H2 p = some o → Q (.ref p) H2
theorem New.at {o : HO} {H : Hp} {Q : VK} (h : New o H Q) {p : Addr} (n : H p = none) : Q (.ref p) (upd H p o) := h p _ n (Same.new n) upd_same
def tLstS (t : TA) : TE := fun σ H Q => t σ H fun xs H1 => xs.length ≤ sizeLine ∧ New (.lst xs) H1 Q
def tTupS (t : TA) : TE := fun σ H Q => t σ H fun xs H1 => xs.length ≤ sizeLine ∧ New (.tup xs) H1 Q
theorem pe_lstS (h : PA X es t) : PE X (.List es pos) (tLstS t) := by
  refine ⟨fun pins s σ H Q I hq => ?_⟩
  refine wpAny_List_spliced (thn (h.run pos pins s σ H _ I hq) fun us s1 ⟨xs, H1, J, r, z, q⟩ => ⟨r.length ▸ z, ?_⟩)
  have n := J.hok.fresh (Nat.le_refl s1.heap.objs.size)
  refine ⟨.ref s1.heap.objs.size, upd H1 s1.heap.objs.size (.lst xs), J.laid (t' := s1.toks) (fun b u w => Heap.get?_push_of_some _ w) (Nat.le_refl _) ?_, rfl, q.at n⟩
  exact ⟨z, us, 0, r, Heap.get?_push_size _ rfl⟩
theorem pe_tupS {c} (h : PA X es t) : PE X (.Tuple es c pos) (tTupS t) := by
  refine ⟨fun pins s σ H Q I hq => ?_⟩
  refine wpAny_Tuple_spliced (thn (h.run pos pins s σ H _ I hq) fun us s1 ⟨xs, H1, J, r, z, q⟩ => ⟨r.length ▸ z, ?_⟩)
  have n := J.hok.fresh (Nat.le_refl s1.heap.objs.size)
  refine ⟨.ref s1.heap.objs.size, upd H1 s1.heap.objs.size (.tup xs), J.laid (t' := s1.toks) (fun b u w => Heap.get?_push_of_some _ w) (Nat.le_refl _) ?_, rfl, q.at n⟩
  exact ⟨z, us, r, ⟨_, Heap.get?_push_size _ rfl, rfl, _, rfl⟩⟩
/-- {} -/
theorem pe_d0S : PE X (.Dict [] [] pos) (fun _ H Q => New (.dK []) H Q) := PE.imp pe_dnewK fun _ _ _ h _ n => h.at n
/-- {'a': 'b'} -/
theorem pe_d1S {k v : Str} {i j : Nat} {p q : Pos} : PE X (.Dict [some (.Constant (.str k) i p)] [.Constant (.str v) j q] pos) (fun _ H Q => New (.dK [(Sum.inr k, .str v)]) H Q) := by
  refine PE.imp (pe_disp (pps_cons pe_str pe_str pps_nil) rfl rfl (fun z => by cases z) (by simp)) fun σ H Q h => ?_
  intro l n
  refine ⟨upd_same, [(Sum.inr k, .str v)], rfl, by simp, ?_⟩
  rw [upd_upd]
  exact h.at n
/-- xs[lo:hi] of a list -/
def rSlS (K : PySem.W.Frag) : V → Option Int → Option Int → Hp → VK → Prop := fun x lo hi H Q => ∃ a xs, x = .ref a ∧ SqL K H a xs ∧ New (.lst (cutV xs lo hi)) H Q
theorem pe_slS {e : Expr} {te : TE} {lo hi : Option Expr} {tl th} {p2 : Pos} (he : PE X e te) (hl : PO X lo tl) (hu : PO X hi th) : PE X (.Subscript e (.Slice lo hi none p2) pos) (tSl (rSlS X.K) te tl th) := by
  refine pe_slice (r := rSlS X.K) ?_ he hl hu
  intro pins s σ H x v vl vu lo hi sl Q I rx hs pl pu h
  obtain ⟨a, xs, ex, sq, q⟩ := h
  exact sl_list pins s σ H x v vl vu lo hi sl Q I rx hs pl pu ⟨a, xs, ex, sq, fun p n => q.at n⟩
/-- list(xs) -/
theorem call_listS : CallR X (.type "list") (fun xs H Q => ∃ p ys, xs = [.ref p] ∧ (SqL X.K H p ys ∨ SqT X.K H p ys) ∧ New (.lst ys) H Q) :=
  CallR.imp call_list_of fun _ _ _ ⟨p, ys, e, s, q⟩ => ⟨p, ys, e, s, fun _ n => q.at n⟩
/-- xs + ys -/
def rCatS : R2 := fun x y H Q => ∃ l b xs zs, x = .ref l ∧ y = .ref b ∧ H l = some (.lst xs) ∧ H b = some (.lst zs) ∧ xs.length + zs.length ≤ sizeLine ∧ New (.lst (xs ++ zs)) H Q
theorem op_catS : OpR X (binaryOp .Add) rCatS := OpR.imp op_cat fun _ _ _ _ ⟨l, b, xs, zs, e1, e2, h1, h2, z, q⟩ => ⟨l, b, xs, zs, e1, e2, h1, h2, z, fun _ n => q.at n⟩
/-- xs * k -/
def rRepS : R2 := fun x y H Q => ∃ l k xs, x = .ref l ∧ y = .int k ∧ H l = some (.lst xs) ∧ -(2 ^ 63) ≤ k ∧ k < 2 ^ 63 ∧ xs.length * k.toNat ≤ sizeLine ∧ New (.lst (List.replicate k.toNat xs).flatten) H Q
theorem op_repS : OpR X (binaryOp .Mult) rRepS := OpR.imp op_rep fun _ _ _ _ ⟨l, k, xs, e1, e2, h1, h2, h3, z, q⟩ => ⟨l, k, xs, e1, e2, h1, h2, h3, z, fun _ n => q.at n⟩
end

/-! ### the pen -/
theorem cut63 {xs : List V} (h : xs.length ≤ 63) : cutV xs none (some 63) = xs := by
  have e1 : HT.sIx xs.length 0 none = 0 := by simp [HT.sIx]
  have e2 : HT.sIx xs.length xs.length (some 63) = xs.length := by
    simp [HT.sIx]
    omega
  unfold cutV
  rw [e1, e2]
  simp
def spPen (K : PySem.W.Frag) : Sp := fun vs H Q _ => ∃ (a : Addr) (ns : List Int), vs = [.ref a] ∧ SqL K H a (ns.map V.int) ∧ ns.length ≤ 63 ∧ ∀ p c H2, Same H H2 → PenAt H2 p c ns 0 0 → Q (.ref p) H2
/-- one of some things -/
def spPick : Sp := fun vs H Q _ => ∃ (p c q : Addr) (ns : List Int) (i r : Int) (xs : List V), vs = [.ref p, .ref q] ∧ PenAt H p c ns i r ∧ i ≤ 1000000 ∧ H q = some (.lst xs) ∧ q ≠ p ∧ xs ≠ [] ∧ xs.length < 1000 ∧
  ∀ (x : V) (i' r' : Int) (H' : Hp), x ∈ xs → i ≤ i' → i' ≤ i + 1 → PenAt H' p c ns i' r' → But p H H' → Q x H'
theorem at_mem {xs : List V} {d : Int} (h0 : 0 ≤ d) (h1 : d < (xs.length : Int)) : ∃ x, x ∈ xs ∧ atI xs d = some x := by
  obtain ⟨j, rfl⟩ := Int.eq_ofNat_of_zero_le h0
  have hj : j < xs.length := by omega
  exact ⟨xs[j], List.getElem_mem hj, atI_nat (List.getElem?_eq_getElem hj)⟩
theorem yes_if {σ : L2.St} {H : Hp} {A B : Hp → Prop} (h : A H) : tYes σ H (fun b H3 => if b = true then A H3 else B H3) := by
  show (if true = true then A H else B H)
  rw [if_pos rfl]
  exact h
end Lw
end
section
set_option maxRecDepth 100000
set_option maxHeartbeats 4000000
/-! Any values: their kinds. -/
namespace Lw
open PySem PySem.Spec PyProof.Rows L2
def vIntB : V → Bool
  | .int _ => true
  | .bl _ => true
  | _ => false
def vBl : V → Bool
  | .bl _ => true
  | _ => false
def vStr : V → Bool
  | .str _ => true
  | _ => false
def intV : V → Option Int
  | .int i => some i
  | _ => none
def strV : V → Option Str
  | .str z => some z
  | _ => none
/-- what isinstance says of a value -/
structure Knd (K : PySem.W.Frag) (H : Hp) (v : V) : Prop where
  ex : ∃ t, TyX K H v t ∧ PySem.W.kitOne K t (.type "int") = some (vIntB v) ∧ PySem.W.kitOne K t (.type "bool") = some (vBl v) ∧ PySem.W.kitOne K t (.type "str") = some (vStr v)
section
variable {K : PySem.W.Frag} {H : Hp}
theorem Knd.int (i : Int) : Knd K H (.int i) := ⟨_, .base (.int i), kit_ty (by kernel_rfl), kit_ty (by kernel_rfl), kit_ty (by kernel_rfl)⟩
theorem Knd.str (z : Str) : Knd K H (.str z) := ⟨_, .base (.str z), kit_ty (by kernel_rfl), kit_ty (by kernel_rfl), kit_ty (by kernel_rfl)⟩
theorem Knd.bl (b : Bool) : Knd K H (.bl b) := ⟨_, .base (.bl b), kit_ty (by kernel_rfl), kit_ty (by kernel_rfl), kit_ty (by kernel_rfl)⟩
theorem Knd.non : Knd K H .non := ⟨_, .base .non, kit_ty (by kernel_rfl), kit_ty (by kernel_rfl), kit_ty (by kernel_rfl)⟩
theorem Knd.of_da {v : V} {d : PyData} (h : Da K H v d) : Knd K H v := by
  cases h with
  | non => exact .non
  | bl b => exact .bl b
  | int i => exact .int i
  | str z => exact .str z
  | lst e _ => exact ⟨_, .base (.lst e), kit_ty (by kernel_rfl), kit_ty (by kernel_rfl), kit_ty (by kernel_rfl)⟩
  | tup e _ => exact ⟨_, .base (.tup e), kit_ty (by kernel_rfl), kit_ty (by kernel_rfl), kit_ty (by kernel_rfl)⟩
  | dic e _ => exact ⟨_, .base (.dK e), kit_ty (by kernel_rfl), kit_ty (by kernel_rfl), kit_ty (by kernel_rfl)⟩
end
/-! ### what the looks answer -/
def withinV (v : V) (lo hi : Int) : Bool := match intV v with
  | some i => decide (lo ≤ i) && decide (i ≤ hi)
  | none => false
def amountV (v : V) : Bool := match intV v with
  | some i => decide (0 ≤ i)
  | none => false
def loB (c : Nat) : Bool := decide (97 ≤ c) && decide (c ≤ 122)
def nameS (z : Str) : Bool := decide (1 ≤ z.length) && (decide (z.length ≤ 8) && (!decide (z = "self") && z.cps.toList.all loB))
def nameV (v : V) : Bool := match strV v with
  | some z => nameS z
  | none => false
theorem intV_of {v : V} (h1 : vIntB v = true) (h2 : vBl v = false) : ∃ i, v = .int i := by
  cases v <;> simp_all [vIntB, vBl]
theorem intV_no {v : V} (h : vIntB v = false ∨ vBl v = true) : intV v = none := by
  cases v <;> simp_all [vIntB, vBl, intV]
theorem str_of {v : V} (h : vStr v = true) : ∃ z, v = .str z := by
  cases v <;> simp_all [vStr]
theorem strV_no {v : V} (h : vStr v = false) : strV v = none := by
  cases v <;> simp_all [vStr, strV]
def spIsInt (K : PySem.W.Frag) : Sp := fun vs H Q _ => ∃ v, vs = [v] ∧ Knd K H v ∧ Q (.bl (intV v).isSome) H
def spWithin (K : PySem.W.Frag) : Sp := fun vs H Q _ => ∃ v lo hi, vs = [v, .int lo, .int hi] ∧ Knd K H v ∧ Q (.bl (withinV v lo hi)) H
def spAmount (K : PySem.W.Frag) : Sp := fun vs H Q _ => ∃ v, vs = [v] ∧ Knd K H v ∧ Q (.bl (amountV v)) H
def spName (K : PySem.W.Frag) : Sp := fun vs H Q _ => ∃ v, vs = [v] ∧ Knd K H v ∧ (∀ z, v = .str z → z.length ≤ 1000) ∧ ∀ H2, Same H H2 → Q (.bl (nameV v)) H2
structure TxtC (mg : Str → Option Value) : Prop where
  isi : mg "isinstance" = none
  int : mg "int" = none
  bool : mg "bool" = none
  str : mg "str" = none
  len : mg "len" = none
  all : mg "all" = none
theorem sz {n : Nat} (h : n ≤ 1000) : n ≤ sizeLine := Nat.le_trans h (by decide)
theorem three_ok (a b c : Bool) : (PyData.list [.bool a, .bool b, .bool c]).shown.length ≤ sizeLine := by cases a <;> cases b <;> cases c <;> decide +kernel
theorem lt_sign (c d : Nat) : decide (([c] : List Nat) < [d]) = decide (c < d) := by
  simp [List.cons_lt_cons_iff]
theorem le_sign (c d : Nat) : (!decide (([c] : List Nat) < [d])) = decide (d ≤ c) := by
  rw [lt_sign]
  by_cases h : c < d
  · simp [h]
  · simp [h]; omega
end Lw
end
section
set_option maxRecDepth 100000
set_option maxHeartbeats 4000000
/-! A caught exception that is kept behind its except suite: it is tracked from there on. -/
namespace Lw
open PySem PySem.Spec PyProof.Rows L2
/-- an exception of the class at C that was caught, its dict at d -/
def exk (a C d : Addr) : HO := .ext fun h => ∃ oe vs, h.get? a = some oe ∧ oe.cls = .ref C ∧ oe.dict = some d ∧ oe.data = .fields vs
theorem exk_ok {P : Program} {w : World} {H : Hp} {h : Heap} {a C d : Addr} {oe : Obj} {vs : Array Value} (e : h.get? a = some oe) (c : oe.cls = .ref C) (dd : oe.dict = some d) (f : oe.data = .fields vs) : ObjOk P w H h a (exk a C d) :=
  ⟨⟨oe, vs, e, c, dd, f⟩, ⟨oe, e⟩, fun h1 h2 ⟨o, v, q, r⟩ k => ⟨o, v, k _ q, r⟩⟩
/-- what was not tracked, and is younger than the entry, is tracked -/
theorem Inv.track {X : Cx} {pins : List (Addr × Obj)} {σ : L2.St} {H : Hp} {s : Shared} {a : Addr} {u : HO} {oe : Obj} {vs : Array Value} (I : Inv X pins σ H s) (hn : H a = none) (e : s.heap.get? a = some oe) (f : oe.data = .fields vs) (nL : a ≠ X.env.locals) (np : ∀ p ∈ X.pn ++ pins, p.1 ≠ a) (h0 : X.s_0.heap.get? a = none)
    (ok : ObjOk X.prog X.w (upd H a u) s.heap a u) : Inv X pins σ (upd H a u) s := by
  have ne : ∀ {b : Addr} {o : HO}, H b = some o → b ≠ a := fun {b o} q z => by rw [z, hn] at q; cases q
  refine ⟨I.ok, I.os, I.bare, ⟨I.base.keep, I.base.slot, fun b o q n hx => ?_, I.base.there, fun b xs q => ?_, fun b o xs q => ?_, fun b ps q => ?_⟩, I.loc, I.cell, ?_, fun x c q => ?_, fun p hp => ?_, I.hok.laidN (fun _ _ q => q) hn ok, I.len⟩
  · rw [upd_ne fun z => by rw [z, h0] at q; cases q]
    exact I.base.free b o q n hx
  · have q2 := I.base.tups b xs q
    rw [upd_ne (ne q2)]
    exact q2
  · have q2 := I.base.frzs b o xs q
    rw [upd_ne (ne q2)]
    exact q2
  · obtain ⟨m, q2⟩ := I.base.tbls b ps q
    exact ⟨m, by rw [upd_ne (ne q2)]; exact q2⟩
  · rw [upd_ne nL.symm]
    exact I.free
  · have nc : c ≠ a := fun z => by
      obtain ⟨v, q2⟩ := I.cell x c q
      obtain ⟨o, e2, d2⟩ := q2
      rw [z, e] at e2
      cases e2
      rw [f] at d2
      cases d2
    rw [upd_ne nc]
    exact I.freeC x c q
  · obtain ⟨q1, q2, q3⟩ := I.pin p hp
    exact ⟨q1, by rw [upd_ne (np p hp)]; exact q2, q3⟩
/-- what such a clause wishes of an exception of the body -/
def wKeep (K : PySem.W.Frag) (c : Value) (i : Nat) (ts : Addr → Value → Option Addr → TS) (Wout : WX) (D : Ends) : WX := fun cls d σ H =>
  ∃ b, PySem.W.exmOne K cls c = some b ∧ (b = true → ∃ C dd, cls = .ref C ∧ d = some dd ∧ ∀ a, H a = none → ts a cls d { nx := fun σ' H' => D.nx (σ'.set i none) (upd H' a (exk a C dd)), rt := fun v H' => D.rt v (upd H' a (exk a C dd)), bk := fun σ' H' => D.bk (σ'.set i none) (upd H' a (exk a C dd)), ct := fun σ' H' => D.ct (σ'.set i none) (upd H' a (exk a C dd)) } (σ.set i (some (.ref a))) H) ∧
    (b = false → Wout cls d σ H)
section
variable {X : Cx} {x n : Str} {c : Value} {i : Nat} {body suite : List Stmt} {b₀ : Stmt} {np pos pos' : Pos} {tb : WX → TS} {ts : Addr → Value → Option Addr → TS} {Wout : WX}
theorem ps_try_keep (hs : X.stack = X.env :: X.outer) (hf : X.env.frame = some X.env.locals) (hex : X.ex = []) (hN : X.N.Nodup) (hi : X.N[i]? = some n) (hln : X.env.kindOf n = some .local) (hc : Names X x c) (tk : Takes X Wout)
    (hb : ∀ (W : WX) (pn : List (Addr × Obj)) (xe : Value → Shared → Prop), Takes (X.tr pn xe) W → PassesOwn (model X.prog X.w) X.A X.env xe → PSs (X.tr pn xe) body (tb W))
    (hsu : ∀ (a : Addr) (oe : Obj) (cls : Value) (d : Option Addr) (pn : List (Addr × Obj)), Zc cls d oe → (∃ vs, oe.data = .fields vs) → PSs (X.suite a ((a, oe) :: pn)) (b₀ :: suite) (ts a cls d)) :
    PS X (.Try body [.ExceptHandler (some (.Name x np)) (some n) (b₀ :: suite) pos'] [] [] pos) (fun D σ H => tb (wKeep X.K c i ts Wout D) D σ H) := by
  refine ⟨fun pins s σ H D I h => ?_⟩
  have ok := I.ok
  have hfr : X.A.frames = some (X.env :: X.outer) := by rw [ok.frames, hs]
  refine wpAny_Try_except ?_
  refine wpAny_mono ((hb (wKeep X.K c i ts Wout D) (X.pn ++ pins) (fun e s₁ => wpAny (model X.prog X.w) X.A (noteFrame e X.env) (fun _ s₂ => wpAny (model X.prog X.w) X.A (setFlight e none) (fun _ s₃ =>
    wpAny (model X.prog X.w) X.A (handleBy e X.env [.ExceptHandler (some (.Name x np)) (some n) (b₀ :: suite) pos']) (SP X pins D) X.xe s₃) X.xe s₂) X.xe s₁) (fun u s' xx => ?_) PassesOwn.looking).run [] s σ H D (I.toTry _) h) (fun f s1 hsp => ?_) (fun e s1 he => he)
  · obtain ⟨a, B, sI, pins', σ', H', cls, d, rfl, J', nb, up, sky, na, os, ag, b, hb1, hyes, hno⟩ := xx
    have J : Inv X pins σ' H' sI := J'.ofTry ok
    have sky' : Sky B (X.env :: X.outer) a (Zc cls d) X.env.locals s'.heap := by rw [← hs]; exact sky
    show wpAny (model X.prog X.w) X.A (noteFrame (.ref a) X.env) _ _ _
    refine Sky.land Zc.steady hfr hf sky' fun h3 fl3 up3 => ?_
    have J3 : Inv X pins σ' H' { s' with heap := h3 } := J.landed nb fl3.1 (up.trans up3) os ag
    obtain ⟨oe3, vs3, he3, hz3, hd3⟩ := fl3.there
    have nfr : a ∉ frs (X.env :: X.outer) := fun hm => by
      obtain ⟨_, o', e', hnf⟩ := fl3.2.2.1.mem hm
      rw [he3] at e'
      cases e'
      exact hnf _ hd3
    have nL : a ≠ X.env.locals := fun z => nfr (List.mem_filterMap.mpr ⟨X.env, List.mem_cons_self, by rw [hf, z]⟩)
    have nF : a ∉ X.fs := fun hm => by
      obtain ⟨e, he, q⟩ := List.mem_filterMap.mp hm
      exact nfr (List.mem_filterMap.mpr ⟨e, List.mem_cons_of_mem _ he, q⟩)
    have hB : B.get? a = none := fl3.2.1
    have hI : sI.heap.get? a = none := by
      cases q : sI.heap.get? a with
      | none => rfl
      | some o =>
        have := nb a o q (by rw [hs]; exact nfr)
        rw [hB] at this
        cases this
    have h0 : X.s_0.heap.get? a = none := by
      cases q : X.s_0.heap.get? a with
      | none => rfl
      | some o =>
        obtain ⟨o', q2⟩ := J.base.there a o q (by rw [hex]; simp)
        rw [hI] at q2
        cases q2
    have npin : ∀ p ∈ X.pn ++ pins, p.1 ≠ a := fun p hp z => by
      have q := (J.pin p hp).1
      rw [z, hI] at q
      cases q
    have S3 := J3.suite he3 hd3 na nL nF
    refine wpAny_handleBy_cons (codeAny_handlers_test ?_) (by intro q; cases q)
    have LT : PySem.W.Looks (model X.prog X.w) h3 (typeOf (.ref a)) cls := fun A Q E s k q => wpAny_typeOf_ref (k _ _ he3) (by rw [hz3.1]; exact q)
    have LM := PySem.W.exm_one (M := model X.prog X.w) (J3.kIn) LT hb1
    have test : ∀ {Q : Value → Shared → Prop} {E : Value → Shared → Prop}, Q c { s' with heap := h3 } → wpAny (model X.prog X.w) (X.A.mark (some (.ref a))) (eval (.Name x np) X.env) Q E { s' with heap := h3 } := fun {Q E} q => by
      obtain ⟨hg, hdbg, hm | ⟨hm, hv, hnn⟩⟩ := hc
      · exact ld_glob (X := X.suite a ((a, oe3) :: (X.pn ++ pins))) S3 hg hm q hdbg
      · exact ld_blt (X := X.suite a ((a, oe3) :: (X.pn ++ pins))) S3 hg hm hv q hnn hdbg
    refine test (LM.here ?_)
    cases b with
    | true =>
      obtain ⟨C, dd, rfl, rfl, hy⟩ := hyes rfl
      refine codeAny_handlers_suite_as ?_
      refine HandSPX.lands_againZ fl3 fun h4 fl4 up4 => ?_
      have J4 : Inv X pins σ' H' { s' with heap := h4 } := J.landed nb fl4.1 ((up.trans up3).trans up4) os ag
      obtain ⟨oe4, vs4, he4, hz4, hd4⟩ := fl4.there
      have S4 := J4.suite he4 hd4 na nL nF
      refine store_ok (X := X.suite a ((a, oe4) :: (X.pn ++ pins))) (v := .ref a) S4 hN hi (.inl hln) rfl (fun s5 S5 => ?_) (.inr hln)
      refine wpAny_mono ((hsu a oe4 (.ref C) (some dd) (X.pn ++ pins) hz4 ⟨_, hd4⟩).run [] s5 _ H' _ S5 (hy a na)) (fun f s6 hsp => ?_) (fun _ _ z => False.elim z)
      -- the name goes; the exception is tracked
      have end_ : ∀ {σ6 : L2.St} {H6 : Hp} {Q : Shared → Prop}, Inv (X.suite a ((a, oe4) :: (X.pn ++ pins))) [] σ6 H6 s6 → (∀ s7, Inv X pins (σ6.set i none) (upd H6 a (exk a C dd)) s7 → Q s7) →
          wpAny (model X.prog X.w) X.A (do bindName X.env n .none; unbindBehindTheSuite X.env n pos') (fun _ s7 => Q s7) X.xe s6 := fun {σ6 H6 Q} S6 hq => by
        obtain ⟨p1, p2, _⟩ := S6.pin (a, oe4) (by simp)
        have T6 : Inv X pins σ6 (upd H6 a (exk a C dd)) s6 := Inv.track (S6.unsuite ok) p2 p1 hd4 nL npin h0 (exk_ok p1 hz4.1 hz4.2 hd4)
        exact gone_ok T6 hN hi hln hq
      cases f with
      | next => obtain ⟨σ6, H6, S6, q6⟩ := hsp; exact end_ S6 fun s7 J7 => ⟨_, _, J7, q6⟩
      | brk => obtain ⟨σ6, H6, S6, q6⟩ := hsp; exact end_ S6 fun s7 J7 => ⟨_, _, J7, q6⟩
      | cont => obtain ⟨σ6, H6, S6, q6⟩ := hsp; exact end_ S6 fun s7 J7 => ⟨_, _, J7, q6⟩
      | ret u => obtain ⟨v6, σ6, H6, S6, r6, q6⟩ := hsp; exact end_ S6 fun s7 J7 => ⟨_, _, _, J7, r6, q6⟩
    | false =>
      show wpAny _ X.A (handleBy (.ref a) X.env []) _ _ _
      refine wpAny_handleBy_nil ?_
      obtain ⟨k1, k2, k3, oe, vs, T, oT, ts', he, hz, hd, h1, hr⟩ := id fl3
      unfold PySem.passOn
      refine wpAny_bind (wpAny_field he hd h1 ?_)
      rw [if_neg (show ¬ ((Value.ref T == Value.none) = true) from by simp)]
      have fin : wpAny (model X.prog X.w) X.A (setFlight (.ref a) X.env.frame) (fun _ s4 => wpAny (model X.prog X.w) X.A (throw (.ref a) : Sem Flow) (SP X pins D) X.xe s4) X.xe { s' with heap := h3 } := by
        rw [hf]
        refine HandSPX.setFlight_upZ fl3 fun h4 hh4 up4 => wpAny_throw (tk _ _ ?_)
        exact ⟨a, B, sI, pins, σ', H', cls, d, rfl, J, nb, (up.trans up3).trans up4, .inr (.inr (by rw [hs]; exact hh4)), na, os, ag, hno rfl⟩
      first
        | exact wpAny_bind (wpAny_pure (wpAny_bind fin))
        | exact wpAny_bind fin
  · cases f with
    | next => obtain ⟨σ', H', J', q⟩ := hsp; exact wpAny_execs_nil ⟨σ', H', J'.ofTry ok, q⟩
    | brk => obtain ⟨σ', H', J', q⟩ := hsp; exact ⟨σ', H', J'.ofTry ok, q⟩
    | cont => obtain ⟨σ', H', J', q⟩ := hsp; exact ⟨σ', H', J'.ofTry ok, q⟩
    | ret u => obtain ⟨v, σ', H', J', r, q⟩ := hsp; exact ⟨v, σ', H', J'.ofTry ok, r, q⟩
end
end Lw
end
section
set_option maxRecDepth 100000
set_option maxHeartbeats 4000000
/-! bool of own instances; walks of either kind; dict comprehensions turn by turn. -/
namespace Lw
open PySem PySem.Spec PyProof.Rows L2 PySem.Calls
/-! data of at most one plain part -/
def pdS : PyData → Bool
  | .none => true
  | .bool _ => true
  | .int _ => true
  | .str _ => true
  | _ => false
def flD : PyData → Bool
  | .list ds => ds.all pdS && decide (ds.length ≤ 1)
  | .tuple ds => ds.all pdS && decide (ds.length ≤ 1)
  | .dict ps => (ps.map (·.2)).all pdS && decide (ps.length ≤ 1)
  | d => pdS d
def tupD : PyData → Bool
  | .tuple _ => true
  | _ => false
def lstD : PyData → Bool
  | .list _ => true
  | _ => false
def dicD : PyData → Bool
  | .dict _ => true
  | _ => false
def okD (b : Bool) (d : PyData) : Bool := bif b then flD d else pdS d
theorem bool_asks {prog : Program} {w : World} {A : Around} {E : Value → Shared → Prop} {s : Shared} {v : Value} {Q : Value → Shared → Prop} (h : wpAny (model prog w) A.in1.in1 (truthy v) (fun b s1 => Q (.bool b) s1) E s) :
    wpAny (model prog w) A (call (.type "bool") [v]) Q E s := by
  refine callType_codes (T := "bool") (Bi := Builtin.«object.__init__») (Q₁ := fun r s₁ => ∃ b, r = .bool b ∧ Q r s₁) PySem.F.called_bool (PySem.F.typeCall_bool_1 _) PySem.F.entry_object_init ?_ ?_
  · refine codeAny_of_tree ?_
    show wpAny _ A.in1.in1 (do checkBuiltinCall "bool.__new__" ⟨[.type "bool", v], []⟩; again (.builtin "bool.__new__" ⟨[.type "bool", v], []⟩)) _ _ s
    refine wpAny_bind (wpAny_of_eq (PySem.F.newCall_bool_1 _) (wpAny_pure ⟨plainId_quiet (by decide +kernel) _, codeAny_builtin PySem.F.entry_bool_new ?_⟩))
    rw [Around.under_plainId (by decide +kernel) _]
    unfold Builtin.«bool.__new__»
    have f1 := PySem.F.conv_sub_bool
    repeat (any_goals (first | assumption | wp_step))
    exact wpAny_mono (show wpAny (model prog w) A.in1.in1 (truthy v) _ _ _ from h) (fun b s' hb => wpAny_pure ⟨b, rfl, hb⟩) (fun e s' he => he)
  · rintro obj s₁ ⟨b, rfl, hq⟩
    exact ⟨PySem.typeIs_bool _ _, PySem.F.args_object_init_2 _ _, object_init_meets PySem.F.called_bool.init.lookup PySem.F.called_bool.made (by decide) prog w A.in1 _ s₁ ⟨PySem.typeIs_bool _ _, rfl, hq⟩⟩
section
variable {X : Cx} {tg e : Expr} {wi wj : TI}
/-- either reading of what is walked -/
theorem pi_or (h : PI X tg e wi) (j : PI X tg e wj) : PI X tg e (fun σ H R => wi σ H R ∨ wj σ H R) := ⟨fun pins s σ H R I q => by
  rcases q with q | q
  · exact h.run pins s σ H R I q
  · exact j.run pins s σ H R I q⟩
end
/-- the turns of a dict comprehension, by what holds ahead of each -/
theorem dc_turns {J : It} {n : Nat} {Okay : Hp → Prop} {Y : Nat → Hp → V → Hp → Prop} (w : Walk J n Okay Y) {g : TG} {tt : TT} {tk tv : TE} {vs : List Nat} {σ : L2.St} {H0 : Hp} {D : Addr} {Fin : Hp → Prop} (Pv : Nat → Hp → Prop)
    (base : Pv 0 (upd H0 D (.dK []))) (okay : ∀ i H, i ≤ n → Pv i H → Okay H)
    (turn : ∀ i x H H', i < n → Pv i H → Y i H x H' → g x (wipe σ vs) H' fun σ2 H2 => wipe σ2 vs = wipe σ vs ∧ tt σ2 H2 fun b H3 =>
      if b = true then tk σ2 H3 fun y H4 => tv σ2 H4 fun z H5 => ∃ kvs k, y = kV k ∧ H5 D = some (.dK kvs) ∧ kvs.length < sizeLine ∧ Pv (i + 1) (upd H5 D (.dK (putK kvs k z))) else Pv (i + 1) H3)
    (fin : ∀ H, Pv n H → Fin H) :
    ∃ W : Nat → Nat → Hp → Prop, (∃ m, W 0 m (upd H0 D (.dK []))) ∧ ∀ i m H, W i m H →
      (J.stop i H ∧ Fin H) ∨ (J.go i H ∧ ∃ Nx : Hp → Prop, (∀ H', Nx H' → ∃ m', m' < m ∧ W (i + 1) m' H') ∧ ∀ x H', J.yld i H x H' → g x (wipe σ vs) H' fun σ2 H2 => wipe σ2 vs = wipe σ vs ∧ tt σ2 H2 fun b H3 =>
        if b = true then tk σ2 H3 fun y H4 => tv σ2 H4 fun z H5 => ∃ kvs k, y = kV k ∧ H5 D = some (.dK kvs) ∧ kvs.length < sizeLine ∧ Nx (upd H5 D (.dK (putK kvs k z))) else Nx H3) := by
  refine ⟨fun j left T => left + j = n ∧ Pv j T, ⟨n, rfl, base⟩, fun j left T ⟨sum, here⟩ => ?_⟩
  have le : j ≤ n := by omega
  have oz := okay j T le here
  rcases Nat.lt_or_ge j n with lt | ge
  · refine .inr ⟨w.goes j T lt oz, Pv (j + 1), fun T' p' => ⟨n - (j + 1), by omega, by omega, p'⟩, fun x T' y => ?_⟩
    exact turn j x T T' lt here (w.yields j T x T' lt oz y)
  · obtain rfl : j = n := by omega
    exact .inl ⟨w.stops T oz, fin T here⟩
section
variable {X : Cx} {n : Nat} {a C0 dx g : Addr} {sp : Sp}
theorem ins_here {pins : List (Addr × Obj)} {σ : L2.St} {H : Hp} {s : Shared} {fs : List (Str × V)} (I : Inv X pins σ H s) (e : H a = some (.ins C0 dx fs)) : ∃ ox od, PySem.W.InstAt s.heap a ox C0 (some od) := by
  obtain ⟨mA, O, _⟩ := ins_get I.hok e
  obtain ⟨od, J, _⟩ := O.look
  exact ⟨_, od, J⟩
/-- bool(x): x's class has a __bool__ -/
theorem call_boolM {CX : CXT} {E : XK} (at_ : PySem.W.findIn X.K (.ref C0) "__bool__" = some (some (.ref g))) (fn : PySem.W.isFn X.K (.ref g) = true) (F : FnR X.prog X.w X.K X.mg X.base CX n g sp) (hr : Room (n + 2) X.A) (hx : Passes CX X E) :
    CallR X (.type "bool") (fun xs H Q => ∃ a dx fs, xs = [.ref a] ∧ H a = some (.ins C0 dx fs) ∧ sp [.ref a] H (fun v H1 => ∃ b, v = .bl b ∧ Q (.bl b) H1) E) := by
  intro pins s σ H xs us Q I r h
  obtain ⟨a, dx, fs, rfl, ea, q⟩ := h
  obtain ⟨u, rfl, rx⟩ := vals1 r
  cases (show u = Value.ref a from rx)
  obtain ⟨ox, od, J⟩ := ins_here I ea
  obtain ⟨m, hF⟩ := I.fr
  refine bool_asks (PySem.W.truthy_K hF I.ok.mod.kin J at_ fn (wpAny_call (codeAny_mono (F X.A.in1.in1 X.stack s H [.ref a] [.ref a] _ E hr.in1.in1 I.env0.in1.in1 (.cons rfl .nil) q) fun r s' hq => ?_)))
  cases r with
  | error e => exact hx pins σ H s e s' I hq
  | ok fl =>
    cases fl with
    | ret u =>
      obtain ⟨v, H1, I1, rv, b, eb, z⟩ := I.after hq
      subst eb
      cases rv
      exact ⟨.bl b, H1, I1, rfl, z⟩
    | next => exact False.elim hq
    | brk => exact False.elim hq
    | cont => exact False.elim hq
/-- bool(x): x's class has neither __bool__ nor __len__ -/
theorem call_boolN (nb : PySem.W.findIn X.K (.ref C0) "__bool__" = some none) (nl : PySem.W.findIn X.K (.ref C0) "__len__" = some none) :
    CallR X (.type "bool") (fun xs H Q => ∃ a dx fs, xs = [.ref a] ∧ H a = some (.ins C0 dx fs) ∧ Q (.bl true) H) := by
  intro pins s σ H xs us Q I r h
  obtain ⟨a, dx, fs, rfl, ea, q⟩ := h
  obtain ⟨u, rfl, rx⟩ := vals1 r
  cases (show u = Value.ref a from rx)
  obtain ⟨ox, od, J⟩ := ins_here I ea
  obtain ⟨m, hF⟩ := I.fr
  exact bool_asks (PySem.W.truthy_K0 hF I.ok.mod.kin J nb nl ⟨.bl true, H, I, rfl, q⟩)
end
end Lw
end
section
set_option maxRecDepth 100000
set_option maxHeartbeats 4000000
/-! The data layer: values as trees, the objects that are data (G) apart from those that still change. -/
namespace Td
open PySem PySem.Spec PyProof.Rows L2 Lw
/-- a value as a tree -/
inductive D where
  | non | bl (b : Bool) | int (i : Int) | str (x : Str) | ty (n : String) | fn (a : Addr) | pen
  | tup (xs : List D) | lst (xs : List D) | dic (kvs : List (Key × D)) | obj (C : Addr) (fs : List (Str × D)) | exc (C : Addr) (fs : List (Str × D))
/-- where the pen stands, if there is one; its cells' place -/
structure PP where
  p : Option Addr
  c : Addr
/-- what a pen holds: its cells, the number of the next one, what is left of a great one -/
structure Pn where
  ns : List Int
  i : Int
  r : Int
mutual
/-- v stands for d; G: the objects that are data, they never change -/
inductive Dat (K : PySem.W.Frag) (pp : PP) (G : Hp) : V → D → Prop
  | non : Dat K pp G .non .non
  | bl (b : Bool) : Dat K pp G (.bl b) (.bl b)
  | int (i : Int) : Dat K pp G (.int i) (.int i)
  | str (x : Str) : Dat K pp G (.str x) (.str x)
  | ty (n : String) : Dat K pp G (.ty n) (.ty n)
  | fn {a : Addr} : (K.lookup a).isSome = true → Dat K pp G (.ref a) (.fn a)
  | pen {p : Addr} : pp.p = some p → Dat K pp G (.ref p) .pen
  | tup {a : Addr} {xs : List V} {ds : List D} : G a = some (.tup xs) → DatL K pp G xs ds → Dat K pp G (.ref a) (.tup ds)
  | lst {a : Addr} {xs : List V} {ds : List D} : G a = some (.lst xs) → DatL K pp G xs ds → Dat K pp G (.ref a) (.lst ds)
  | dic {a : Addr} {kvs : List (Key × V)} {ds : List (Key × D)} : G a = some (.dK kvs) → kvs.map (·.1) = ds.map (·.1) → DatL K pp G (kvs.map (·.2)) (ds.map (·.2)) → Dat K pp G (.ref a) (.dic ds)
  | obj {a C dx : Addr} {fs : List (Str × V)} {ds : List (Str × D)} : G a = some (.ins C dx fs) → G dx = some (.own a) → fs.map (·.1) = ds.map (·.1) → DatL K pp G (fs.map (·.2)) (ds.map (·.2)) → Dat K pp G (.ref a) (.obj C ds)
  | exc {a C d : Addr} {fs : List (Str × V)} {ds : List (Str × D)} : G a = some (exk a C d) → G d = some (.xd fs) → fs.map (·.1) = ds.map (·.1) → DatL K pp G (fs.map (·.2)) (ds.map (·.2)) → Dat K pp G (.ref a) (.exc C ds)
inductive DatL (K : PySem.W.Frag) (pp : PP) (G : Hp) : List V → List D → Prop
  | nil : DatL K pp G [] []
  | cons {v : V} {vs : List V} {d : D} {ds : List D} : Dat K pp G v d → DatL K pp G vs ds → DatL K pp G (v :: vs) (d :: ds)
end
section
variable {K : PySem.W.Frag} {pp : PP} {G G' : Hp}
mutual
theorem Dat.keep (s : Same G G') : ∀ {v : V} {d : D}, Dat K pp G v d → Dat K pp G' v d
  | _, _, .non => .non
  | _, _, .bl b => .bl b
  | _, _, .int i => .int i
  | _, _, .str x => .str x
  | _, _, .ty n => .ty n
  | _, _, .fn h => .fn h
  | _, _, .pen h => .pen h
  | _, _, .tup h a => .tup (s _ _ h) (DatL.keep s a)
  | _, _, .lst h a => .lst (s _ _ h) (DatL.keep s a)
  | _, _, .dic h e a => .dic (s _ _ h) e (DatL.keep s a)
  | _, _, .obj h h2 e a => .obj (s _ _ h) (s _ _ h2) e (DatL.keep s a)
  | _, _, .exc h h2 e a => .exc (s _ _ h) (s _ _ h2) e (DatL.keep s a)
theorem DatL.keep (s : Same G G') : ∀ {vs : List V} {ds : List D}, DatL K pp G vs ds → DatL K pp G' vs ds
  | _, _, .nil => .nil
  | _, _, .cons h t => .cons (Dat.keep s h) (DatL.keep s t)
end
theorem DatL.length : ∀ {vs : List V} {ds : List D}, DatL K pp G vs ds → vs.length = ds.length
  | _, _, .nil => rfl
  | _, _, .cons _ t => congrArg Nat.succ t.length
theorem DatL.get : ∀ {vs : List V} {ds : List D} {i : Nat} {d : D}, DatL K pp G vs ds → ds[i]? = some d → ∃ v, vs[i]? = some v ∧ Dat K pp G v d
  | _, _, _, _, .nil, e => by simp at e
  | _, _, 0, _, .cons h _, e => by simp at e; subst e; exact ⟨_, rfl, h⟩
  | _, _, i + 1, d, .cons _ t, e => by
    obtain ⟨v, h1, h2⟩ := DatL.get (i := i) (d := d) t (by simpa using e)
    exact ⟨v, by simpa using h1, h2⟩
theorem DatL.get' : ∀ {vs : List V} {ds : List D} {i : Nat} {v : V}, DatL K pp G vs ds → vs[i]? = some v → ∃ d, ds[i]? = some d ∧ Dat K pp G v d
  | _, _, _, _, .nil, e => by simp at e
  | _, _, 0, _, .cons h _, e => by simp at e; subst e; exact ⟨_, rfl, h⟩
  | _, _, i + 1, d, .cons _ t, e => by
    obtain ⟨v, h1, h2⟩ := DatL.get' (i := i) (v := d) t (by simpa using e)
    exact ⟨v, by simpa using h1, h2⟩
theorem DatL.app : ∀ {vs ws : List V} {ds es : List D}, DatL K pp G vs ds → DatL K pp G ws es → DatL K pp G (vs ++ ws) (ds ++ es)
  | _, _, _, _, .nil, s => s
  | _, _, _, _, .cons h t, s => .cons h (t.app s)
theorem DatL.take : ∀ (n : Nat) {vs : List V} {ds : List D}, DatL K pp G vs ds → DatL K pp G (vs.take n) (ds.take n)
  | 0, _, _, _ => .nil
  | _ + 1, _, _, .nil => .nil
  | n + 1, _, _, .cons h t => .cons h (t.take n)
theorem DatL.drop : ∀ (n : Nat) {vs : List V} {ds : List D}, DatL K pp G vs ds → DatL K pp G (vs.drop n) (ds.drop n)
  | 0, _, _, h => h
  | _ + 1, _, _, .nil => .nil
  | n + 1, _, _, .cons _ t => t.drop n
theorem DatL.set {v : V} {d : D} (h : Dat K pp G v d) : ∀ (i : Nat) {vs : List V} {ds : List D}, DatL K pp G vs ds → DatL K pp G (vs.set i v) (ds.set i d)
  | _, _, _, .nil => .nil
  | 0, _, _, .cons _ t => .cons h t
  | i + 1, _, _, .cons q t => .cons q (DatL.set h i t)
theorem DatL.rev {vs : List V} {ds : List D} (h : DatL K pp G vs ds) : DatL K pp G vs.reverse ds.reverse := by
  induction vs generalizing ds with
  | nil => cases h; exact .nil
  | cons v t ih =>
    cases h with
    | cons a b =>
      rw [List.reverse_cons, List.reverse_cons]
      exact (ih b).app (.cons a .nil)
/-- plain lists of one kind -/
theorem datL_int : ∀ (ns : List Int), DatL K pp G (ns.map V.int) (ns.map D.int)
  | [] => .nil
  | n :: t => .cons (.int n) (datL_int t)
theorem datL_str : ∀ (ns : List Str), DatL K pp G (ns.map V.str) (ns.map D.str)
  | [] => .nil
  | n :: t => .cons (.str n) (datL_str t)
theorem datL_bl : ∀ (ns : List Bool), DatL K pp G (ns.map V.bl) (ns.map D.bl)
  | [] => .nil
  | n :: t => .cons (.bl n) (datL_bl t)
theorem DatL.ofInt : ∀ {vs : List V} {ns : List Int}, DatL K pp G vs (ns.map D.int) → vs = ns.map V.int
  | _, [], .nil => rfl
  | _, _ :: _, .cons (.int _) t => by rw [t.ofInt, List.map_cons]
theorem DatL.ofStr : ∀ {vs : List V} {ns : List Str}, DatL K pp G vs (ns.map D.str) → vs = ns.map V.str
  | _, [], .nil => rfl
  | _, _ :: _, .cons (.str _) t => by rw [t.ofStr, List.map_cons]
theorem DatL.ofBl : ∀ {vs : List V} {ns : List Bool}, DatL K pp G vs (ns.map D.bl) → vs = ns.map V.bl
  | _, [], .nil => rfl
  | _, _ :: _, .cons (.bl _) t => by rw [t.ofBl, List.map_cons]
end

/-- what a slot holds: nothing that is known; data; a list, a dict, an instance that may still change -/
inductive SV where
  | un | fz (d : D) | ol (ds : List D) | od (kvs : List (Key × D)) | oo (C : Addr) (fs : List (Str × D))
def SV.own : SV → Bool
  | .un => false
  | .fz _ => false
  | _ => true
abbrev SL := List SV
/-- what is fixed through a body: the written part, the pen's place, what may change of what stood at the entry, the data and the heap at the entry -/
structure Cfg where
  K : PySem.W.Frag
  pp : PP
  mu : List Addr
  G0 : Hp
  H0 : Hp
def SlR (C : Cfg) (G H : Hp) (v : Option (Option V)) : SV → Prop
  | .un => True
  | .fz d => ∃ x, v = some (some x) ∧ Dat C.K C.pp G x d
  | .ol ds => ∃ a xs, v = some (some (.ref a)) ∧ H a = some (.lst xs) ∧ G a = none ∧ C.H0 a = none ∧ C.pp.p ≠ some a ∧ DatL C.K C.pp G xs ds
  | .od ds => ∃ a kvs, v = some (some (.ref a)) ∧ H a = some (.dK kvs) ∧ G a = none ∧ C.H0 a = none ∧ kvs.map (·.1) = ds.map (·.1) ∧ DatL C.K C.pp G (kvs.map (·.2)) (ds.map (·.2))
  | .oo T ds => ∃ a dx fs, v = some (some (.ref a)) ∧ H a = some (.ins T dx fs) ∧ H dx = some (.own a) ∧ G a = none ∧ (∃ r, C.mu = a :: dx :: r) ∧ fs.map (·.1) = ds.map (·.1) ∧ DatL C.K C.pp G (fs.map (·.2)) (ds.map (·.2))
/-- data stands in the heap; a dict may be locked -/
def Su (H : Hp) (a : Addr) (o : HO) : Prop := H a = some o ∨ ((∃ kvs, o = .dK kvs) ∧ Rd H a o)
theorem Su.rd {H : Hp} {a : Addr} {o : HO} (h : Su H a o) : Rd H a o := h.elim .inl fun h => h.2
theorem Su.ex {H : Hp} {a : Addr} {o : HO} (h : Su H a o) (n : ∀ kvs, o ≠ .dK kvs) : H a = some o := h.elim id fun ⟨⟨k, e⟩, _⟩ => absurd e (n k)
theorem Su.map {H H' : Hp} {a : Addr} {o : HO} (h : Su H a o) (f : ∀ u, H a = some u → H' a = some u) : Su H' a o := h.elim (fun h => .inl (f _ h)) fun ⟨k, r⟩ => .inr ⟨k, r.elim (fun r => .inl (f _ r)) fun ⟨u, r⟩ => .inr ⟨u, f _ r⟩⟩
theorem Su.live {H : Hp} {a : Addr} {o : HO} (h : Su H a o) : H a ≠ none := by
  rcases h.rd with h | ⟨u, h⟩ <;> rw [h] <;> simp
/-- the slots, the pen, the data and the heap of a body that runs; lk: what is locked by a walk -/
abbrev Lk := List (Addr × Obj × List (Key × V))
structure StR (C : Cfg) (lk : Lk) (σ : L2.St) (ρ : SL) (pn : Pn) (G H : Hp) : Prop where
  sub : ∀ a o, G a = some o → Su H a o
  g0 : Same C.G0 G
  new : ∀ a, G a ≠ none → C.G0 a ≠ none ∨ C.H0 a = none
  keep : ∀ a o, C.H0 a = some o → a ∉ C.mu → Rd H a o ∧ (a ∉ lk.map (·.1) → H a = some o)
  live : ∀ a, C.H0 a ≠ none → H a ≠ none
  lkG : ∀ p ∈ lk, G p.1 = some (.dK p.2.2) ∧ H p.1 = some (.frz p.2.1 (.dK p.2.2)) ∧ ∀ o u, C.H0 p.1 = some (.frz o u) → o = p.2.1 ∧ u = .dK p.2.2
  muG : ∀ a ∈ C.mu, G a = none ∧ H a ≠ none ∧ C.H0 a ≠ none
  pen : ∀ p, C.pp.p = some p → p ∈ C.mu ∧ G p = none ∧ PenAt H p C.pp.c pn.ns pn.i pn.r
  len : ρ.length = σ.length
  slot : ∀ (i : Nat) (sv : SV), ρ[i]? = some sv → SlR C G H σ[i]? sv
  apart : ∀ (i j : Nat) (s t : SV) (a : Addr), ρ[i]? = some s → ρ[j]? = some t → s.own = true → t.own = true → σ[i]? = some (some (.ref a)) → σ[j]? = some (some (.ref a)) → i = j
/-- from (G, H) to (G', H'): only new objects, and the pen -/
abbrev exC (K : PySem.W.Frag) (pp : PP) (G H : Hp) : Cfg := ⟨K, pp, pp.p.toList, G, H⟩
def Ex (K : PySem.W.Frag) (pp : PP) (G H : Hp) (pn' : Pn) (G' H' : Hp) : Prop := StR (exC K pp G H) [] [] [] pn' G' H'
section
variable {C : Cfg} {lk : Lk} {σ : L2.St} {ρ : SL} {pn pn' : Pn} {G H G' H' : Hp}
theorem StR.ppmu (S : StR C lk σ ρ pn G H) {p : Addr} (h : C.pp.p = some p) : p ∈ C.mu := (S.pen p h).1
theorem Ex.same {K : PySem.W.Frag} {pp : PP} (x : Ex K pp G H pn' G' H') : Same G G' := x.g0
theorem Ex.at {K : PySem.W.Frag} {pp : PP} (x : Ex K pp G H pn' G' H') {a : Addr} {o : HO} (h : H a = some o) (n : pp.p ≠ some a) : H' a = some o := by
  refine (x.keep a o h ?_).2 (by simp)
  intro z
  cases q : pp.p with
  | none => simp [exC, q] at z
  | some p =>
    have e : a = p := by simpa [exC, q] using z
    exact n (by rw [q, e])
theorem rd_none {H : Hp} {a : Addr} {o : HO} (h : Rd H a o) : H a ≠ none := by
  rcases h with h | ⟨u, h⟩ <;> rw [h] <;> simp
theorem SlR.ex {v : Option (Option V)} {sv : SV} (S : StR C lk σ ρ pn G H) (x : Ex C.K C.pp G H pn' G' H') (h : SlR C G H v sv) : SlR C G' H' v sv := by
  have np : ∀ {a : Addr} {o : HO}, H a = some o → (∀ xs, o ≠ .lst xs) → C.pp.p ≠ some a := fun {a o} e n z => by
    obtain ⟨_, _, P⟩ := S.pen a z
    rw [P.ob] at e
    exact n _ (Option.some.inj e).symm
  have gn : ∀ {a : Addr} {o : HO}, H a = some o → G a = none → G' a = none := fun {a o} e n => by
    cases q : G' a with
    | none => rfl
    | some u =>
      rcases x.new a (by rw [q]; simp) with z | z
      · exact absurd n z
      · have z' : H a = none := z
        rw [e] at z'
        cases z'
  cases sv with
  | un => trivial
  | fz d => obtain ⟨y, e, q⟩ := h; exact ⟨y, e, q.keep x.same⟩
  | ol ds =>
    obtain ⟨a, xs, e, q, g, n, z, l⟩ := h
    exact ⟨a, xs, e, x.at q z, gn q g, n, z, l.keep x.same⟩
  | od ds =>
    obtain ⟨a, xs, e, q, g, n, k, l⟩ := h
    exact ⟨a, xs, e, x.at q (np q (by intro _ z; cases z)), gn q g, n, k, l.keep x.same⟩
  | oo T ds =>
    obtain ⟨a, dx, fs, e, q, q2, g, n, k, l⟩ := h
    exact ⟨a, dx, fs, e, x.at q (np q (by intro _ z; cases z)), x.at q2 (np q2 (by intro _ z; cases z)), gn q g, n, k, l.keep x.same⟩
/-- the frame: a step that makes new objects (and moves the pen) keeps the slots -/
theorem StR.step (S : StR C lk σ ρ pn G H) (x : Ex C.K C.pp G H pn' G' H') : StR C lk σ ρ pn' G' H' where
  sub := x.sub
  g0 := fun a o h => x.same a o (S.g0 a o h)
  new := fun a h => by
    rcases x.new a h with z | z
    · exact S.new a z
    · have z' : H a = none := z
      right
      cases q : C.H0 a with
      | none => rfl
      | some o => exact absurd z' (S.live a (by rw [q]; simp))
  keep := fun a o h n => by
    obtain ⟨k1, k2⟩ := S.keep a o h n
    have np : C.pp.p ≠ some a := fun z => n (S.ppmu z)
    refine ⟨?_, fun l => x.at (k2 l) np⟩
    rcases k1 with k1 | ⟨u, k1⟩
    · exact .inl (x.at k1 np)
    · exact .inr ⟨u, x.at k1 np⟩
  live := fun a h => by
    have z := S.live a h
    exact x.live a z
  lkG := fun p h => by
    obtain ⟨z1, z2, z3⟩ := S.lkG p h
    refine ⟨x.same _ _ z1, x.at z2 (fun q => ?_), z3⟩
    rw [(S.pen _ q).2.1] at z1
    cases z1
  muG := fun a h => by
    obtain ⟨z1, z2, z3⟩ := S.muG a h
    refine ⟨?_, x.live a z2, z3⟩
    cases q : G' a with
    | none => rfl
    | some o =>
      rcases x.new a (by rw [q]; simp) with y | y
      · exact absurd z1 y
      · exact absurd y z2
  pen := fun p h => by
    obtain ⟨_, q1, q2⟩ := x.pen p h
    exact ⟨S.ppmu h, q1, q2⟩
  len := S.len
  slot := fun i sv h => SlR.ex S x (S.slot i sv h)
  apart := S.apart
/-- nothing has happened yet -/
theorem StR.ex0 (S : StR C lk σ ρ pn G H) : Ex C.K C.pp G H pn G H where
  sub := S.sub
  g0 := fun _ _ h => h
  new := fun a h => .inl h
  keep := fun a o h _ => ⟨.inl h, fun _ => h⟩
  live := fun a h => h
  lkG := fun a h => by cases h
  muG := fun a h => by
    have h' : C.pp.p = some a := by
      cases q : C.pp.p with
      | none => simp [exC, q] at h
      | some p =>
        have z : a = p := by simpa [exC, q] using h
        rw [z]
    obtain ⟨_, q1, P⟩ := S.pen a h'
    exact ⟨q1, by rw [P.ob]; simp, by show H a ≠ none; rw [P.ob]; simp⟩
  pen := fun p h => by
    obtain ⟨_, q1, q2⟩ := S.pen p h
    have h' : C.pp.p = some p := h
    refine ⟨?_, q1, q2⟩
    show p ∈ C.pp.p.toList
    rw [h']
    simp
  len := rfl
  slot := fun i sv h => by simp at h
  apart := fun i j s t a h => by simp at h
theorem Ex.trans {K : PySem.W.Frag} {pp : PP} {G2 H2 : Hp} {pn2 : Pn} (x : Ex K pp G H pn' G' H') (y : Ex K pp G' H' pn2 G2 H2) : Ex K pp G H pn2 G2 H2 := StR.step (C := exC K pp G H) x y
/-- a new object that is data at once -/
theorem StR.exG (S : StR C lk σ ρ pn G H) {a : Addr} {o : HO} (n : H a = none) : Ex C.K C.pp G H pn (upd G a o) (upd H a o) := by
  have gn : G a = none := by
    cases q : G a with
    | none => rfl
    | some u => exact absurd n (S.sub a u q).live
  have ne : ∀ {b : Addr} {u : HO}, H b = some u → b ≠ a := fun e z => by rw [z, n] at e; cases e
  refine ⟨fun b u e => ?_, Same.new gn, fun b e => ?_, fun b u e _ => ?_, fun b e => ?_, (fun b e => by cases e), (fun b e => by
    have e' : C.pp.p = some b := by
      cases q : C.pp.p with
      | none => simp [exC, q] at e
      | some p => 
        have z : b = p := by simpa [exC, q] using e
        rw [z]
    obtain ⟨_, q1, P⟩ := S.pen b e'
    have nb := ne P.ob
    exact ⟨by rw [upd_ne nb]; exact q1, by rw [upd_ne nb, P.ob]; simp, by show H b ≠ none; rw [P.ob]; simp⟩), fun p e => ?_, rfl, (fun i sv h => by simp at h), fun i j s t a h => by simp at h⟩
  · by_cases h : b = a
    · subst h
      rw [upd_same] at e
      cases e
      exact .inl upd_same
    · rw [upd_ne h] at e
      exact (S.sub b u e).map fun w q => by rw [upd_ne h]; exact q
  · by_cases h : b = a
    · subst h
      exact .inr n
    · rw [upd_ne h] at e
      exact .inl e
  · have e' : H b = some u := e
    have z : upd H a o b = some u := by rw [upd_ne (ne e')]; exact e'
    exact ⟨.inl z, fun _ => z⟩
  · have e' : H b ≠ none := e
    by_cases h : b = a
    · subst h; exact absurd n e'
    · rw [upd_ne h]; exact e'
  · have e' : C.pp.p = some p := e
    obtain ⟨_, q1, P⟩ := S.pen p e'
    have h1 := ne P.ob
    have h2 := ne P.ce
    refine ⟨?_, by rw [upd_ne h1]; exact q1, ⟨by rw [upd_ne h1]; exact P.ob, by rw [upd_ne h2]; exact P.ce, P.i0, P.r0, P.l63⟩⟩
    show p ∈ C.pp.p.toList
    rw [e']
    simp
/-- a new object that may still change -/
theorem StR.exH (S : StR C lk σ ρ pn G H) {a : Addr} {o : HO} (n : H a = none) : Ex C.K C.pp G H pn G (upd H a o) := by
  have ne : ∀ {b : Addr} {u : HO}, H b = some u → b ≠ a := fun e z => by rw [z, n] at e; cases e
  refine ⟨fun b u e => ?_, fun _ _ h => h, fun b e => .inl e, fun b u e _ => ?_, fun b e => ?_, (fun b e => by cases e), (fun b e => by
    have e' : C.pp.p = some b := by
      cases q : C.pp.p with
      | none => simp [exC, q] at e
      | some p => 
        have z : b = p := by simpa [exC, q] using e
        rw [z]
    obtain ⟨_, q1, P⟩ := S.pen b e'
    have nb := ne P.ob
    exact ⟨by  exact q1, by rw [upd_ne nb, P.ob]; simp, by show H b ≠ none; rw [P.ob]; simp⟩), fun p e => ?_, rfl, (fun i sv h => by simp at h), fun i j s t a h => by simp at h⟩
  · exact (S.sub b u e).map fun w q => by rw [upd_ne (ne q)]; exact q
  · have e' : H b = some u := e
    have z : upd H a o b = some u := by rw [upd_ne (ne e')]; exact e'
    exact ⟨.inl z, fun _ => z⟩
  · have e' : H b ≠ none := e
    by_cases h : b = a
    · subst h; exact absurd n e'
    · rw [upd_ne h]; exact e'
  · have e' : C.pp.p = some p := e
    obtain ⟨_, q1, P⟩ := S.pen p e'
    have h1 := ne P.ob
    have h2 := ne P.ce
    refine ⟨?_, q1, ⟨by rw [upd_ne h1]; exact P.ob, by rw [upd_ne h2]; exact P.ce, P.i0, P.r0, P.l63⟩⟩
    show p ∈ C.pp.p.toList
    rw [e']
    simp
end
end Td
end
section
set_option maxRecDepth 100000
set_option maxHeartbeats 4000000
/-! The data layer's judgements; names, slots. -/
namespace Td
open PySem PySem.Spec PyProof.Rows L2 Lw
/-- a slot may still change what stands at a -/
def OwnAt (σ : L2.St) (ρ : SL) (a : Addr) : Prop := ∃ (i : Nat) (sv : SV), ρ[i]? = some sv ∧ sv.own = true ∧ σ[i]? = some (some (.ref a))
section
variable {C : Cfg} {lk : Lk} {σ : L2.St} {ρ : SL} {pn pn' : Pn} {G H G' H' : Hp}
/-- the place of what a slot may still change -/
theorem SlR.place {v : Option (Option V)} {sv : SV} (h : SlR C G H v sv) (o : sv.own = true) : ∃ a ob, v = some (some (.ref a)) ∧ H a = some ob ∧ G a = none := by
  cases sv with
  | un => cases o
  | fz d => cases o
  | ol ds => obtain ⟨a, xs, e, q, g, _⟩ := h; exact ⟨a, _, e, q, g⟩
  | od ds => obtain ⟨a, xs, e, q, g, _⟩ := h; exact ⟨a, _, e, q, g⟩
  | oo T ds => obtain ⟨a, dx, fs, e, q, q2, g, _⟩ := h; exact ⟨a, _, e, q, g⟩
theorem StR.placed (S : StR C lk σ ρ pn G H) {i : Nat} {sv : SV} {a : Addr} (e : ρ[i]? = some sv) (o : sv.own = true) (ea : σ[i]? = some (some (.ref a))) : H a ≠ none ∧ G a = none := by
  obtain ⟨b, ob, e1, q, g⟩ := (S.slot i sv e).place o
  rw [ea] at e1
  cases e1
  exact ⟨by rw [q]; simp, g⟩
/-- more data, the heap as it was -/
theorem StR.more (S : StR C lk σ ρ pn G H) (s : Same G G') (sub : ∀ a o, G' a = some o → Su H a o) (new : ∀ a, G' a ≠ none → C.G0 a ≠ none ∨ C.H0 a = none) (mu : ∀ a ∈ C.mu, G' a = none)
    (own : ∀ (i : Nat) (sv : SV) (a : Addr), ρ[i]? = some sv → sv.own = true → σ[i]? = some (some (.ref a)) → G' a = none) : StR C lk σ ρ pn G' H where
  sub := sub
  g0 := fun a o h => s a o (S.g0 a o h)
  new := new
  keep := S.keep
  live := S.live
  lkG := fun p h => by
    obtain ⟨z1, z2⟩ := S.lkG p h
    exact ⟨s _ _ z1, z2⟩
  muG := fun a h => ⟨mu a h, (S.muG a h).2⟩
  pen := fun p h => by
    obtain ⟨q0, _, q2⟩ := S.pen p h
    exact ⟨q0, mu p q0, q2⟩
  len := S.len
  slot := fun i sv h => by
    have q := S.slot i sv h
    cases sv with
    | un => trivial
    | fz d => obtain ⟨y, e, q⟩ := q; exact ⟨y, e, q.keep s⟩
    | ol ds => obtain ⟨a, xs, e, q, g, n, z, l⟩ := q; exact ⟨a, xs, e, q, own i _ a h rfl e, n, z, l.keep s⟩
    | od ds => obtain ⟨a, xs, e, q, g, n, z, l⟩ := q; exact ⟨a, xs, e, q, own i _ a h rfl e, n, z, l.keep s⟩
    | oo T ds => obtain ⟨a, dx, fs, e, q, q2, g, n, k, l⟩ := q; exact ⟨a, dx, fs, e, q, q2, own i _ a h rfl e, n, k, l.keep s⟩
  apart := S.apart
/-- another reading of the slots -/
theorem StR.slots {σ' : L2.St} {ρ' : SL} (S : StR C lk σ ρ pn G H) (len : ρ'.length = σ'.length) (slot : ∀ (i : Nat) (sv : SV), ρ'[i]? = some sv → SlR C G H σ'[i]? sv)
    (apart : ∀ (i j : Nat) (s t : SV) (a : Addr), ρ'[i]? = some s → ρ'[j]? = some t → s.own = true → t.own = true → σ'[i]? = some (some (.ref a)) → σ'[j]? = some (some (.ref a)) → i = j) : StR C lk σ' ρ' pn G H :=
  ⟨S.sub, S.g0, S.new, S.keep, S.live, S.lkG, S.muG, S.pen, len, slot, apart⟩
theorem StR.forget (S : StR C lk σ ρ pn G H) : StR C lk [] [] pn G H := S.slots rfl (fun i sv h => by simp at h) fun i j s t a h => by simp at h
/-- a slot's content is set to data -/
theorem StR.setFz (S : StR C lk σ ρ pn G H) {x : V} {d : D} (h : Dat C.K C.pp G x d) (i : Nat) : StR C lk (σ.set i (some x)) (ρ.set i (.fz d)) pn G H := by
  refine S.slots (by simp [S.len]) (fun j sv e => ?_) fun j k s t a e1 e2 o1 o2 a1 a2 => ?_
  · by_cases hj : i = j
    · subst hj
      by_cases hl : i < ρ.length
      · rw [List.getElem?_set_self hl] at e
        cases e
        exact ⟨x, List.getElem?_set_self (by rw [← S.len]; exact hl), h⟩
      · rw [List.getElem?_eq_none (by simp; omega)] at e
        cases e
    · rw [List.getElem?_set_ne hj] at e ⊢
      exact S.slot j sv e
  · have ne : ∀ {m : Nat} {u : SV}, (ρ.set i (.fz d))[m]? = some u → u.own = true → i ≠ m := fun {m u} e o z => by
      subst z
      by_cases hl : i < ρ.length
      · rw [List.getElem?_set_self hl] at e
        cases e
        cases o
      · rw [List.getElem?_eq_none (by simp; omega)] at e
        cases e
    have n1 := ne e1 o1
    have n2 := ne e2 o2
    rw [List.getElem?_set_ne n1] at e1 a1
    rw [List.getElem?_set_ne n2] at e2 a2
    exact S.apart j k s t a e1 e2 o1 o2 a1 a2
/-- a slot is forgotten, its value another one or none -/
theorem StR.setUn (S : StR C lk σ ρ pn G H) (x : Option V) (i : Nat) : StR C lk (σ.set i x) (ρ.set i .un) pn G H := by
  refine S.slots (by simp [S.len]) (fun j sv e => ?_) fun j k s t a e1 e2 o1 o2 a1 a2 => ?_
  · by_cases hj : i = j
    · subst hj
      by_cases hl : i < ρ.length
      · rw [List.getElem?_set_self hl] at e
        cases e
        trivial
      · rw [List.getElem?_eq_none (by simp; omega)] at e
        cases e
    · rw [List.getElem?_set_ne hj] at e ⊢
      exact S.slot j sv e
  · have ne : ∀ {m : Nat} {u : SV}, (ρ.set i .un)[m]? = some u → u.own = true → i ≠ m := fun {m u} e o z => by
      subst z
      by_cases hl : i < ρ.length
      · rw [List.getElem?_set_self hl] at e
        cases e
        cases o
      · rw [List.getElem?_eq_none (by simp; omega)] at e
        cases e
    have n1 := ne e1 o1
    have n2 := ne e2 o2
    rw [List.getElem?_set_ne n1] at e1 a1
    rw [List.getElem?_set_ne n2] at e2 a2
    exact S.apart j k s t a e1 e2 o1 o2 a1 a2
/-- a slot's content is set to what may change -/
theorem StR.setOwn (S : StR C lk σ ρ pn G H) {a : Addr} {sv : SV} (i : Nat) (h : SlR C G H (some (some (.ref a))) sv) (n : ∀ (j : Nat) (s : SV), j ≠ i → ρ[j]? = some s → s.own = true → σ[j]? ≠ some (some (.ref a))) : StR C lk (σ.set i (some (.ref a))) (ρ.set i sv) pn G H := by
  have lt : ∀ {m : Nat} {u : SV}, (ρ.set i sv)[m]? = some u → m < ρ.length := fun {m u} e => by
    have := (List.getElem?_eq_some_iff.mp e).1
    simpa using this
  refine S.slots (by simp [S.len]) (fun j sv' e => ?_) fun j k s t b e1 e2 o1 o2 a1 a2 => ?_
  · have hl := lt e
    by_cases hj : i = j
    · subst hj
      rw [List.getElem?_set_self hl] at e
      cases e
      rw [List.getElem?_set_self (by rw [← S.len]; exact hl)]
      exact h
    · rw [List.getElem?_set_ne hj] at e ⊢
      exact S.slot j sv' e
  · have l1 := lt e1
    have l2 := lt e2
    have at_ : ∀ {m : Nat}, i = m → m < ρ.length → (σ.set i (some (V.ref a)))[m]? = some (some (.ref b)) → b = a := fun {m} z hl q => by
      subst z
      rw [List.getElem?_set_self (by rw [← S.len]; exact hl)] at q
      cases q
      rfl
    by_cases h1 : i = j
    · by_cases h2 : i = k
      · exact h1.symm.trans h2
      · have := at_ h1 l1 a1
        subst this
        rw [List.getElem?_set_ne h2] at e2 a2
        exact absurd a2 (n k t (Ne.symm h2) e2 o2)
    · by_cases h2 : i = k
      · have := at_ h2 l2 a2
        subst this
        rw [List.getElem?_set_ne h1] at e1 a1
        exact absurd a1 (n j s (Ne.symm h1) e1 o1)
      · rw [List.getElem?_set_ne h1] at e1 a1
        rw [List.getElem?_set_ne h2] at e2 a2
        exact S.apart j k s t b e1 e2 o1 o2 a1 a2
/-- the same values, another reading of one slot -/
theorem StR.rho (S : StR C lk σ ρ pn G H) (i : Nat) {sv : SV} (h : SlR C G H σ[i]? sv) (n : sv.own = false) : StR C lk σ (ρ.set i sv) pn G H := by
  refine S.slots (by simp [S.len]) (fun j sv' e => ?_) fun j k s t a e1 e2 o1 o2 a1 a2 => ?_
  · by_cases hj : i = j
    · subst hj
      by_cases hl : i < ρ.length
      · rw [List.getElem?_set_self hl] at e
        cases e
        exact h
      · rw [List.getElem?_eq_none (by simp; omega)] at e
        cases e
    · rw [List.getElem?_set_ne hj] at e
      exact S.slot j sv' e
  · have ne : ∀ {m : Nat} {u : SV}, (ρ.set i sv)[m]? = some u → u.own = true → i ≠ m := fun {m u} e o z => by
      subst z
      by_cases hl : i < ρ.length
      · rw [List.getElem?_set_self hl] at e
        cases e
        rw [n] at o
        cases o
      · rw [List.getElem?_eq_none (by simp; omega)] at e
        cases e
    have n1 := ne e1 o1
    have n2 := ne e2 o2
    rw [List.getElem?_set_ne n1] at e1
    rw [List.getElem?_set_ne n2] at e2
    exact S.apart j k s t a e1 e2 o1 o2 a1 a2
theorem StR.froze (S : StR C lk σ ρ pn G H) {i : Nat} {sv : SV} {a : Addr} {o : HO} {d : D} (e : ρ[i]? = some sv) (ow : sv.own = true) (ea : σ[i]? = some (some (.ref a))) (h : H a = some o) (n : C.H0 a = none) (np : C.pp.p ≠ some a)
    (l : Dat C.K C.pp (upd G a o) (.ref a) d) : StR C lk σ (ρ.set i (.fz d)) pn (upd G a o) H := by
  have g := (S.placed e ow ea).2
  have S1 : StR C lk σ (ρ.set i .un) pn G H := S.rho i (sv := .un) trivial rfl
  have S2 : StR C lk σ (ρ.set i .un) pn (upd G a o) H := by
    refine S1.more (Same.new g) (fun b u q => ?_) (fun b q => ?_) (fun p q => ?_) fun j t b q1 q2 q3 => ?_
    · by_cases hb : b = a
      · subst hb
        rw [upd_same] at q
        cases q
        exact .inl h
      · rw [upd_ne hb] at q
        exact S.sub b u q
    · by_cases hb : b = a
      · subst hb
        exact .inr n
      · rw [upd_ne hb] at q
        exact S.new b q
    · rw [upd_ne (fun z => (S.muG p q).2.2 (by rw [z]; exact n))]
      exact (S.muG p q).1
    · have hj : i ≠ j := fun z => by
        subst z
        have hl := (List.getElem?_eq_some_iff.mp e).1
        rw [List.getElem?_set_self hl] at q1
        cases q1
        cases q2
      rw [List.getElem?_set_ne hj] at q1
      by_cases hb : b = a
      · subst hb
        exact absurd (S.apart i j _ _ _ e q1 ow q2 ea q3) hj
      · rw [upd_ne hb]
        exact (S.placed q1 q2 q3).2
  have S3 := S2.rho i (sv := .fz d) ⟨_, ea, l⟩ rfl
  rwa [List.set_set] at S3
/-- what may still change is data from now on -/
theorem StR.freezeL (S : StR C lk σ ρ pn G H) {i : Nat} {ds : List D} (e : ρ[i]? = some (.ol ds)) : ∃ x G', σ[i]? = some (some x) ∧ (Same G G' ∧ ∀ a, G' a ≠ none → G a ≠ none ∨ OwnAt σ ρ a) ∧ Dat C.K C.pp G' x (.lst ds) ∧ StR C lk σ (ρ.set i (.fz (.lst ds))) pn G' H := by
  obtain ⟨a, xs, ea, h, g, n, z, l⟩ := S.slot i _ e
  have s : Same G (upd G a (.lst xs)) := Same.new g
  have dt : Dat C.K C.pp (upd G a (.lst xs)) (.ref a) (.lst ds) := .lst upd_same (l.keep s)
  exact ⟨_, _, ea, ⟨s, fun b q => by
    by_cases hb : b = a
    · exact .inr ⟨i, _, e, rfl, by rw [hb]; exact ea⟩
    · rw [upd_ne hb] at q
      exact .inl q⟩, dt, S.froze e rfl ea h n z dt⟩
theorem StR.freezeD (S : StR C lk σ ρ pn G H) {i : Nat} {ds : List (Key × D)} (e : ρ[i]? = some (.od ds)) : ∃ x G', σ[i]? = some (some x) ∧ (Same G G' ∧ ∀ a, G' a ≠ none → G a ≠ none ∨ OwnAt σ ρ a) ∧ Dat C.K C.pp G' x (.dic ds) ∧ StR C lk σ (ρ.set i (.fz (.dic ds))) pn G' H := by
  obtain ⟨a, xs, ea, h, g, n, z, l⟩ := S.slot i _ e
  have s : Same G (upd G a (.dK xs)) := Same.new g
  have dt : Dat C.K C.pp (upd G a (.dK xs)) (.ref a) (.dic ds) := .dic upd_same z (l.keep s)
  refine ⟨_, _, ea, ⟨s, fun b q => by
    by_cases hb : b = a
    · exact .inr ⟨i, _, e, rfl, by rw [hb]; exact ea⟩
    · rw [upd_ne hb] at q
      exact .inl q⟩, dt, S.froze e rfl ea h n (fun q => ?_) dt⟩
  obtain ⟨_, _, P⟩ := S.pen a q
  rw [P.ob] at h
  cases h
end
/-- behind an expression nothing has changed but the pen -/
def Bu (pp : PP) (H H' : Hp) : Prop := ∀ a o, H a = some o → pp.p ≠ some a → H' a = some o
theorem Bu.refl {pp : PP} {H : Hp} : Bu pp H H := fun _ _ h _ => h
theorem Bu.trans {pp : PP} {H H1 H2 : Hp} (a : Bu pp H H1) (b : Bu pp H1 H2) : Bu pp H H2 := fun c o h n => b c o (a c o h n) n
theorem Ex.bu {K : PySem.W.Frag} {pp : PP} {G H G' H' : Hp} {pn' : Pn} (x : Ex K pp G H pn' G' H') : Bu pp H H' := fun _ _ h n => x.at h n
/-- what an expression may do: new objects, more data (new ones, and what a slot held), the pen -/
structure GrO (pp : PP) (O : Addr → Prop) (G H : Hp) (O' : Addr → Prop) (G' H' : Hp) : Prop where
  same : Same G G'
  new : ∀ a, G' a ≠ none → G a ≠ none ∨ H a = none ∨ O a
  bu : Bu pp H H'
  live : ∀ a, H a ≠ none → H' a ≠ none
  ow : ∀ a, O' a → O a
abbrev Gr (pp : PP) (σ : L2.St) (ρ : SL) (G H : Hp) (ρ' : SL) (G' H' : Hp) : Prop := GrO pp (OwnAt σ ρ) G H (OwnAt σ ρ') G' H'
theorem GrO.trans {pp : PP} {O O1 O1' O2 : Addr → Prop} {G H G1 H1 G2 H2 : Hp} (x : GrO pp O G H O1 G1 H1) (i : ∀ a, O1' a → O1 a) (y : GrO pp O1' G1 H1 O2 G2 H2) : GrO pp O G H O2 G2 H2 := by
  refine ⟨x.same.trans y.same, fun a h => ?_, x.bu.trans y.bu, fun a h => y.live a (x.live a h), fun a h => x.ow a (i a (y.ow a h))⟩
  rcases y.new a h with z | z | z
  · exact x.new a z
  · cases q : H a with
    | none => exact .inr (.inl rfl)
    | some u => exact absurd z (x.live a (by rw [q]; simp))
  · exact .inr (.inr (x.ow a (i a z)))
section
variable {pp : PP} {σ : L2.St} {ρ ρ1 ρ2 : SL} {G H G1 H1 G2 H2 : Hp}
theorem Gr.refl : Gr pp σ ρ G H ρ G H := ⟨fun _ _ h => h, fun _ h => .inl h, .refl, fun _ h => h, fun _ h => h⟩
theorem Gr.trans (x : Gr pp σ ρ G H ρ1 G1 H1) (y : Gr pp σ ρ1 G1 H1 ρ2 G2 H2) : Gr pp σ ρ G H ρ2 G2 H2 := GrO.trans x (fun _ h => h) y
theorem Gr.ex {K : PySem.W.Frag} {pn' : Pn} (x : Ex K pp G H pn' G1 H1) : Gr pp σ ρ G H ρ G1 H1 := by
  refine ⟨x.same, fun a h => ?_, x.bu, fun a h => x.live a h, fun _ h => h⟩
  rcases x.new a h with z | z
  · exact .inl z
  · exact .inr (.inl z)
theorem Gr.froze {i : Nat} {sv : SV} {d : D} (s : Same G G1) (n : ∀ a, G1 a ≠ none → G a ≠ none ∨ OwnAt σ ρ a) : Gr pp σ ρ G H (ρ.set i (.fz d)) G1 H := by
  refine ⟨s, fun a h => (n a h).imp id .inr, .refl, fun _ h => h, fun a ⟨j, t, e, o, z⟩ => ?_⟩
  by_cases hj : i = j
  · subst hj
    by_cases hl : i < ρ.length
    · rw [List.getElem?_set_self hl] at e
      cases e
      cases o
    · rw [List.getElem?_eq_none (by simp; omega)] at e
      cases e
  · rw [List.getElem?_set_ne hj] at e
    exact ⟨j, t, e, o, z⟩
end
abbrev QD := D → SL → Pn → Prop
abbrev XD := Addr → List (Str × D) → SL → Pn → Prop
abbrev TDE := SL → Pn → QD → XD → Prop
abbrev TDT := SL → Pn → (Bool → SL → Pn → Prop) → XD → Prop
abbrev TDA := SL → Pn → (List D → SL → Pn → Prop) → XD → Prop
/-- an exception on its way: its class, its fields -/
def XL (C : Cfg) (W : WX) (lk : Lk) (σ : L2.St) (Qx : XD) : Prop :=
  ∀ (c d : Addr) (fs : List (Str × V)) (ds : List (Str × D)) (G' H' : Hp) (ρ' : SL) (pn' : Pn), StR C lk σ ρ' pn' G' H' → G' d = some (.xd fs) → fs.map (·.1) = ds.map (·.1) → DatL C.K C.pp G' (fs.map (·.2)) (ds.map (·.2)) → Qx c ds ρ' pn' → W (.ref c) (some d) σ H'
def tD (C : Cfg) (W : WX) (T : TDE) : TE := fun σ H Q => ∃ (lk : Lk) (G : Hp) (ρ : SL) (pn : Pn) (Qd : QD) (Qx : XD), StR C lk σ ρ pn G H ∧ T ρ pn Qd Qx ∧
  (∀ (v : V) (d : D) (G' H' : Hp) (ρ' : SL) (pn' : Pn), StR C lk σ ρ' pn' G' H' → Gr C.pp σ ρ G H ρ' G' H' → Dat C.K C.pp G' v d → Qd d ρ' pn' → Q v H') ∧ XL C W lk σ Qx
def tT (C : Cfg) (W : WX) (T : TDT) : L2.TT := fun σ H Q => ∃ (lk : Lk) (G : Hp) (ρ : SL) (pn : Pn) (Qd : Bool → SL → Pn → Prop) (Qx : XD), StR C lk σ ρ pn G H ∧ T ρ pn Qd Qx ∧
  (∀ (b : Bool) (G' H' : Hp) (ρ' : SL) (pn' : Pn), StR C lk σ ρ' pn' G' H' → Gr C.pp σ ρ G H ρ' G' H' → Qd b ρ' pn' → Q b H') ∧ XL C W lk σ Qx
def tA (C : Cfg) (W : WX) (T : TDA) : TA := fun σ H Q => ∃ (lk : Lk) (G : Hp) (ρ : SL) (pn : Pn) (Qd : List D → SL → Pn → Prop) (Qx : XD), StR C lk σ ρ pn G H ∧ T ρ pn Qd Qx ∧
  (∀ (vs : List V) (ds : List D) (G' H' : Hp) (ρ' : SL) (pn' : Pn), StR C lk σ ρ' pn' G' H' → Gr C.pp σ ρ G H ρ' G' H' → DatL C.K C.pp G' vs ds → Qd ds ρ' pn' → Q vs H') ∧ XL C W lk σ Qx
abbrev PD (X : Cx) (C : Cfg) (W : WX) (e : Expr) (T : TDE) : Prop := PE X e (tD C W T)
abbrev PDT (X : Cx) (C : Cfg) (W : WX) (e : Expr) (T : TDT) : Prop := PT X e (tT C W T)
abbrev PDA (X : Cx) (C : Cfg) (W : WX) (es : List Expr) (T : TDA) : Prop := PA X es (tA C W T)
/-! ### names, constants -/
def dVar (i : Nat) : TDE := fun ρ pn Q _ => match ρ[i]? with
  | some (.fz d) => Q d ρ pn
  | some (.ol ds) => Q (.lst ds) (ρ.set i (.fz (.lst ds))) pn
  | some (.od ds) => Q (.dic ds) (ρ.set i (.fz (.dic ds))) pn
  | _ => False
def dC (d : D) : TDE := fun ρ pn Q _ => Q d ρ pn
section
variable {X : Cx} {C : Cfg} {W : WX} {e : Expr} {pos : Pos}
theorem pd_var {i : Nat} {x : Str} (h : PE X (.Name x pos) (tVar i)) : PD X C W (.Name x pos) (dVar i) := by
  refine PE.imp h fun σ H Q q => ?_
  obtain ⟨lk, G, ρ, pn, Qd, Qx, S, t, k, _⟩ := q
  unfold dVar at t
  cases e : ρ[i]? with
  | none => rw [e] at t; exact t.elim
  | some sv =>
    rw [e] at t
    cases sv with
    | un => exact t.elim
    | oo _ _ => exact t.elim
    | fz d =>
      obtain ⟨y, ey, hy⟩ := S.slot i _ e
      exact ⟨y, ey, k y d G H ρ pn S .refl hy t⟩
    | ol ds =>
      obtain ⟨y, G', ey, s, hy, S'⟩ := S.freezeL e
      exact ⟨y, ey, k y _ G' H _ pn S' (.froze (sv := .un) s.1 s.2) hy t⟩
    | od ds =>
      obtain ⟨y, G', ey, s, hy, S'⟩ := S.freezeD e
      exact ⟨y, ey, k y _ G' H _ pn S' (.froze (sv := .un) s.1 s.2) hy t⟩
theorem pd_cst {v : V} {d : D} (h : PE X e (tC v)) (r : ∀ K pp G, Dat K pp G v d) : PD X C W e (dC d) := by
  refine PE.imp h fun σ H Q q => ?_
  obtain ⟨lk, G, ρ, pn, Qd, Qx, S, t, k, _⟩ := q
  exact k v d G H ρ pn S .refl (r _ _ _) t
end
end Td
end
section
set_option maxRecDepth 100000
set_option maxHeartbeats 4000000
/-! The data layer: arguments, operators, tests, displays, calls of what Python brings, by data. -/
namespace Td
open PySem PySem.Spec PyProof.Rows L2 Lw
theorem sameRefl {H : Hp} : Same H H := fun _ _ h => h
/-! ### rules by values -/
/-- nothing but new data -/
abbrev Ex0 (K : PySem.W.Frag) (pp : PP) (pn : Pn) (G H : Hp) : Prop := Ex K pp G H pn G H
def R1D (K : PySem.W.Frag) (r : V → Hp → VK → Prop) (rD : D → (D → Prop) → Prop) : Prop :=
  ∀ (pp : PP) (pn : Pn) (G H : Hp) (x : V) (d : D) (Qd : D → Prop) (Q : VK), Ex0 K pp pn G H → Dat K pp G x d → rD d Qd → (∀ v z G' H', Ex K pp G H pn G' H' → Dat K pp G' v z → Qd z → Q v H') → r x H Q
def R2D (K : PySem.W.Frag) (r : R2) (rD : D → D → (D → Prop) → Prop) : Prop :=
  ∀ (pp : PP) (pn : Pn) (G H : Hp) (x y : V) (d e : D) (Qd : D → Prop) (Q : VK), Ex0 K pp pn G H → Dat K pp G x d → Dat K pp G y e → rD d e Qd → (∀ v z G' H', Ex K pp G H pn G' H' → Dat K pp G' v z → Qd z → Q v H') → r x y H Q
def RLD (K : PySem.W.Frag) (r : List V → Hp → VK → Prop) (rD : List D → (D → Prop) → Prop) : Prop :=
  ∀ (pp : PP) (pn : Pn) (G H : Hp) (xs : List V) (ds : List D) (Qd : D → Prop) (Q : VK), Ex0 K pp pn G H → DatL K pp G xs ds → rD ds Qd → (∀ v z G' H', Ex K pp G H pn G' H' → Dat K pp G' v z → Qd z → Q v H') → r xs H Q
def RMD (K : PySem.W.Frag) (r : V → List V → Hp → VK → Prop) (rD : D → List D → (D → Prop) → Prop) : Prop :=
  ∀ (pp : PP) (pn : Pn) (G H : Hp) (x : V) (d : D) (xs : List V) (ds : List D) (Qd : D → Prop) (Q : VK), Ex0 K pp pn G H → Dat K pp G x d → DatL K pp G xs ds → rD d ds Qd → (∀ v z G' H', Ex K pp G H pn G' H' → Dat K pp G' v z → Qd z → Q v H') → r x xs H Q
/-! ### what they compute -/
def dNil : TDA := fun ρ pn Q _ => Q [] ρ pn
def dCons (T : TDE) (U : TDA) : TDA := fun ρ pn Q X => T ρ pn (fun d ρ1 pn1 => U ρ1 pn1 (fun ds ρ2 pn2 => Q (d :: ds) ρ2 pn2) X) X
def dOp (rD : D → D → (D → Prop) → Prop) (T U : TDE) : TDE := fun ρ pn Q X => T ρ pn (fun d ρ1 pn1 => U ρ1 pn1 (fun e ρ2 pn2 => rD d e fun z => Q z ρ2 pn2) X) X
def dUn (rD : D → (D → Prop) → Prop) (T : TDE) : TDE := fun ρ pn Q X => T ρ pn (fun d ρ1 pn1 => rD d fun z => Q z ρ1 pn1) X
def dCB (rD : List D → (D → Prop) → Prop) (U : TDA) : TDE := fun ρ pn Q X => U ρ pn (fun ds ρ1 pn1 => rD ds fun z => Q z ρ1 pn1) X
def dBM (rD : D → List D → (D → Prop) → Prop) (T : TDE) (U : TDA) : TDE := fun ρ pn Q X => T ρ pn (fun d ρ1 pn1 => U ρ1 pn1 (fun ds ρ2 pn2 => rD d ds fun z => Q z ρ2 pn2) X) X
/-- a truth of data that needs no own method -/
def D.truth : D → Option Bool
  | .non => some false
  | .bl b => some b
  | .int i => some (i != 0)
  | .str x => if x.length ≤ sizeLine then some ((x.length : Int) != 0) else none
  | .tup xs => some (!xs.isEmpty)
  | .lst xs => some (!xs.isEmpty)
  | .dic xs => some (!xs.isEmpty)
  | _ => none
def qB (Q : Bool → SL → Pn → Prop) : QD := fun d ρ pn => match d with
  | .bl b => Q b ρ pn
  | _ => False
def qT (Q : Bool → SL → Pn → Prop) : QD := fun d ρ pn => match d.truth with
  | some b => Q b ρ pn
  | none => False
def dTst (T : TDE) : TDT := fun ρ pn Q X => T ρ pn (qB Q) X
def dTru (T : TDE) : TDT := fun ρ pn Q X => T ρ pn (qT Q) X
def dNot (T : TDT) : TDT := fun ρ pn Q X => T ρ pn (fun b => Q (!b)) X
def dAnd (T U : TDT) : TDT := fun ρ pn Q X => T ρ pn (fun b ρ1 pn1 => if b = true then U ρ1 pn1 Q X else Q false ρ1 pn1) X
def dOr (T U : TDT) : TDT := fun ρ pn Q X => T ρ pn (fun b ρ1 pn1 => if b = true then Q true ρ1 pn1 else U ρ1 pn1 Q X) X
def dNotV (T : TDE) : TDE := fun ρ pn Q X => T ρ pn (qB fun b => Q (.bl (!b))) X
def dAndV (T U : TDE) : TDE := fun ρ pn Q X => T ρ pn (qB fun b ρ1 pn1 => if b = true then U ρ1 pn1 Q X else Q (.bl false) ρ1 pn1) X
def dOrV (T U : TDE) : TDE := fun ρ pn Q X => T ρ pn (qB fun b ρ1 pn1 => if b = true then Q (.bl true) ρ1 pn1 else U ρ1 pn1 Q X) X
def dIf (B : TDT) (T U : TDE) : TDE := fun ρ pn Q X => B ρ pn (fun b ρ1 pn1 => if b = true then T ρ1 pn1 Q X else U ρ1 pn1 Q X) X
def dChain (rD rE : D → D → (D → Prop) → Prop) (T U V : TDE) : TDE := fun ρ pn Q X => T ρ pn (fun d ρ1 pn1 => U ρ1 pn1 (fun e ρ2 pn2 => rD d e fun z => qB (fun b ρ3 pn3 => if b = true then V ρ3 pn3 (fun f ρ4 pn4 => rE e f fun z => Q z ρ4 pn4) X else Q (.bl false) ρ3 pn3) z ρ2 pn2) X) X
section
variable {X : Cx} {C : Cfg} {W : WX} {a b c e o : Expr} {es : List Expr} {pos p apos cpos : Pos} {Ta Tb Tc T U : TDE} {Ts : TDA} {B B' : TDT}
theorem pda_nil : PDA X C W [] dNil := by
  refine ⟨fun ps pins s σ H Q I q => pa_nil.run ps pins s σ H Q I ?_⟩
  obtain ⟨lk, G, ρ, pn, Qd, Qx, S, t, k, xl⟩ := q
  exact k [] [] G H ρ pn S .refl .nil t
theorem pda_cons (ha : PD X C W a Ta) (hr : PDA X C W es Ts) (hs : starEach (a :: es) X.env = (false, eval a X.env) :: starEach es X.env := by rfl) : PDA X C W (a :: es) (dCons Ta Ts) := by
  refine ⟨fun ps pins s σ H Q I q => (pa_cons ha hr hs).run ps pins s σ H Q I ?_⟩
  obtain ⟨lk, G, ρ, pn, Qd, Qx, S, t, k, xl⟩ := q
  refine ⟨lk, G, ρ, pn, _, Qx, S, t, fun x d G1 H1 ρ1 pn1 S1 s1 dx t1 => ⟨lk, G1, ρ1, pn1, _, Qx, S1, t1, fun xs ds G2 H2 ρ2 pn2 S2 s2 dxs t2 => ?_, xl⟩, xl⟩
  exact k (x :: xs) (d :: ds) G2 H2 ρ2 pn2 S2 (s1.trans s2) (.cons (dx.keep s2.same) dxs) t2
/-- two values in a row -/
theorem pd2 {r : R2} {rD : D → D → (D → Prop) → Prop} {T0 : TE} (h : PE X e T0) (h0 : ∀ σ H Q, tOp r (tD C W Ta) (tD C W Tb) σ H Q → T0 σ H Q) (hr : R2D C.K r rD) : PD X C W e (dOp rD Ta Tb) := by
  refine PE.imp h fun σ H Q q => h0 σ H Q ?_
  obtain ⟨lk, G, ρ, pn, Qd, Qx, S, t, k, xl⟩ := q
  refine ⟨lk, G, ρ, pn, _, Qx, S, t, fun x d G1 H1 ρ1 pn1 S1 s1 dx t1 => ⟨lk, G1, ρ1, pn1, _, Qx, S1, t1, fun y e' G2 H2 ρ2 pn2 S2 s2 dy t2 => ?_, xl⟩, xl⟩
  exact hr C.pp pn2 G2 H2 x y d e' _ Q S2.ex0 (dx.keep s2.same) dy t2 fun v z G' H' E dz qz => k v z G' H' ρ2 pn2 (S2.step E) (s1.trans (s2.trans (.ex E))) dz qz
theorem pd_op {op : Operator} {r : R2} {rD : D → D → (D → Prop) → Prop} (ho : OpR X (binaryOp op) r) (hr : R2D C.K r rD) (ha : PD X C W a Ta) (hb : PD X C W b Tb) : PD X C W (.BinOp a op b pos) (dOp rD Ta Tb) :=
  pd2 (pe_op ho ha hb) (fun _ _ _ q => q) hr
theorem pd_cmp {op : CmpOp} {r : R2} {rD : D → D → (D → Prop) → Prop} (ho : OpR X (compareOp op) r) (hr : R2D C.K r rD) (ha : PD X C W a Ta) (hb : PD X C W b Tb) (hm : behindInMarks op b = false) : PD X C W (.Compare a [op] [b] pos) (dOp rD Ta Tb) :=
  pd2 (pe_cmpR ho ha hb hm) (fun _ _ _ q => q) hr
theorem pdt_val (h : PE X e (tD C W T)) (he : ∀ whole, isTrue e X.env whole = (do let v ← whole; standAt e.pos; holding [v] (truthy v)) := by intro _; rfl) : PDT X C W e (dTst T) := by
  refine ⟨fun pins s σ H Q I q => (pt_val h he).run pins s σ H Q I ?_⟩
  obtain ⟨lk, G, ρ, pn, Qd, Qx, S, t, k, xl⟩ := q
  refine ⟨lk, G, ρ, pn, _, Qx, S, t, fun x d G1 H1 ρ1 pn1 S1 s1 dx t1 => ?_, xl⟩
  cases dx <;> first | exact False.elim t1 | exact ⟨_, rfl, k _ G1 H1 ρ1 pn1 S1 s1 t1⟩
theorem pdt_cmp {op : CmpOp} {r : R2} {rD : D → D → (D → Prop) → Prop} (ho : OpR X (compareOp op) r) (hr : R2D C.K r rD) (ha : PD X C W a Ta) (hb : PD X C W b Tb) (hm : behindInMarks op b = false) : PDT X C W (.Compare a [op] [b] pos) (dTst (dOp rD Ta Tb)) := by
  refine ⟨fun pins s σ H Q I q => (pt_cmpR ho ha hb hm).run pins s σ H Q I ?_⟩
  obtain ⟨lk, G, ρ, pn, Qd, Qx, S, t, k, xl⟩ := q
  refine ⟨lk, G, ρ, pn, _, Qx, S, t, fun x d G1 H1 ρ1 pn1 S1 s1 dx t1 => ⟨lk, G1, ρ1, pn1, _, Qx, S1, t1, fun y e' G2 H2 ρ2 pn2 S2 s2 dy t2 => ?_, xl⟩, xl⟩
  refine hr C.pp pn2 G2 H2 x y d e' _ _ S2.ex0 (dx.keep s2.same) dy t2 fun v z G' H' E dz qz => ?_
  cases dz <;> first | exact False.elim qz | exact ⟨_, rfl, k _ G' H' ρ2 pn2 (S2.step E) (s1.trans (s2.trans (.ex E))) qz⟩
/-- a op b op' c -/
theorem chain_of {op op' : CmpOp} {r r' : R2} {rD rE : D → D → (D → Prop) → Prop} (hr : R2D C.K r rD) (hr' : R2D C.K r' rE) {σ : L2.St} {H : Hp} {Q : VK} (q : tD C W (dChain rD rE Ta Tb Tc) σ H Q) : tChain r r' (tD C W Ta) (tD C W Tb) (tD C W Tc) σ H Q := by
  obtain ⟨lk, G, ρ, pn, Qd, Qx, S, t, k, xl⟩ := q
  refine ⟨lk, G, ρ, pn, _, Qx, S, t, fun x d G1 H1 ρ1 pn1 S1 s1 dx t1 => ⟨lk, G1, ρ1, pn1, _, Qx, S1, t1, fun y e' G2 H2 ρ2 pn2 S2 s2 dy t2 => ?_, xl⟩, xl⟩
  refine hr C.pp pn2 G2 H2 x y d e' _ _ S2.ex0 (dx.keep s2.same) dy t2 fun v z G' H' E dz qz => ?_
  cases dz <;> first | exact False.elim qz | skip
  rename_i bb
  refine ⟨bb, rfl, ?_⟩
  have S3 := S2.step E
  cases bb with
  | false => exact k _ _ G' H' ρ2 pn2 S3 (s1.trans (s2.trans (.ex E))) (.bl false) qz
  | true =>
    refine ⟨lk, G', ρ2, pn2, _, Qx, S3, qz, fun w f G4 H4 ρ4 pn4 S4 s4 dw t4 => ?_, xl⟩
    exact hr' C.pp pn4 G4 H4 y w e' f _ Q S4.ex0 (dy.keep (E.same.trans s4.same)) dw t4 fun v z G5 H5 E5 dz qz => k v z G5 H5 ρ4 pn4 (S4.step E5) (s1.trans (s2.trans ((Gr.ex E).trans (s4.trans (.ex E5))))) dz qz
theorem pd_chain {op op' : CmpOp} {r r' : R2} {rD rE : D → D → (D → Prop) → Prop} (ho : OpR X (compareOp op) r) (hr : R2D C.K r rD) (ho' : OpR X (compareOp op') r') (hr' : R2D C.K r' rE) (ha : PD X C W a Ta) (hb : PD X C W b Tb) (hc : PD X C W c Tc)
    (hm : lastMarks [op, op'] [b, c] = false := by with_unfolding_all rfl) : PD X C W (.Compare a [op, op'] [b, c] pos) (dChain rD rE Ta Tb Tc) :=
  PE.imp (pe_chain ho ho' ha hb hc hm) fun σ H Q q => chain_of (op := op) (op' := op') hr hr' q
theorem pdt_chain {op op' : CmpOp} {r r' : R2} {rD rE : D → D → (D → Prop) → Prop} (ho : OpR X (compareOp op) r) (hr : R2D C.K r rD) (ho' : OpR X (compareOp op') r') (hr' : R2D C.K r' rE) (ha : PD X C W a Ta) (hb : PD X C W b Tb) (hc : PD X C W c Tc)
    (hm : lastMarks [op, op'] [b, c] = false := by with_unfolding_all rfl) : PDT X C W (.Compare a [op, op'] [b, c] pos) (dTst (dChain rD rE Ta Tb Tc)) := by
  refine ⟨fun pins s σ H Q I q => (pt_chain ho ho' ha hb hc hm).run pins s σ H Q I ?_⟩
  obtain ⟨lk, G, ρ, pn, Qd, Qx, S, t, k, xl⟩ := q
  refine chain_of (op := op) (op' := op') hr hr' ⟨lk, G, ρ, pn, _, Qx, S, t, fun v d G' H' ρ' pn' S' s' dv tv => ?_, xl⟩
  cases dv <;> first | exact False.elim tv | exact ⟨_, rfl, k _ G' H' ρ' pn' S' s' tv⟩
/-- one value -/
theorem pd1 {r : V → Hp → VK → Prop} {rD : D → (D → Prop) → Prop} {T0 : TE} (h : PE X e T0) (h0 : ∀ σ H Q, tUn r (tD C W Ta) σ H Q → T0 σ H Q) (hr : R1D C.K r rD) : PD X C W e (dUn rD Ta) := by
  refine PE.imp h fun σ H Q q => h0 σ H Q ?_
  obtain ⟨lk, G, ρ, pn, Qd, Qx, S, t, k, xl⟩ := q
  refine ⟨lk, G, ρ, pn, _, Qx, S, t, fun x d G1 H1 ρ1 pn1 S1 s1 dx t1 => ?_, xl⟩
  exact hr C.pp pn1 G1 H1 x d _ Q S1.ex0 dx t1 fun v z G' H' E dz qz => k v z G' H' ρ1 pn1 (S1.step E) (s1.trans (.ex E)) dz qz
theorem pd_un {op : UnaryOp} {r : V → Hp → VK → Prop} {rD : D → (D → Prop) → Prop} (ho : UnR X (unaryOp op) r) (hr : R1D C.K r rD) (ha : PD X C W a Ta) : PD X C W (.UnaryOp op a pos) (dUn rD Ta) := pd1 (pe_un ho ha) (fun _ _ _ q => q) hr
/-- a row of values -/
theorem pdL {r : List V → Hp → VK → Prop} {rD : List D → (D → Prop) → Prop} {T0 : TE} (h : PE X e T0) (h0 : ∀ σ H Q, tCB r (tA C W Ts) σ H Q → T0 σ H Q) (hr : RLD C.K r rD) : PD X C W e (dCB rD Ts) := by
  refine PE.imp h fun σ H Q q => h0 σ H Q ?_
  obtain ⟨lk, G, ρ, pn, Qd, Qx, S, t, k, xl⟩ := q
  refine ⟨lk, G, ρ, pn, _, Qx, S, t, fun xs ds G1 H1 ρ1 pn1 S1 s1 dx t1 => ?_, xl⟩
  exact hr C.pp pn1 G1 H1 xs ds _ Q S1.ex0 dx t1 fun v z G' H' E dz qz => k v z G' H' ρ1 pn1 (S1.step E) (s1.trans (.ex E)) dz qz
theorem pd_callB {x : Str} {id : String} {r : List V → Hp → VK → Prop} {rD : List D → (D → Prop) → Prop} (hc : CallR X (.builtin id) r) (hr : RLD C.K r rD) (hg : Gl X x) (hm : X.mg x = none) (hv : bootBuiltins x = some (.builtin id)) (ha : PDA X C W (e :: es) Ts) (hn : x ≠ "__name__" := by decide) (hdb : (x == ("__debug__" : Str)) = false := by decide)
    (he : starEach (e :: es) X.env = (false, eval e X.env) :: starEach es X.env := by rfl) (hpl : (backTo pos (starEach es X.env)).any (·.1) = false := by rfl) : PD X C W (.Call (.Name x p) (e :: es) [] pos) (dCB rD Ts) :=
  pdL (pe_callB hc hg hm hv ha hn hdb he hpl) (fun _ _ _ q => q) hr
theorem pd_callTy {x : Str} {T : String} {r : List V → Hp → VK → Prop} {rD : List D → (D → Prop) → Prop} (hc : CallR X (.type T) r) (hr : RLD C.K r rD) (hg : Gl X x) (hm : X.mg x = none) (hv : bootBuiltins x = some (.type T)) (ha : PDA X C W (e :: es) Ts) (hn : x ≠ "__name__" := by decide) (hdb : (x == ("__debug__" : Str)) = false := by decide)
    (he : starEach (e :: es) X.env = (false, eval e X.env) :: starEach es X.env := by rfl) (hpl : (backTo pos (starEach es X.env)).any (·.1) = false := by rfl) : PD X C W (.Call (.Name x p) (e :: es) [] pos) (dCB rD Ts) :=
  pdL (pe_callTy hc hg hm hv ha hn hdb he hpl) (fun _ _ _ q => q) hr
/-! ### tests -/
theorem pdt_not (h : PDT X C W a B) : PDT X C W (.UnaryOp .Not a pos) (dNot B) := by
  refine ⟨fun pins s σ H Q I q => (pt_not h).run pins s σ H Q I ?_⟩
  obtain ⟨lk, G, ρ, pn, Qd, Qx, S, t, k, xl⟩ := q
  exact ⟨lk, G, ρ, pn, _, Qx, S, t, fun b' G1 H1 ρ1 pn1 S1 s1 t1 => k _ G1 H1 ρ1 pn1 S1 s1 t1, xl⟩
theorem and_of {ta tb : L2.TT} {B B' : TDT} {σ : L2.St} {H : Hp} {Q : Bool → Hp → Prop} (q : tT C W (dAnd B B') σ H Q) : tAnd (tT C W B) (tT C W B') σ H Q := by
  obtain ⟨lk, G, ρ, pn, Qd, Qx, S, t, k, xl⟩ := q
  refine ⟨lk, G, ρ, pn, _, Qx, S, t, fun b' G1 H1 ρ1 pn1 S1 s1 t1 => ?_, xl⟩
  cases b' with
  | false => exact k _ G1 H1 ρ1 pn1 S1 s1 t1
  | true => exact ⟨lk, G1, ρ1, pn1, _, Qx, S1, t1, fun b2 G2 H2 ρ2 pn2 S2 s2 t2 => k b2 G2 H2 ρ2 pn2 S2 (s1.trans s2) t2, xl⟩
theorem or_of {B B' : TDT} {σ : L2.St} {H : Hp} {Q : Bool → Hp → Prop} (q : tT C W (dOr B B') σ H Q) : tOr (tT C W B) (tT C W B') σ H Q := by
  obtain ⟨lk, G, ρ, pn, Qd, Qx, S, t, k, xl⟩ := q
  refine ⟨lk, G, ρ, pn, _, Qx, S, t, fun b' G1 H1 ρ1 pn1 S1 s1 t1 => ?_, xl⟩
  cases b' with
  | true => exact k _ G1 H1 ρ1 pn1 S1 s1 t1
  | false => exact ⟨lk, G1, ρ1, pn1, _, Qx, S1, t1, fun b2 G2 H2 ρ2 pn2 S2 s2 t2 => k b2 G2 H2 ρ2 pn2 S2 (s1.trans s2) t2, xl⟩
abbrev PDW (X : Cx) (C : Cfg) (W : WX) (e : Expr) (T : TDT) : Prop := PW X e (tT C W T)
theorem PW.imp {t t' : L2.TT} (h : PW X e t) (i : ∀ σ H Q, t' σ H Q → t σ H Q) : PW X e t' := ⟨fun wh pins s σ H Q I q => h.run wh pins s σ H Q I (i σ H Q q)⟩
theorem pdw_and1 (ha : PDT X C W a B) : PDW X C W (.BoolOp .And [a] pos) B := pw_and1 ha
theorem pdw_or1 (ha : PDT X C W a B) : PDW X C W (.BoolOp .Or [a] pos) B := pw_or1 ha
theorem pdw_and {rest : List Expr} (ha : PDT X C W a B) (hb : PDW X C W (.BoolOp .And (b :: rest) pos) B') : PDW X C W (.BoolOp .And (a :: b :: rest) pos) (dAnd B B') := PW.imp (pw_and ha hb) fun _ _ _ q => and_of (ta := fun _ _ _ => True) (tb := fun _ _ _ => True) q
theorem pdw_or {rest : List Expr} (ha : PDT X C W a B) (hb : PDW X C W (.BoolOp .Or (b :: rest) pos) B') : PDW X C W (.BoolOp .Or (a :: b :: rest) pos) (dOr B B') := PW.imp (pw_or ha hb) fun _ _ _ q => or_of q
/-! ### not, and, or, a choice, as values -/
theorem pd_not (h : PD X C W a Ta) : PD X C W (.UnaryOp .Not a pos) (dNotV Ta) := by
  refine PE.imp (pe_not h) fun σ H Q q => ?_
  obtain ⟨lk, G, ρ, pn, Qd, Qx, S, t, k, xl⟩ := q
  refine ⟨lk, G, ρ, pn, _, Qx, S, t, fun x d G1 H1 ρ1 pn1 S1 s1 dx t1 => ?_, xl⟩
  cases dx <;> first | exact False.elim t1 | exact ⟨_, rfl, k _ _ G1 H1 ρ1 pn1 S1 s1 (.bl _) t1⟩
theorem pd_one {op} (h : PD X C W a Ta) : PD X C W (.BoolOp op [a] pos) Ta := pe_one h
theorem pd_and {rest : List Expr} (ha : PD X C W a Ta) (hb : PD X C W (.BoolOp .And (b :: rest) pos) Tb) : PD X C W (.BoolOp .And (a :: b :: rest) pos) (dAndV Ta Tb) := by
  refine PE.imp (pe_and ha hb) fun σ H Q q => ?_
  obtain ⟨lk, G, ρ, pn, Qd, Qx, S, t, k, xl⟩ := q
  refine ⟨lk, G, ρ, pn, _, Qx, S, t, fun x d G1 H1 ρ1 pn1 S1 s1 dx t1 => ?_, xl⟩
  cases dx <;> first | exact False.elim t1 | skip
  rename_i bb
  refine ⟨bb, rfl, ?_⟩
  cases bb with
  | false => exact k _ _ G1 H1 ρ1 pn1 S1 s1 (.bl false) t1
  | true => exact ⟨lk, G1, ρ1, pn1, _, Qx, S1, t1, fun v z G2 H2 ρ2 pn2 S2 s2 dz t2 => k v z G2 H2 ρ2 pn2 S2 (s1.trans s2) dz t2, xl⟩
theorem pd_or {rest : List Expr} (ha : PD X C W a Ta) (hb : PD X C W (.BoolOp .Or (b :: rest) pos) Tb) : PD X C W (.BoolOp .Or (a :: b :: rest) pos) (dOrV Ta Tb) := by
  refine PE.imp (pe_or ha hb) fun σ H Q q => ?_
  obtain ⟨lk, G, ρ, pn, Qd, Qx, S, t, k, xl⟩ := q
  refine ⟨lk, G, ρ, pn, _, Qx, S, t, fun x d G1 H1 ρ1 pn1 S1 s1 dx t1 => ?_, xl⟩
  cases dx <;> first | exact False.elim t1 | skip
  rename_i bb
  refine ⟨bb, rfl, ?_⟩
  cases bb with
  | true => exact k _ _ G1 H1 ρ1 pn1 S1 s1 (.bl true) t1
  | false => exact ⟨lk, G1, ρ1, pn1, _, Qx, S1, t1, fun v z G2 H2 ρ2 pn2 S2 s2 dz t2 => k v z G2 H2 ρ2 pn2 S2 (s1.trans s2) dz t2, xl⟩
theorem pd_ifExp (hc : PDT X C W c B) (ha : PD X C W a Ta) (hb : PD X C W b Tb) : PD X C W (.IfExp c a b pos) (dIf B Ta Tb) := by
  refine PE.imp (pe_ifExp hc ha hb) fun σ H Q q => ?_
  obtain ⟨lk, G, ρ, pn, Qd, Qx, S, t, k, xl⟩ := q
  refine ⟨lk, G, ρ, pn, _, Qx, S, t, fun b' G1 H1 ρ1 pn1 S1 s1 t1 => ?_, xl⟩
  cases b' with
  | true => exact ⟨lk, G1, ρ1, pn1, _, Qx, S1, t1, fun v z G2 H2 ρ2 pn2 S2 s2 dz t2 => k v z G2 H2 ρ2 pn2 S2 (s1.trans s2) dz t2, xl⟩
  | false => exact ⟨lk, G1, ρ1, pn1, _, Qx, S1, t1, fun v z G2 H2 ρ2 pn2 S2 s2 dz t2 => k v z G2 H2 ρ2 pn2 S2 (s1.trans s2) dz t2, xl⟩
end
end Td
end
section
set_option maxRecDepth 100000
set_option maxHeartbeats 4000000
/-! The data layer: statements, defs, calls, own errors. -/
namespace Td
open PySem PySem.Spec PyProof.Rows L2 Lw
/-- what is wanted behind a statement, by data -/
structure DE where
  nx : SL → Pn → Prop
  rt : D → Pn → Prop
  bk : SL → Pn → Prop := fun _ _ => False
  ct : SL → Pn → Prop := fun _ _ => False
  xd : XD := fun _ _ _ _ => False
abbrev TDS := DE → SL → Pn → Prop
structure Lnk (C : Cfg) (W : WX) (lk : Lk) (G : Hp) (D : Ends) (E : DE) : Prop where
  nx : ∀ σ' ρ' pn' G' H', StR C lk σ' ρ' pn' G' H' → Same G G' → E.nx ρ' pn' → D.nx σ' H'
  bk : ∀ σ' ρ' pn' G' H', StR C lk σ' ρ' pn' G' H' → Same G G' → E.bk ρ' pn' → D.bk σ' H'
  ct : ∀ σ' ρ' pn' G' H', StR C lk σ' ρ' pn' G' H' → Same G G' → E.ct ρ' pn' → D.ct σ' H'
  rt : ∀ v d σ' ρ' pn' G' H', StR C lk σ' ρ' pn' G' H' → Dat C.K C.pp G' v d → E.rt d pn' → D.rt v H'
  xd : ∀ σ, XL C W lk σ E.xd
theorem Lnk.mono {C : Cfg} {W : WX} {lk : Lk} {G G1 : Hp} {D : Ends} {E : DE} (L : Lnk C W lk G D E) (s : Same G G1) : Lnk C W lk G1 D E :=
  ⟨fun σ' ρ' pn' G' H' S g => L.nx σ' ρ' pn' G' H' S (s.trans g), fun σ' ρ' pn' G' H' S g => L.bk σ' ρ' pn' G' H' S (s.trans g), fun σ' ρ' pn' G' H' S g => L.ct σ' ρ' pn' G' H' S (s.trans g), L.rt, L.xd⟩
def tS (C : Cfg) (W : WX) (T : TDS) : TS := fun D σ H => ∃ (lk : Lk) (G : Hp) (ρ : SL) (pn : Pn) (E : DE), StR C lk σ ρ pn G H ∧ T E ρ pn ∧ Lnk C W lk G D E
abbrev PDS (X : Cx) (C : Cfg) (W : WX) (st : Stmt) (T : TDS) : Prop := PS X st (tS C W T)
abbrev PDSs (X : Cx) (C : Cfg) (W : WX) (st : List Stmt) (T : TDS) : Prop := PSs X st (tS C W T)
theorem PS.imp {X : Cx} {st : Stmt} {t t' : TS} (h : PS X st t) (i : ∀ D σ H, t' D σ H → t D σ H) : PS X st t' := ⟨fun pins s σ H D I q => h.run pins s σ H D I (i D σ H q)⟩
theorem PSs.imp {X : Cx} {st : List Stmt} {t t' : TS} (h : PSs X st t) (i : ∀ D σ H, t' D σ H → t D σ H) : PSs X st t' := ⟨fun pins s σ H D I q => h.run pins s σ H D I (i D σ H q)⟩
def dSeq (T U : TDS) : TDS := fun E => T { E with nx := U E }
def dNext : TDS := fun E => E.nx
def dRet (T : TDE) : TDS := fun E ρ pn => T ρ pn (fun d _ pn' => E.rt d pn') E.xd
def dRetN : TDS := fun E _ pn => E.rt .non pn
def dSet (i : Nat) (T : TDE) : TDS := fun E ρ pn => T ρ pn (fun d ρ1 pn1 => E.nx (ρ1.set i (.fz d)) pn1) E.xd
def dIfS (B : TDT) (T U : TDS) : TDS := fun E ρ pn => B ρ pn (fun b ρ1 pn1 => if b = true then T E ρ1 pn1 else U E ρ1 pn1) E.xd
def dDrop (T : TDE) : TDS := fun E ρ pn => T ρ pn (fun _ ρ1 pn1 => E.nx ρ1 pn1) E.xd
def dBrk : TDS := fun E => E.bk
def dCnt : TDS := fun E => E.ct
section
variable {X : Cx} {C : Cfg} {W : WX} {st : Stmt} {sts : List Stmt} {e : Expr} {pos : Pos} {T U : TDS} {Te : TDE} {B : TDT}
theorem pds_cons (h1 : PDS X C W st T) (h2 : PDSs X C W sts U) : PDSs X C W (st :: sts) (dSeq T U) := by
  refine PSs.imp (pss_cons h1 h2) fun D σ H q => ?_
  obtain ⟨lk, G, ρ, pn, E, S, t, L⟩ := q
  exact ⟨lk, G, ρ, pn, _, S, t, ⟨fun σ' ρ' pn' G' H' S' s e => ⟨lk, G', ρ', pn', E, S', e, L.mono s⟩, L.bk, L.ct, L.rt, L.xd⟩⟩
theorem pds_one (h : PDS X C W st T) : PDSs X C W [st] T := pss_one h
theorem pds_nil : PDSs X C W [] dNext := by
  refine PSs.imp pss_nil fun D σ H q => ?_
  obtain ⟨lk, G, ρ, pn, E, S, t, L⟩ := q
  exact L.nx _ _ _ _ _ S (fun _ _ h => h) t
theorem pds_ret (h : PD X C W e Te) : PDS X C W (.Return (some e) pos) (dRet Te) := by
  refine PS.imp (ps_ret h) fun D σ H q => ?_
  obtain ⟨lk, G, ρ, pn, E, S, t, L⟩ := q
  exact ⟨lk, G, ρ, pn, _, _, S, t, fun v d G' H' ρ' pn' S' g dv q => L.rt v d σ ρ' pn' G' H' S' dv q, L.xd σ⟩
theorem pds_retN : PDS X C W (.Return none pos) dRetN := by
  refine PS.imp ps_retN fun D σ H q => ?_
  obtain ⟨lk, G, ρ, pn, E, S, t, L⟩ := q
  exact L.rt .non .non σ ρ pn G H S .non t
theorem pds_set {i : Nat} {x : Str} {pos' : Pos} (hN : X.N.Nodup) (hi : X.N[i]? = some x) (hx : Loc X.env.scope x) (h : PD X C W e Te) (hs : swapsWith e (some (.Name x pos')) pos.line X.env = pure false := by rfl)
    (hf : X.fn x = true ∨ X.env.scope.names.lookup x = some .local := by first | exact .inl rfl | exact .inr rfl | assumption) : PDS X C W (.Assign [.Name x pos'] e pos) (dSet i Te) := by
  refine PS.imp (ps_set hN hi hx h hs hf) fun D σ H q => ?_
  obtain ⟨lk, G, ρ, pn, E, S, t, L⟩ := q
  exact ⟨lk, G, ρ, pn, _, _, S, t, fun v d G' H' ρ' pn' S' g dv q => L.nx _ _ _ _ _ (S'.setFz dv i) g.same q, L.xd σ⟩
theorem pds_if {c : Expr} {a b : List Stmt} (hc : PDT X C W c B) (ha : PDSs X C W a T) (hb : PDSs X C W b U) : PDS X C W (.If c a b pos) (dIfS B T U) := by
  refine PS.imp (ps_if hc ha hb) fun D σ H q => ?_
  obtain ⟨lk, G, ρ, pn, E, S, t, L⟩ := q
  refine ⟨lk, G, ρ, pn, _, _, S, t, fun b' G' H' ρ' pn' S' g q => ?_, L.xd σ⟩
  cases b' with
  | true => exact ⟨lk, G', ρ', pn', E, S', q, L.mono g.same⟩
  | false => exact ⟨lk, G', ρ', pn', E, S', q, L.mono g.same⟩
theorem pds_expr (h : PD X C W e Te) (hs : swapsWith e none pos.line X.env = pure false := by rfl) : PDS X C W (.Expr e pos) (dDrop Te) := by
  refine PS.imp (ps_expr h hs) fun D σ H q => ?_
  obtain ⟨lk, G, ρ, pn, E, S, t, L⟩ := q
  exact ⟨lk, G, ρ, pn, _, _, S, t, fun v d G' H' ρ' pn' S' g dv q => L.nx _ _ _ _ _ S' g.same q, L.xd σ⟩
theorem pds_pass : PDS X C W (.Pass pos) dNext := by
  refine PS.imp ps_pass fun D σ H q => ?_
  obtain ⟨lk, G, ρ, pn, E, S, t, L⟩ := q
  exact L.nx _ _ _ _ _ S (fun _ _ h => h) t
theorem pds_break : PDS X C W (.Break pos) dBrk := by
  refine PS.imp ps_break fun D σ H q => ?_
  obtain ⟨lk, G, ρ, pn, E, S, t, L⟩ := q
  exact L.bk _ _ _ _ _ S (fun _ _ h => h) t
theorem pds_cont : PDS X C W (.Continue pos) dCnt := by
  refine PS.imp ps_continue fun D σ H q => ?_
  obtain ⟨lk, G, ρ, pn, E, S, t, L⟩ := q
  exact L.ct _ _ _ _ _ S (fun _ _ h => h) t
end

/-! ### defs -/
abbrev SpD := List D → Pn → (D → Pn → Prop) → (Addr → List (Str × D) → Pn → Prop) → Prop
/-- a promise by data -/
def spD (K : PySem.W.Frag) (sp : SpD) : Sp := fun vs H Q E => ∃ (pp : PP) (G : Hp) (pn : Pn) (ds : List D) (Qd : D → Pn → Prop) (Qx : Addr → List (Str × D) → Pn → Prop), Ex K pp G H pn G H ∧ DatL K pp G vs ds ∧ sp ds pn Qd Qx ∧
  (∀ (v : V) (d : D) (G' H' : Hp) (pn' : Pn), Ex K pp G H pn' G' H' → Dat K pp G' v d → Qd d pn' → Q v H') ∧
  (∀ (c d : Addr) (fs : List (Str × V)) (ds : List (Str × D)) (G' H' : Hp) (pn' : Pn), Ex K pp G H pn' G' H' → G' d = some (.xd fs) → fs.map (·.1) = ds.map (·.1) → DatL K pp G' (fs.map (·.2)) (ds.map (·.2)) → Qx c ds pn' → E (.ref c) (some d) H')
def startD (N : List Str) (ds : List D) : SL := ds.map SV.fz ++ List.replicate (N.length - ds.length) .un
theorem stR_start {K : PySem.W.Frag} {pp : PP} {G H : Hp} {pn : Pn} {N : List Str} {vs : List V} {ds : List D} (x : Ex K pp G H pn G H) (l : DatL K pp G vs ds) : StR ⟨K, pp, pp.p.toList, G, H⟩ [] (L2.start N vs) (startD N ds) pn G H := by
  have hl := l.length
  refine StR.slots x (by simp [L2.start, startD, hl]) (fun i sv e => ?_) fun i j s t a e1 _ o1 => ?_
  · unfold startD at e
    by_cases hi : i < ds.length
    · rw [List.getElem?_append_left (by simpa using hi), List.getElem?_map, List.getElem?_eq_getElem hi] at e
      cases e
      obtain ⟨v, h1, h2⟩ := l.get (i := i) (List.getElem?_eq_getElem hi)
      refine ⟨v, ?_, h2⟩
      unfold L2.start
      rw [List.getElem?_append_left (by rw [List.length_map, hl]; exact hi), List.getElem?_map, h1]
      rfl
    · rw [List.getElem?_append_right (by simpa using hi)] at e
      obtain ⟨_, e2⟩ := List.getElem?_eq_some_iff.mp e
      rw [List.getElem_replicate] at e2
      subst e2
      trivial
  · exfalso
    unfold startD at e1
    by_cases hi : i < ds.length
    · rw [List.getElem?_append_left (by simpa using hi), List.getElem?_map, List.getElem?_eq_getElem hi] at e1
      cases e1
      cases o1
    · rw [List.getElem?_append_right (by simpa using hi)] at e1
      obtain ⟨_, e2⟩ := List.getElem?_eq_some_iff.mp e1
      rw [List.getElem_replicate] at e2
      subst e2
      cases o1
/-- what a body's reading promises -/
def bodyD (N : List Str) (n : Nat) (T : TDS) : SpD := fun ds pn Q Xx => ds.length = n ∧ T { nx := fun _ pn => Q .non pn, rt := Q, xd := fun c fs _ pn => Xx c fs pn } (startD N ds) pn
abbrev WD (E : XK) : WX := fun cls d _ H => E cls d H
section
variable {P : Program} {w : World} {K : PySem.W.Frag} {mg : Str → Option Value} {base : Heap}
/-- THE RULE for a def -/
theorem fn_D {x qual : Str} {st : Stmt} {f : Addr} {fd : FuncData} {N ps : List Str} {k n : Nat} {T : TDS} (F : Fun K x qual st f fd) (S : FnScope N ps (defScope st)) (hn : n = ps.length)
    (body : ∀ (cdv : Value) (A : Around) (outer : List Env) (s : Shared) (H : Hp) (E : XK) (C : Cfg), C.K = K → Room k (A.deeper (envOfC qual (defScope st) s.heap.objs.size f cdv)) → Takes (cxOf (L2.CX P w) P w K mg base N qual (defScope st) f cdv A outer s H E) (WD E) →
      PDSs (cxOf (L2.CX P w) P w K mg base N qual (defScope st) f cdv A outer s H E) C (WD E) (defBody st) T) : FnOk P w K mg base (L2.CX P w) (k + 1) f fd ps (spD K (bodyD N n T)) := by
  refine F.okX S (fun vs H Q E h => ?_) (fun cdv A outer s H vs Q E hr h => ?_)
  · obtain ⟨pp, G, pn, ds, Qd, Qx, _, l, ⟨z, _⟩, _⟩ := h
    rw [l.length, z, hn]
  · obtain ⟨pp, G, pn, ds, Qd, Qx, x, l, ⟨z, t⟩, k1, k2⟩ := h
    refine ⟨_, body cdv A outer s H E ⟨K, pp, pp.p.toList, G, H⟩ rfl hr (takes_of rfl rfl rfl rfl), ?_⟩
    refine ⟨[], G, startD N ds, pn, _, stR_start x l, t, ⟨fun σ' ρ' pn' G' H' S' _ q => k1 .non .non G' H' pn' S'.forget .non q, (fun _ _ _ _ _ _ _ q => q.elim), (fun _ _ _ _ _ _ _ q => q.elim), fun v d σ' ρ' pn' G' H' S' dv q => k1 v d G' H' pn' S'.forget dv q, fun σ c d fs ds G' H' ρ' pn' S' e1 e2 e3 q => k2 c d fs ds G' H' pn' S'.forget e1 e2 e3 q⟩⟩
/-- another promise that the body's keeps -/
theorem fn_sp {CXX : CXT} {f : Addr} {fd : FuncData} {ps : List Str} {k : Nat} {sp sp' : SpD} (F : FnOk P w K mg base CXX k f fd ps (spD K sp)) (h : ∀ ds pn Q Xx, sp' ds pn Q Xx → sp ds pn Q Xx) : FnOk P w K mg base CXX k f fd ps (spD K sp') :=
  F.imp fun vs H Q E ⟨pp, G, pn, ds, Qd, Qx, x, l, q, k1, k2⟩ => ⟨pp, G, pn, ds, Qd, Qx, x, l, h _ _ _ _ q, k1, k2⟩
end
/-- a def that may be called by its name -/
structure FD (P : Program) (w : World) (K : PySem.W.Frag) (mg : Str → Option Value) (base : Heap) (nm : Str) (k : Nat) (ps : List Str) (sp : SpD) (f : Addr) (fd : FuncData) : Prop where
  ok : FnOk P w K mg base (L2.CX P w) k f fd ps (spD K sp)
  gl : mg nm = some (.ref f)
  kp : PySem.W.keepIn K (.ref f) = true
  bi : Binds K fd ps []
def dCall (sp : SpD) (U : TDA) : TDE := fun ρ pn Q Xx => U ρ pn (fun ds ρ1 pn1 => sp ds pn1 (fun d pn2 => Q d ρ1 pn2) (fun c fs pn2 => Xx c fs ρ1 pn2)) Xx
/-- where no exception is wished for -/
theorem pass_no {X : Cx} {σ : L2.St} : PassesAt (L2.CX X.prog X.w) X σ (WE (fun _ _ _ _ => False) σ) := fun pins H s e s' I c => by
  obtain ⟨_, _, _, _, _, _, _, _, _, _, _, _, z⟩ := c
  exact z.elim
section
variable {X : Cx} {C : Cfg} {W : WX} {e : Expr} {es : List Expr} {p pos : Pos} {Ts : TDA} {k : Nat} {f : Addr} {fd : FuncData} {ps : List Str} {sp : SpD} {x : Str}
theorem spD_of {σ : L2.St} {H : Hp} {Q : VK} {lk : Lk} {G : Hp} {ρ : SL} {pn : Pn} {vs : List V} {ds : List D} {Qd : D → Pn → Prop} {Qx : Addr → List (Str × D) → Pn → Prop} {Qx' : XD} (hK : C.K = X.K) (S : StR C lk σ ρ pn G H) (l : DatL C.K C.pp G vs ds) (t : sp ds pn Qd Qx)
    (k : ∀ (v : V) (d : D) (G' H' : Hp) (pn' : Pn), Ex C.K C.pp G H pn' G' H' → Dat C.K C.pp G' v d → Qd d pn' → Q v H') (hq : ∀ c fs pn', Qx c fs pn' → Qx' c fs ρ pn') (xl : XL C W lk σ Qx') : spD X.K sp vs H Q (WE W σ) := by
  rw [← hK]
  exact ⟨C.pp, G, pn, ds, Qd, Qx, S.ex0, l, t, k, fun c d fs ds' G' H' pn' E e1 e2 e3 q => xl c d fs ds' G' H' ρ pn' (S.step E) e1 e2 e3 (hq _ _ _ q)⟩
theorem pd_call (F : FD X.prog X.w X.K X.mg X.base x k ps sp f fd) (hK : C.K = X.K) (hr : Room k X.A) (hg : Gl X x) (hx : ∀ σ, PassesAt (L2.CX X.prog X.w) X σ (WE W σ)) (ha : PDA X C W (e :: es) Ts)
    (hdb : (x == ("__debug__" : Str)) = false := by decide) (he : starEach (e :: es) X.env = (false, eval e X.env) :: starEach es X.env := by rfl) (hpl : (backTo pos (starEach es X.env)).any (·.1) = false := by rfl) :
    PD X C W (.Call (.Name x p) (e :: es) [] pos) (dCall sp Ts) := by
  refine PE.imp (pe_callS F.ok hr hg F.gl F.kp F.bi hx ha hdb he hpl) fun σ H Q q => ?_
  obtain ⟨lk, G, ρ, pn, Qd, Qx, S, t, kk, xl⟩ := q
  refine ⟨lk, G, ρ, pn, _, Qx, S, t, fun vs ds G1 H1 ρ1 pn1 S1 g1 l t1 => ?_, xl⟩
  exact spD_of hK S1 l t1 (fun v d G' H' pn' E dv q => kk v d G' H' ρ1 pn' (S1.step E) (g1.trans (.ex E)) dv q) (fun _ _ _ q => q) xl
end
/-! ### own errors -/
def dRaise1 (C : Addr) (f : Str) (T : TDE) : TDS := fun E ρ pn => T ρ pn (fun d ρ1 pn1 => E.xd C [(f, d)] ρ1 pn1) E.xd
def dRaise2 (C : Addr) (f g : Str) (T U : TDE) : TDS := fun E ρ pn => T ρ pn (fun d ρ1 pn1 => U ρ1 pn1 (fun e ρ2 pn2 => E.xd C [(g, e), (f, d)] ρ2 pn2) E.xd) E.xd
section
variable {X : Cx} {C : Cfg} {W : WX} {e e2 : Expr} {p pos pos' : Pos} {T U : TDE} {nm f g : Str} {Cc fI : Addr} {fd : FuncData}
theorem upd_x1 {H : Hp} {a d : Addr} {o o' o2 u : HO} (na : H a = none) (ne : d ≠ a) : upd (del (upd (upd (upd H a o) d o') a o2) a) d u = upd H d u := by
  funext b
  by_cases h : b = d
  · subst h
    rw [upd_same, upd_same]
  · rw [upd_ne h, upd_ne h]
    by_cases h2 : b = a
    · subst h2
      rw [del_same, na]
    · rw [del_ne h2, upd_ne h2, upd_ne h, upd_ne h2]
theorem upd_x2 {H : Hp} {a d : Addr} {o o' o2 o3 u : HO} (na : H a = none) (ne : d ≠ a) : upd (del (upd (upd (upd (upd H a o) d o') a o2) d o3) a) d u = upd H d u := by
  funext b
  by_cases h : b = d
  · subst h
    rw [upd_same, upd_same]
  · rw [upd_ne h, upd_ne h]
    by_cases h2 : b = a
    · subst h2
      rw [del_same, na]
    · rw [del_ne h2, upd_ne h, upd_ne h2, upd_ne h, upd_ne h2]
theorem pds_raise1 (T1 : Cl1 X.prog X.w X.K X.mg X.base nm f Cc fI fd) (hK : C.K = X.K) (hc : X.calm = true) (tk : Takes X W) (hr : Room 2 X.A) (hg : Gl X nm) (he : PD X C W e T)
    (hdb : (nm == ("__debug__" : Str)) = false := by decide) (hs : starEach [e] X.env = (false, eval e X.env) :: starEach [] X.env := by rfl) (hpl : (backTo pos (starEach [] X.env)).any (·.1) = false := by rfl) :
    PDS X C W (.Raise (some (.Call (.Name nm p) [e] [] pos)) none pos') (dRaise1 Cc f T) := by
  have bb : Binds X.K fd ["self", f] [] := fun s us _ hl => by
    rw [List.append_nil] at hl ⊢
    match us, hl with
    | [x, v], _ => exact T1.bp s x v
  refine PS.imp (ps_raise hc tk (pmk_oex T1.toOexC T1.ini T1.typ T1.fn hr bb .nil pass0 hg T1.gl (pda_cons he pda_nil hs) hdb hs hpl)) fun D σ H q => ?_
  obtain ⟨lk, G, ρ, pn, E, S, t, L⟩ := q
  refine ⟨lk, G, ρ, pn, (fun ds ρ1 pn1 => match ds with | [d] => E.xd Cc [(f, d)] ρ1 pn1 | _ => False), E.xd, S, t, fun vs ds G1 H1 ρ1 pn1 S1 g1 l t1 => ?_, L.xd σ⟩
  cases l with
  | nil => exact t1.elim
  | cons lv l2 =>
    cases l2 with
    | cons _ _ => exact t1.elim
    | nil =>
      rename_i v d
      refine ⟨by simp, fun a na => ⟨a, v, rfl, upd_same, fun dd nd ne => ⟨rfl, dd, [(f, v)], upd_same, ?_, ?_, ?_⟩⟩⟩
      · rw [upd_ne ne]
        exact upd_same
      · rw [← nd, upd_ne ne]
      · have nd' : H1 dd = none := by rw [← nd, upd_ne ne]
        rw [upd_x1 na ne]
        have x := S1.exG (o := .xd [(f, v)]) nd'
        exact L.xd σ Cc dd [(f, v)] [(f, d)] _ _ ρ1 pn1 (S1.step x) upd_same rfl (.cons (lv.keep x.same) .nil) t1
theorem pds_raise2 (T1 : Cl2 X.prog X.w X.K X.mg X.base nm f g Cc fI fd) (hK : C.K = X.K) (hc : X.calm = true) (tk : Takes X W) (hr : Room 2 X.A) (hg : Gl X nm) (he : PD X C W e T) (he2 : PD X C W e2 U)
    (hdb : (nm == ("__debug__" : Str)) = false := by decide) (hs : starEach [e, e2] X.env = (false, eval e X.env) :: starEach [e2] X.env := by rfl) (hs2 : starEach [e2] X.env = (false, eval e2 X.env) :: starEach [] X.env := by rfl) (hpl : (backTo pos (starEach [e2] X.env)).any (·.1) = false := by rfl) :
    PDS X C W (.Raise (some (.Call (.Name nm p) [e, e2] [] pos)) none pos') (dRaise2 Cc f g T U) := by
  have bb : Binds X.K fd ["self", f, g] [] := fun s us _ hl => by
    rw [List.append_nil] at hl ⊢
    match us, hl with
    | [x, v, u], _ => exact T1.bp s x v u
  refine PS.imp (ps_raise hc tk (pmk_oex T1.toOexC T1.ini T1.typ T1.fn hr bb .nil pass0 hg T1.gl (pda_cons he (pda_cons he2 pda_nil hs2) hs) hdb hs hpl)) fun D σ H q => ?_
  obtain ⟨lk, G, ρ, pn, E, S, t, L⟩ := q
  refine ⟨lk, G, ρ, pn, (fun ds ρ1 pn1 => match ds with | [d, d2] => E.xd Cc [(g, d2), (f, d)] ρ1 pn1 | _ => False), E.xd, S, t, fun vs ds G1 H1 ρ1 pn1 S1 g1 l t1 => ?_, L.xd σ⟩
  cases l with
  | nil => exact t1.elim
  | cons lv l2 =>
    cases l2 with
    | nil => exact t1.elim
    | cons lv2 l3 =>
      cases l3 with
      | cons _ _ => exact t1.elim
      | nil =>
        rename_i v d v2 d2
        refine ⟨by simp, fun a na => ⟨a, v, v2, rfl, upd_same, fun dd nd ne => ⟨rfl, dd, [(g, v2), (f, v)], ?_, upd_same, ?_, ?_⟩⟩⟩
        · rw [upd_ne ne.symm]
          exact upd_same
        · rw [← nd, upd_ne ne]
        · have nd' : H1 dd = none := by rw [← nd, upd_ne ne]
          rw [upd_x2 na ne]
          have x := S1.exG (o := .xd [(g, v2), (f, v)]) nd'
          exact L.xd σ Cc dd [(g, v2), (f, v)] [(g, d2), (f, d)] _ _ ρ1 pn1 (S1.step x) upd_same rfl (.cons (lv2.keep x.same) (.cons (lv.keep x.same) .nil)) t1
end
end Td
end
section
set_option maxRecDepth 100000
set_option maxHeartbeats 4000000
/-! The data layer: walks. -/
namespace Td
open PySem PySem.Spec PyProof.Rows L2 Lw
/-- what a walk hands out, by data -/
structure ItD (K : PySem.W.Frag) (pp : PP) (lk : Lk) (Gs : Hp) (J : It) (items : List D) : Prop where
  go : ∀ (i : Nat) (G H : Hp) (pn : Pn), Ex0 K pp pn G H → Same Gs G → (∀ p ∈ lk, H p.1 = some (.frz p.2.1 (.dK p.2.2))) → i < items.length → J.go i H
  yld : ∀ (i : Nat) (G H : Hp) (pn : Pn) (x : V) (H' : Hp) (d : D), Ex0 K pp pn G H → Same Gs G → (∀ p ∈ lk, H p.1 = some (.frz p.2.1 (.dK p.2.2))) → items[i]? = some d → J.yld i H x H' → ∃ G', Ex K pp G H pn G' H' ∧ Dat K pp G' x d
  stop : ∀ (G H : Hp) (pn : Pn), Ex0 K pp pn G H → Same Gs G → (∀ p ∈ lk, H p.1 = some (.frz p.2.1 (.dK p.2.2))) → J.stop items.length H
theorem ItD.mono {K : PySem.W.Frag} {pp : PP} {lk : Lk} {Gs Gs' : Hp} {J : It} {items : List D} (h : ItD K pp lk Gs J items) (s : Same Gs Gs') : ItD K pp lk Gs' J items :=
  ⟨fun i G H pn x g => h.go i G H pn x (s.trans g), fun i G H pn v H' d x g => h.yld i G H pn v H' d x (s.trans g), fun G H pn x g => h.stop G H pn x (s.trans g)⟩
abbrev TDI := SL → Pn → (List D → SL → Pn → Prop) → XD → Prop
def tI (C : Cfg) (W : WX) (T : TDI) : TI := fun σ H R => ∃ (lk : Lk) (G : Hp) (ρ : SL) (pn : Pn) (Qd : List D → SL → Pn → Prop) (Qx : XD), StR C lk σ ρ pn G H ∧ T ρ pn Qd Qx ∧
  (∀ (J : It) (items : List D) (G' H' : Hp) (ρ' : SL) (pn' : Pn), StR C lk σ ρ' pn' G' H' → Gr C.pp σ ρ G H ρ' G' H' → ItD C.K C.pp lk G' J items → Qd items ρ' pn' → R J H') ∧ XL C W lk σ Qx
abbrev PDI (X : Cx) (C : Cfg) (W : WX) (tg e : Expr) (T : TDI) : Prop := PI X tg e (tI C W T)
theorem PI.imp {X : Cx} {tg e : Expr} {t t' : TI} (h : PI X tg e t) (i : ∀ σ H R, t' σ H R → t σ H R) : PI X tg e t' := ⟨fun pins s σ H R I q => h.run pins s σ H R I (i σ H R q)⟩
/-- the items of a value that is walked -/
def D.items : D → Option (List D)
  | .lst ds => some ds
  | .tup ds => some ds
  | _ => none
def D.signs : D → Option (List D)
  | .str x => some (x.cps.toList.map fun c => .str ⟨#[c]⟩)
  | _ => none
def dIt (f : D → Option (List D)) (T : TDE) : TDI := fun ρ pn Q X => T ρ pn (fun d ρ1 pn1 => match f d with
  | some ds => Q ds ρ1 pn1
  | none => False) X
def D.lst? : D → Option (List D)
  | .lst ds => some ds
  | _ => none
def D.tup? : D → Option (List D)
  | .tup ds => some ds
  | _ => none
section
variable {X : Cx} {C : Cfg} {W : WX} {tg e : Expr} {T : TDE} {pos p : Pos} {Ts : TDA}
theorem datL_at {K : PySem.W.Frag} {pp : PP} {G : Hp} {vs : List V} {ds : List D} {i : Nat} {v : V} {d : D} (l : DatL K pp G vs ds) (h : vs[i]? = some v) (g : ds[i]? = some d) : Dat K pp G v d := by
  obtain ⟨d', h1, h2⟩ := l.get' h
  rw [g] at h1
  cases h1
  exact h2
theorem itD_list {K : PySem.W.Frag} {pp : PP} {lk : Lk} {G : Hp} {a : Addr} {xs : List V} {ds : List D} (h : G a = some (.lst xs)) (l : DatL K pp G xs ds) : ItD K pp lk G (Itl K a) ds := by
  have at_ : ∀ {G1 H1 : Hp} {pn : Pn}, Ex0 K pp pn G1 H1 → Same G G1 → H1 a = some (.lst xs) := fun x s => (x.sub _ _ (s _ _ h)).ex (by intro _ z; cases z)
  have hl := l.length
  refine ⟨fun i G1 H1 pn x s _ hi => ?_, fun i G1 H1 pn v H' d x s _ e y => ?_, fun G1 H1 pn x s _ => ⟨xs, SqL.of (at_ x s), Nat.le_of_eq hl⟩⟩
  · exact ⟨xs, xs[i], SqL.of (at_ x s), List.getElem?_eq_getElem (by rw [hl]; exact hi)⟩
  · obtain ⟨rfl, y⟩ := y
    exact ⟨G1, x, (datL_at l (y xs (SqL.of (at_ x s))) e).keep s⟩
theorem itD_tup {K : PySem.W.Frag} {pp : PP} {lk : Lk} {G : Hp} {a : Addr} {xs : List V} {ds : List D} (h : G a = some (.tup xs)) (l : DatL K pp G xs ds) : ItD K pp lk G (Itt K a) ds := by
  have at_ : ∀ {G1 H1 : Hp} {pn : Pn}, Ex0 K pp pn G1 H1 → Same G G1 → H1 a = some (.tup xs) := fun x s => (x.sub _ _ (s _ _ h)).ex (by intro _ z; cases z)
  have hl := l.length
  refine ⟨fun i G1 H1 pn x s _ hi => ?_, fun i G1 H1 pn v H' d x s _ e y => ?_, fun G1 H1 pn x s _ => ⟨xs, SqT.of (at_ x s), Nat.le_of_eq hl⟩⟩
  · exact ⟨xs, xs[i], SqT.of (at_ x s), List.getElem?_eq_getElem (by rw [hl]; exact hi)⟩
  · obtain ⟨rfl, y⟩ := y
    exact ⟨G1, x, (datL_at l (y xs (SqT.of (at_ x s))) e).keep s⟩
theorem pdi_list (h : PD X C W e T) (hK : C.K = X.K) : PDI X C W tg e (dIt D.lst? T) := by
  refine PI.imp (pi_list h) fun σ H R q => ?_
  obtain ⟨lk, G, ρ, pn, Qd, Qx, S, t, k, xl⟩ := q
  refine ⟨lk, G, ρ, pn, _, Qx, S, t, fun x d G1 H1 ρ1 pn1 S1 g1 dx t1 => ?_, xl⟩
  cases dx <;> first | exact t1.elim | skip
  rename_i a xs ds ha l
  have hH := (S1.sub _ _ ha).ex (by intro _ z; cases z)
  refine ⟨a, rfl, ⟨xs, SqL.of hH⟩, ?_⟩
  rw [← hK]
  exact k _ _ G1 H1 ρ1 pn1 S1 g1 (itD_list ha l) t1
theorem pdi_tup (h : PD X C W e T) (hK : C.K = X.K) : PDI X C W tg e (dIt D.tup? T) := by
  refine PI.imp (pi_tup h) fun σ H R q => ?_
  obtain ⟨lk, G, ρ, pn, Qd, Qx, S, t, k, xl⟩ := q
  refine ⟨lk, G, ρ, pn, _, Qx, S, t, fun x d G1 H1 ρ1 pn1 S1 g1 dx t1 => ?_, xl⟩
  cases dx <;> first | exact t1.elim | skip
  rename_i a xs ds ha l
  have hH := (S1.sub _ _ ha).ex (by intro _ z; cases z)
  refine ⟨a, rfl, ⟨xs, SqT.of hH⟩, ?_⟩
  rw [← hK]
  exact k _ _ G1 H1 ρ1 pn1 S1 g1 (itD_tup ha l) t1
theorem pdi_str (h : PD X C W e T) : PDI X C W tg e (dIt D.signs T) := by
  refine PI.imp (pi_str h) fun σ H R q => ?_
  obtain ⟨lk, G, ρ, pn, Qd, Qx, S, t, k, xl⟩ := q
  refine ⟨lk, G, ρ, pn, _, Qx, S, t, fun x d G1 H1 ρ1 pn1 S1 g1 dx t1 => ?_, xl⟩
  cases dx <;> first | exact t1.elim | skip
  rename_i z
  refine ⟨z, rfl, k _ _ G1 H1 ρ1 pn1 S1 g1 ⟨fun i G1 H1 pn x s _ hi => ?_, fun i G1 H1 pn v H' d x s _ e y => ?_, fun G1 H1 pn x s _ => ?_⟩ t1⟩
  · show i < z.cps.size
    simpa using hi
  · obtain ⟨rfl, c, hc, rfl⟩ := y
    refine ⟨G1, x, ?_⟩
    rw [List.getElem?_map] at e
    have e2 : z.cps.toList[i]? = some c := by rw [← hc, Array.getElem?_toList]
    rw [e2] at e
    cases e
    exact .str _
  · show z.cps.size ≤ _
    simp
/-- range(n), range(a, b) -/
noncomputable def dRange1 : List D → Option (List D)
  | [.int j] => @ite _ (-(2 ^ 62) ≤ j ∧ j < 2 ^ 62) (Classical.propDecidable _) (some ((List.range j.toNat).map fun (i : Nat) => .int ((0 : Int) + i))) none
  | _ => none
noncomputable def dRange2 : List D → Option (List D)
  | [.int a, .int b] => @ite _ (-(2 ^ 62) ≤ a ∧ a < 2 ^ 62 ∧ -(2 ^ 62) ≤ b ∧ b < 2 ^ 62) (Classical.propDecidable _) (some ((List.range (b - a).toNat).map fun (i : Nat) => .int (a + i))) none
  | _ => none
def dItA (f : List D → Option (List D)) (U : TDA) : TDI := fun ρ pn Q X => U ρ pn (fun ds ρ1 pn1 => match f ds with
  | some ds => Q ds ρ1 pn1
  | none => False) X
theorem itD_range {K : PySem.W.Frag} {pp : PP} {lk : Lk} {G : Hp} {lo : Int} {n : Nat} : ItD K pp lk G (Itr lo n) ((List.range n).map fun (i : Nat) => .int (lo + i)) := by
  refine ⟨fun i G1 H1 pn x s _ hi => by show i < n; simpa using hi, fun i G1 H1 pn v H' d x s _ e y => ?_, fun G1 H1 pn x s _ => by show n ≤ _; simp⟩
  obtain ⟨rfl, rfl⟩ := y
  refine ⟨G1, x, ?_⟩
  rw [List.getElem?_map] at e
  by_cases hi : i < n
  · rw [List.getElem?_range hi] at e
    cases e
    exact .int _
  · rw [List.getElem?_eq_none (by simp; omega)] at e
    cases e
theorem pdi_range1 {a : Expr} (hg : Gl X "range") (hm : X.mg "range" = none) (ha : PDA X C W [a] Ts) (hs : starEach [a] X.env = [(false, eval a X.env)] := by rfl) : PDI X C W tg (.Call (.Name "range" p) [a] [] pos) (dItA dRange1 Ts) := by
  refine PI.imp (pi_range1 hg hm ha hs) fun σ H R q => ?_
  obtain ⟨lk, G, ρ, pn, Qd, Qx, S, t, k, xl⟩ := q
  refine ⟨lk, G, ρ, pn, _, Qx, S, t, fun vs ds G1 H1 ρ1 pn1 S1 g1 l t1 => ?_, xl⟩
  cases l with
  | nil => exact t1.elim
  | cons h l2 =>
    cases l2 with
    | cons _ _ => cases h <;> exact t1.elim
    | nil =>
      cases h <;> first | exact t1.elim | skip
      rename_i j
      simp only [dRange1] at t1
      split at t1
      · rename_i ds e
        split at e
        · rename_i c
          cases e
          exact ⟨j, rfl, c.1, c.2, k _ _ G1 H1 ρ1 pn1 S1 g1 itD_range t1⟩
        · cases e
      · exact t1.elim
theorem pdi_range2 {a b : Expr} (hg : Gl X "range") (hm : X.mg "range" = none) (ha : PDA X C W [a, b] Ts) (hs : starEach [a, b] X.env = [(false, eval a X.env), (false, eval b X.env)] := by rfl) (hs2 : starEach [b] X.env = [(false, eval b X.env)] := by rfl) :
    PDI X C W tg (.Call (.Name "range" p) [a, b] [] pos) (dItA dRange2 Ts) := by
  refine PI.imp (pi_range2 hg hm ha hs hs2) fun σ H R q => ?_
  obtain ⟨lk, G, ρ, pn, Qd, Qx, S, t, k, xl⟩ := q
  refine ⟨lk, G, ρ, pn, _, Qx, S, t, fun vs ds G1 H1 ρ1 pn1 S1 g1 l t1 => ?_, xl⟩
  cases l with
  | nil => exact t1.elim
  | cons h l2 =>
    cases l2 with
    | nil => cases h <;> exact t1.elim
    | cons h2 l3 =>
      cases l3 with
      | cons _ _ => cases h <;> first | exact t1.elim | (cases h2 <;> exact t1.elim)
      | nil =>
        cases h <;> first | exact t1.elim | skip
        cases h2 <;> first | exact t1.elim | skip
        rename_i a b
        simp only [dRange2] at t1
        split at t1
        · rename_i ds e
          split at e
          · rename_i c
            cases e
            exact ⟨a, b, rfl, c, k _ _ G1 H1 ρ1 pn1 S1 g1 itD_range t1⟩
          · cases e
        · exact t1.elim
/-- zip of two lists -/
def dZip : List D → Option (List D)
  | [.lst xs, .lst ys] => some ((xs.zip ys).map fun p => .tup [p.1, p.2])
  | _ => none
theorem pdi_zip {e2 : Expr} {tpos : Pos} {elts : List Expr} {kk : Nat} (hg : Gl X "zip") (hm : X.mg "zip" = none) (hK : C.K = X.K) (ha : PDA X C W [e, e2] Ts)
    (hs : starEach [e, e2] X.env = (false, eval e X.env) :: starEach [e2] X.env := by rfl) (hpl : (backTo pos (starEach [e2] X.env)).any (·.1) = false := by rfl) :
    PDI X C W (.Tuple elts kk tpos) (.Call (.Name "zip" p) [e, e2] [] pos) (dItA dZip Ts) := by
  refine PI.imp (pi_zip hg hm ha hs hpl) fun σ H R q => ?_
  obtain ⟨lk, G, ρ, pn, Qd, Qx, S, t, k, xl⟩ := q
  refine ⟨lk, G, ρ, pn, _, Qx, S, t, fun vs ds G1 H1 ρ1 pn1 S1 g1 l t1 => ?_, xl⟩
  cases l with
  | nil => exact t1.elim
  | cons h l2 =>
    cases l2 with
    | nil => cases h <;> exact t1.elim
    | cons h2 l3 =>
      cases l3 with
      | cons _ _ => cases h <;> first | exact t1.elim | (cases h2 <;> exact t1.elim)
      | nil =>
        cases h <;> first | exact t1.elim | skip
        cases h2 <;> first | exact t1.elim | skip
        rename_i a xs ds ha la b ys es hb lb
        have nl : ∀ {xs : List V} (kvs : List (Key × V)), HO.lst xs ≠ .dK kvs := by intro _ _ z; cases z
        have hA := (S1.sub _ _ ha).ex nl
        have hB := (S1.sub _ _ hb).ex nl
        refine ⟨a, b, xs, ys, rfl, SqL.of hA, SqL.of hB, ?_⟩
        rw [← hK]
        refine k _ _ G1 H1 ρ1 pn1 S1 g1 ?_ t1
        have len1 := la.length
        have len2 := lb.length
        refine ⟨fun i G2 H2 pn x s _ hi => ?_, fun i G2 H2 pn v H' d x s _ e y => ?_, fun G2 H2 pn x s _ => ?_⟩
        · have q1 := (x.sub _ _ (s _ _ ha)).ex nl
          have q2 := (x.sub _ _ (s _ _ hb)).ex nl
          have hi' : i < ds.length ∧ i < es.length := by
            rw [List.length_map, List.length_zip] at hi
            omega
          exact ⟨xs, ys, xs[i]'(by omega), ys[i]'(by omega), SqL.of q1, SqL.of q2, List.getElem?_eq_getElem _, List.getElem?_eq_getElem _⟩
        · have q1 := (x.sub _ _ (s _ _ ha)).ex nl
          have q2 := (x.sub _ _ (s _ _ hb)).ex nl
          obtain ⟨T, u, w, rfl, hT, rfl, y1, y2⟩ := y
          have e1 := y1 xs (SqL.of q1)
          have e2 := y2 ys (SqL.of q2)
          obtain ⟨d1, g1, m1⟩ := la.get' e1
          obtain ⟨d2, g2, m2⟩ := lb.get' e2
          have z : (ds.zip es)[i]? = some (d1, d2) := List.getElem?_zip_eq_some.mpr ⟨g1, g2⟩
          rw [List.getElem?_map, z] at e
          cases e
          have ex := StR.exG (C := exC C.K C.pp G2 H2) x (o := .tup [u, w]) hT
          exact ⟨_, ex, .tup upd_same (.cons ((m1.keep s).keep ex.same) (.cons ((m2.keep s).keep ex.same) .nil))⟩
        · have q1 := (x.sub _ _ (s _ _ ha)).ex nl
          have q2 := (x.sub _ _ (s _ _ hb)).ex nl
          refine ⟨xs, ys, SqL.of q1, SqL.of q2, ?_⟩
          rw [List.length_map, List.length_zip]
          omega
end
end Td
end
section
set_option maxRecDepth 100000
set_option maxHeartbeats 4000000
/-! The data layer: targets, loops, comprehensions. -/
namespace Td
open PySem PySem.Spec PyProof.Rows L2 Lw
/-! ### targets -/
abbrev TDG := D → SL → (SL → Prop) → Prop
/-- σ2 is σ but at the slots is -/
def ButAt (is : List Nat) (σ σ2 : L2.St) : Prop := σ2.length = σ.length ∧ ∀ i, i ∉ is → σ2[i]? = σ[i]?
theorem ButAt.refl {is : List Nat} {σ : L2.St} : ButAt is σ σ := ⟨rfl, fun _ _ => rfl⟩
theorem ButAt.set {is : List Nat} {σ : L2.St} {i : Nat} {v : Option V} (h : i ∈ is) : ButAt is σ (σ.set i v) := ⟨by simp, fun j hj => List.getElem?_set_ne (fun e => hj (by rw [← e]; exact h))⟩
theorem ButAt.trans {is : List Nat} {σ σ1 σ2 : L2.St} (a : ButAt is σ σ1) (b : ButAt is σ1 σ2) : ButAt is σ σ2 := ⟨b.1.trans a.1, fun i h => (b.2 i h).trans (a.2 i h)⟩
/-- what may change still may, and stands where it stood -/
def KeepO (is : List Nat) (ρ ρ' : SL) : Prop := ∀ (i : Nat) (sv : SV), ρ'[i]? = some sv → sv.own = true → i ∉ is ∧ ρ[i]? = some sv
def tG (C : Cfg) (is : List Nat) (g : TDG) : TG := fun v σ H Q => ∃ (lk : Lk) (G : Hp) (ρ : SL) (pn : Pn) (d : D) (Qd : SL → Prop), StR C lk σ ρ pn G H ∧ Dat C.K C.pp G v d ∧ g d ρ Qd ∧
  ∀ (σ' : L2.St) (ρ' : SL), ButAt is σ σ' → KeepO is ρ ρ' → StR C lk σ' ρ' pn G H → Qd ρ' → Q σ' H
abbrev PDG (X : Cx) (C : Cfg) (is : List Nat) (tg : Expr) (g : TDG) : Prop := PG X tg (tG C is g)
theorem PG.imp {X : Cx} {tg : Expr} {t t' : TG} (h : PG X tg t) (i : ∀ v σ H Q, t' v σ H Q → t v σ H Q) : PG X tg t' := ⟨fun pins s σ H v u Q I r q => h.run pins s σ H v u Q I r (i v σ H Q q)⟩
theorem keepO_set {i : Nat} {d : D} {ρ : SL} : KeepO [i] ρ (ρ.set i (.fz d)) := fun j sv e o => by
  by_cases h : i = j
  · subst h
    by_cases hl : i < ρ.length
    · rw [List.getElem?_set_self hl] at e
      cases e
      cases o
    · rw [List.getElem?_eq_none (by simp; omega)] at e
      cases e
  · rw [List.getElem?_set_ne h] at e
    exact ⟨by simp [Ne.symm h], e⟩
def gN (i : Nat) : TDG := fun d ρ Q => Q (ρ.set i (.fz d))
/-- a pair, three -/
def gT (is : List Nat) : TDG := fun d ρ Q => match d with
  | .tup ds => ds.length = is.length ∧ Q ((is.zip ds).foldl (fun r p => r.set p.1 (.fz p.2)) ρ)
  | _ => False
section
variable {X : Cx} {C : Cfg} {W : WX} {pos : Pos}
theorem pdg_name {i : Nat} {x : Str} (hN : X.N.Nodup) (hi : X.N[i]? = some x) (hx : Loc X.env.scope x) (hf : X.fn x = true ∨ X.env.scope.names.lookup x = some .local := by first | exact .inl rfl | exact .inr rfl | assumption) : PDG X C [i] (.Name x pos) (gN i) := by
  refine PG.imp (pg_name hN hi hx hf) fun v σ H Q q => ?_
  obtain ⟨lk, G, ρ, pn, d, Qd, S, dv, t, k⟩ := q
  exact k _ _ (ButAt.set (by simp)) (keepO_set) (S.setFz dv i) t
theorem KeepO.add {i : Nat} {d : D} {pre : List Nat} {ρ0 ρ : SL} (k : KeepO pre ρ0 ρ) : KeepO (pre ++ [i]) ρ0 (ρ.set i (.fz d)) := fun j sv e o => by
  obtain ⟨h1, h2⟩ := keepO_set j sv e o
  obtain ⟨h3, h4⟩ := k j sv h2 o
  exact ⟨by simp only [List.mem_append, not_or]; exact ⟨h3, h1⟩, h4⟩
/-- names alone, one behind the other -/
inductive PGN (X : Cx) : List Expr → List Nat → TGs → Prop
  | nil : PGN X [] [] gNil
  | cons {e : Expr} {es : List Expr} {i : Nat} {is : List Nat} {u : TGs} : PG X e (gName i) → PGN X es is u → PGN X (e :: es) (i :: is) (gCons (gName i) u)
theorem names_run {lk : Lk} {G H : Hp} {pn : Pn} {P : L2.St → Hp → Prop} {Qd : SL → Prop} {is0 : List Nat} {ρ0 : SL} : ∀ {es : List Expr} {is pre : List Nat} {u : TGs} {σ σ0 : L2.St} {ρ : SL} {vs : List V} {ds : List D}, PGN X es is u → (∀ i ∈ is, i ∈ is0) → ButAt is0 σ0 σ → KeepO pre ρ0 ρ → pre ++ is = is0 → StR C lk σ ρ pn G H → DatL C.K C.pp G vs ds → ds.length = is.length →
    Qd ((is.zip ds).foldl (fun r p => r.set p.1 (.fz p.2)) ρ) → (∀ (σ' : L2.St) (ρ' : SL), ButAt is0 σ0 σ' → KeepO is0 ρ0 ρ' → StR C lk σ' ρ' pn G H → Qd ρ' → P σ' H) → u vs σ H P := by
  intro es is pre u σ σ0 ρ vs ds g
  induction g generalizing σ ρ vs ds pre with
  | nil =>
    intro _ b kp hp S l hl q k
    cases l with
    | nil => exact ⟨rfl, k σ ρ b (by rw [← hp, List.append_nil]; exact kp) S q⟩
    | cons _ _ => cases hl
  | @cons e es i is u ge gs ih =>
    intro hi b kp hp S l hl q k
    cases l with
    | nil => cases hl
    | @cons v vs d ds lv l2 =>
      refine ⟨v, vs, rfl, ?_⟩
      show u vs (σ.set i (some v)) H P
      exact ih (fun j hj => hi j (List.mem_cons_of_mem _ hj)) (b.trans (ButAt.set (hi i List.mem_cons_self))) (pre := pre ++ [i]) (kp.add) (by rw [List.append_assoc]; exact hp) (S.setFz lv i) l2 (Nat.succ.inj hl) q k
theorem pdg_tup {es : List Expr} {is : List Nat} {u : TGs} {k : Nat} {n : Nat} (hK : C.K = X.K) (hc : X.calm = true) (h : PGN X es is u) (hs : PGs X es u) (hn : (assignEach es X.env).length = n := by rfl) (hst : (assignEach es X.env).findIdx? (·.1) = none := by rfl) (hl : is.length = n := by rfl) :
    PDG X C is (.Tuple es k pos) (gT is) := by
  refine PG.imp (pg_tup hc hs hn hst) fun v σ H Q q => ?_
  obtain ⟨lk, G, ρ, pn, d, Qd, S, dv, t, kk⟩ := q
  cases dv <;> first | exact t.elim | skip
  rename_i a xs ds ha l
  have hH := (S.sub _ _ ha).ex (by intro _ z; cases z)
  exact ⟨a, xs, rfl, SqT.of hH, by rw [l.length, t.1, hl], names_run (pre := []) h (fun _ hi => hi) .refl (fun _ _ e _ => ⟨by simp, e⟩) rfl S l t.1 t.2 kk⟩
end

/-! ### for -/
/-- a loop over what is known -/
def forW (g : TDG) (body : TDS) (E : DE) : List D → SL → Pn → Prop
  | [] => E.nx
  | d :: r => fun ρ pn => g d ρ fun ρ1 => body { E with nx := forW g body E r, ct := forW g body E r, bk := E.nx } ρ1 pn
def dFor (I : TDI) (g : TDG) (body : TDS) : TDS := fun E ρ pn => I ρ pn (fun items ρ1 pn1 => forW g body E items ρ1 pn1) E.xd
section
variable {X : Cx} {C : Cfg} {W : WX} {pos : Pos} {tg iter : Expr} {body : List Stmt} {I : TDI} {g : TDG} {is : List Nat} {T : TDS}
theorem pds_for (hp : PassesOwn (model X.prog X.w) X.A X.env X.xe) (hc : X.calm = true) (hi : PDI X C W tg iter I) (hg : PDG X C is tg g) (hb : PDSs X C W body T)
    (hs : ∀ x, foldedSetIterable iter X.env x = pure x := by intro _; rfl) : PDS X C W (.For tg iter body [] pos) (dFor I g T) := by
  refine PS.imp (ps_for hp hc hi hg hb hs) fun D σ H q => ?_
  obtain ⟨lk, G, ρ, pn, E, S, t, L⟩ := q
  refine ⟨lk, G, ρ, pn, _, _, S, t, fun J items G1 H1 ρ1 pn1 S1 g1 it q => ?_, L.xd σ⟩
  refine ⟨fun i m σ H => m = items.length - i ∧ i ≤ items.length ∧ ∃ (G2 : Hp) (ρ2 : SL) (pn2 : Pn), StR C lk σ ρ2 pn2 G2 H ∧ Same G1 G2 ∧ forW g T E (items.drop i) ρ2 pn2, ⟨items.length, by simp, Nat.zero_le _, G1, ρ1, pn1, S1, fun _ _ h => h, q⟩, ?_⟩
  rintro i m σ H ⟨rfl, hi2, G2, ρ2, pn2, S2, s2, w⟩
  have lkk : ∀ p ∈ lk, H p.1 = some (.frz p.2.1 (.dK p.2.2)) := fun p hp => (S2.lkG p hp).2.1
  by_cases hlt : i < items.length
  · rw [List.drop_eq_getElem_cons hlt] at w
    refine .inr ⟨it.go i G2 H pn2 S2.ex0 s2 lkk hlt, fun σ' H' => ∃ (G3 : Hp) (ρ3 : SL) (pn3 : Pn), StR C lk σ' ρ3 pn3 G3 H' ∧ Same G1 G3 ∧ forW g T E (items.drop (i + 1)) ρ3 pn3,
      fun σ' H' ⟨G3, ρ3, pn3, S3, s3, w3⟩ => ⟨items.length - (i + 1), by omega, rfl, hlt, G3, ρ3, pn3, S3, s3, w3⟩, fun x H' y => ?_⟩
    obtain ⟨G', ex, dx⟩ := it.yld i G2 H pn2 x H' items[i] S2.ex0 s2 lkk (List.getElem?_eq_getElem hlt) y
    have S3 := S2.step ex
    refine ⟨lk, G', ρ2, pn2, items[i], _, S3, dx, w, fun σ' ρ' _ _ S4 w4 => ⟨lk, G', ρ', pn2, _, S4, w4, ?_⟩⟩
    have s3 := s2.trans ex.same
    exact ⟨fun σ' ρ' pn' G' H' S' s e => ⟨G', ρ', pn', S', s3.trans s, e⟩, fun σ' ρ' pn' G' H' S' s e => L.nx σ' ρ' pn' G' H' S' (g1.same.trans (s3.trans s)) e, fun σ' ρ' pn' G' H' S' s e => ⟨G', ρ', pn', S', s3.trans s, e⟩, L.rt, L.xd⟩
  · have e : i = items.length := by omega
    subst e
    rw [List.drop_length] at w
    exact .inl ⟨it.stop G2 H pn2 S2.ex0 s2 lkk, L.nx σ ρ2 pn2 G2 H S2 (g1.same.trans s2) w⟩
end
/-! ### while -/
def whileW (B : TDT) (body : TDS) (E : DE) : Nat → SL → Pn → Prop
  | 0 => fun _ _ => False
  | n + 1 => fun ρ pn => B ρ pn (fun b ρ1 pn1 => if b = true then body { E with nx := whileW B body E n, ct := whileW B body E n, bk := E.nx } ρ1 pn1 else E.nx ρ1 pn1) E.xd
def dWhile (B : TDT) (body : TDS) : TDS := fun E ρ pn => ∃ n, whileW B body E n ρ pn
section
variable {X : Cx} {C : Cfg} {W : WX} {pos : Pos} {c : Expr} {body : List Stmt} {B : TDT} {T : TDS}
theorem pds_while (hp : PassesOwn (model X.prog X.w) X.A X.env X.xe) (hc : PDT X C W c B) (hb : PDSs X C W body T) : PDS X C W (.While c body [] pos) (dWhile B T) := by
  refine PS.imp (ps_while hp hc hb) fun D σ H q => ?_
  obtain ⟨lk, G, ρ, pn, E, S, ⟨n, t⟩, L⟩ := q
  refine ⟨fun m σ H => ∃ (G2 : Hp) (ρ2 : SL) (pn2 : Pn), StR C lk σ ρ2 pn2 G2 H ∧ Same G G2 ∧ whileW B T E m ρ2 pn2, ⟨n, G, ρ, pn, S, fun _ _ h => h, t⟩, ?_⟩
  rintro m σ H ⟨G2, ρ2, pn2, S2, s2, w⟩
  cases m with
  | zero => exact w.elim
  | succ m =>
    refine ⟨lk, G2, ρ2, pn2, _, _, S2, w, fun b G3 H3 ρ3 pn3 S3 g3 w3 => ?_, L.xd σ⟩
    have s3 := s2.trans g3.same
    cases b with
    | false => exact L.nx σ ρ3 pn3 G3 H3 S3 s3 w3
    | true =>
      refine ⟨fun σ' H' => ∃ (G4 : Hp) (ρ4 : SL) (pn4 : Pn), StR C lk σ' ρ4 pn4 G4 H' ∧ Same G G4 ∧ whileW B T E m ρ4 pn4, fun σ' H' ⟨G4, ρ4, pn4, S4, s4, w4⟩ => ⟨m, Nat.lt_succ_self m, G4, ρ4, pn4, S4, s4, w4⟩, ?_⟩
      exact ⟨lk, G3, ρ3, pn3, _, S3, w3, ⟨fun σ' ρ' pn' G' H' S' s e => ⟨G', ρ', pn', S', s3.trans s, e⟩, fun σ' ρ' pn' G' H' S' s e => L.nx σ' ρ' pn' G' H' S' (s3.trans s) e, fun σ' ρ' pn' G' H' S' s e => ⟨G', ρ', pn', S', s3.trans s, e⟩, L.rt, L.xd⟩⟩
end
end Td
end
section
set_option maxRecDepth 100000
set_option maxHeartbeats 4000000
/-! The data layer: comprehensions. -/
namespace Td
open PySem PySem.Spec PyProof.Rows L2 Lw
def wipeD (ρ : SL) : List Nat → SL
  | [] => ρ
  | v :: vs => (wipeD ρ vs).set v .un
section
variable {C : Cfg} {lk : Lk} {σ σ2 : L2.St} {ρ : SL} {pn pn' : Pn} {G H G' H' : Hp}
theorem StR.wipe (S : StR C lk σ ρ pn G H) : ∀ vs : List Nat, StR C lk (L2.wipe σ vs) (wipeD ρ vs) pn G H
  | [] => S
  | v :: vs => (S.wipe vs).setUn none v
theorem wipe_get (σ : L2.St) : ∀ (vs : List Nat) (i : Nat), (L2.wipe σ vs)[i]? = if i ∈ vs then σ[i]?.map fun _ => none else σ[i]?
  | [], i => by simp [L2.wipe]
  | v :: vs, i => by
    show ((L2.wipe σ vs).set v none)[i]? = _
    by_cases h : v = i
    · subst h
      rw [if_pos List.mem_cons_self]
      by_cases hl : v < σ.length
      · rw [List.getElem?_set_self (by rw [wipe_length]; exact hl), List.getElem?_eq_getElem hl]
        rfl
      · rw [List.getElem?_eq_none (by simp [wipe_length]; omega), List.getElem?_eq_none (by omega)]
        rfl
    · rw [List.getElem?_set_ne h, wipe_get σ vs i]
      have e : (i ∈ v :: vs) = (i ∈ vs) := by simp [Ne.symm h]
      simp only [e]
theorem wipe_but {vs : List Nat} (b : ButAt vs (L2.wipe σ vs) σ2) : L2.wipe σ2 vs = L2.wipe σ vs := by
  refine List.ext_getElem? fun i => ?_
  rw [wipe_get, wipe_get]
  have hl : σ2.length = σ.length := b.1.trans (wipe_length σ vs)
  by_cases h : i ∈ vs
  · rw [if_pos h, if_pos h]
    by_cases hi : i < σ.length
    · rw [List.getElem?_eq_getElem hi, List.getElem?_eq_getElem (by omega)]
      rfl
    · rw [List.getElem?_eq_none (by omega), List.getElem?_eq_none (by omega)]
  · rw [if_neg h, if_neg h, b.2 i h, wipe_get, if_neg h]
theorem wipeD_get (ρ : SL) : ∀ (vs : List Nat) (i : Nat), (wipeD ρ vs)[i]? = if i ∈ vs then ρ[i]?.map fun _ => .un else ρ[i]?
  | [], i => by simp [wipeD]
  | v :: vs, i => by
    show ((wipeD ρ vs).set v .un)[i]? = _
    have wl : ∀ us : List Nat, (wipeD ρ us).length = ρ.length := fun us => by
      induction us with
      | nil => rfl
      | cons u us ih => unfold wipeD; rw [List.length_set, ih]
    by_cases h : v = i
    · subst h
      rw [if_pos List.mem_cons_self]
      by_cases hl : v < ρ.length
      · rw [List.getElem?_set_self (by rw [wl]; exact hl), List.getElem?_eq_getElem hl]
        rfl
      · rw [List.getElem?_eq_none (by simp [wl]; omega), List.getElem?_eq_none (by omega)]
        rfl
    · rw [List.getElem?_set_ne h, wipeD_get ρ vs i]
      have e : (i ∈ v :: vs) = (i ∈ vs) := by simp [Ne.symm h]
      simp only [e]
theorem wiped_not {vs : List Nat} {i : Nat} {sv : SV} (e : (wipeD ρ vs)[i]? = some sv) (o : sv.own = true) : i ∉ vs ∧ ρ[i]? = some sv := by
  rw [wipeD_get] at e
  by_cases h : i ∈ vs
  · rw [if_pos h] at e
    exfalso
    cases q : ρ[i]? with
    | none => rw [q] at e; cases e
    | some t => rw [q] at e; cases e; cases o
  · rw [if_neg h] at e
    exact ⟨h, e⟩
theorem ownAt_wipe {vs : List Nat} {a : Addr} (h : OwnAt (L2.wipe σ vs) (wipeD ρ vs) a) : OwnAt σ ρ a := by
  obtain ⟨i, sv, e, o, z⟩ := h
  obtain ⟨hn, e2⟩ := wiped_not e o
  rw [wipe_get, if_neg hn] at z
  exact ⟨i, sv, e2, o, z⟩
/-- back from the block: its own slots are unknown -/
theorem StR.unwipe {vs : List Nat} (S : StR C lk (L2.wipe σ vs) ρ pn G H) (h : ∀ i ∈ vs, ∀ sv, ρ[i]? = some sv → sv = .un) : StR C lk σ ρ pn G H := by
  refine S.slots (S.len.trans (wipe_length σ vs)) (fun i sv e => ?_) fun i j s t a e1 e2 o1 o2 a1 a2 => ?_
  · by_cases hi : i ∈ vs
    · rw [h i hi sv e]
      trivial
    · have q := S.slot i sv e
      rw [wipe_get, if_neg hi] at q
      exact q
  · have n : ∀ {k : Nat} {u : SV}, ρ[k]? = some u → u.own = true → k ∉ vs := fun {k u} e o hk => by
      rw [h k hk u e] at o
      cases o
    refine S.apart i j s t a e1 e2 o1 o2 ?_ ?_
    · rw [wipe_get, if_neg (n e1 o1)]
      exact a1
    · rw [wipe_get, if_neg (n e2 o2)]
      exact a2
theorem ownAt_unwipe {vs : List Nat} {a : Addr} (h : ∀ i ∈ vs, ∀ sv, ρ[i]? = some sv → sv = .un) (o : OwnAt σ ρ a) : OwnAt (L2.wipe σ vs) ρ a := by
  obtain ⟨i, sv, e, o, z⟩ := o
  refine ⟨i, sv, e, o, ?_⟩
  rw [wipe_get, if_neg fun hi => by rw [h i hi sv e] at o; cases o]
  exact z
/-- what stands apart from all that is known may change -/
theorem StR.updA (S : StR C lk σ ρ pn G H) {a : Addr} {o o' : HO} (h : H a = some o) (g : G a = none) (n0 : C.H0 a = none) (no : ∀ i, o ≠ .own i) (nf : ∀ x u, o ≠ .frz x u) (nw : ¬ OwnAt σ ρ a) (nc : C.pp.p ≠ none → a ≠ C.pp.c) : StR C lk σ ρ pn G (upd H a o') := by
  have nmu : a ∉ C.mu := fun z => (S.muG a z).2.2 n0
  have np : C.pp.p ≠ some a := fun z => nmu (S.ppmu z)
  have ne : ∀ {b : Addr} {u : HO}, G b = some u → b ≠ a := fun e z => by rw [z, g] at e; cases e
  refine ⟨fun b u e => ?_, S.g0, S.new, fun b u e m => ?_, fun b e => ?_, fun p hp => ?_, fun b hb => ?_, fun p hp => ?_, S.len, fun i sv e => ?_, S.apart⟩
  · have nb := ne e
    refine (S.sub b u e).elim (fun q => .inl (by rw [upd_ne nb]; exact q)) fun ⟨k, r⟩ => .inr ⟨k, ?_⟩
    exact r.elim (fun r => .inl (by rw [upd_ne nb]; exact r)) fun ⟨w, r⟩ => .inr ⟨w, by rw [upd_ne nb]; exact r⟩
  · have nb : b ≠ a := fun z => by rw [z, n0] at e; cases e
    obtain ⟨k1, k2⟩ := S.keep b u e m
    exact ⟨k1.elim (fun r => .inl (by rw [upd_ne nb]; exact r)) fun ⟨w, r⟩ => .inr ⟨w, by rw [upd_ne nb]; exact r⟩, fun l => by rw [upd_ne nb]; exact k2 l⟩
  · have nb : b ≠ a := fun z => by rw [z] at e; exact e n0
    rw [upd_ne nb]
    exact S.live b e
  · obtain ⟨z1, z2, z3⟩ := S.lkG p hp
    exact ⟨z1, by rw [upd_ne (ne z1)]; exact z2, z3⟩
  · obtain ⟨z1, z2, z3⟩ := S.muG b hb
    exact ⟨z1, by rw [upd_ne (fun z => nmu (by rw [← z]; exact hb))]; exact z2, z3⟩
  · obtain ⟨z0, z1, P⟩ := S.pen p hp
    have n1 : p ≠ a := fun z => np (by rw [← z]; exact hp)
    exact ⟨z0, z1, ⟨by rw [upd_ne n1]; exact P.ob, by rw [upd_ne (nc (by rw [hp]; simp)).symm]; exact P.ce, P.i0, P.r0, P.l63⟩⟩
  · have q := S.slot i sv e
    have nb : ∀ {b : Addr}, sv.own = true → σ[i]? = some (some (.ref b)) → b ≠ a := fun o2 e2 z => nw ⟨i, sv, e, o2, by rw [← z]; exact e2⟩
    cases sv with
    | un => trivial
    | fz d => exact q
    | ol ds => obtain ⟨b, xs, e, q, r⟩ := q; exact ⟨b, xs, e, by rw [upd_ne (nb rfl e)]; exact q, r⟩
    | od ds => obtain ⟨b, xs, e, q, r⟩ := q; exact ⟨b, xs, e, by rw [upd_ne (nb rfl e)]; exact q, r⟩
    | oo T ds =>
      obtain ⟨b, dx, fs, e, q, q2, r⟩ := q
      have nd : dx ≠ a := fun z => by
        rw [z, h] at q2
        exact no _ (Option.some.inj q2)
      exact ⟨b, dx, fs, e, by rw [upd_ne (nb rfl e)]; exact q, by rw [upd_ne nd]; exact q2, r⟩
theorem Gr.updA {pp : PP} {ρ' : SL} {a : Addr} {o : HO} (g : Gr pp σ ρ G H ρ' G' H') (n : H a = none) : Gr pp σ ρ G H ρ' G' (upd H' a o) := by
  refine ⟨g.same, g.new, fun b u e m => ?_, fun b e => ?_, g.ow⟩
  · rw [upd_ne fun z => by rw [z, n] at e; cases e]
    exact g.bu b u e m
  · by_cases h : b = a
    · rw [h, upd_same]
      simp
    · rw [upd_ne h]
      exact g.live b e
end
def X0 : XD := fun _ _ _ _ => False
def W0 : WX := fun _ _ _ _ => False
theorem xl0 {C : Cfg} {lk : Lk} {σ : L2.St} {W : WX} : XL C W lk σ X0 := fun _ _ _ _ _ _ _ _ _ _ _ _ q => q.elim
/-- the turns of a comprehension -/
def lcW (vs : List Nat) (g : TDG) (TT : TDT) (TE : TDE) : List D → List D → SL → Pn → (List D → SL → Pn → Prop) → Prop
  | [], acc, ρ, pn, Q => Q acc ρ pn
  | d :: r, acc, ρ, pn, Q => g d ρ fun ρ1 => TT ρ1 pn (fun b ρ2 pn2 => if b = true then TE ρ2 pn2 (fun e ρ3 pn3 => acc.length < sizeLine ∧ lcW vs g TT TE r (acc ++ [e]) (wipeD ρ3 vs) pn3 Q) X0 else lcW vs g TT TE r acc (wipeD ρ2 vs) pn2 Q) X0
def dLc (I : TDI) (vs : List Nat) (g : TDG) (TT : TDT) (TE : TDE) : TDE := fun ρ pn Q X => I ρ pn (fun items ρ1 pn1 => lcW vs g TT TE items [] (wipeD ρ1 vs) pn1 fun acc ρ2 pn2 => Q (.lst acc) (wipeD ρ2 vs) pn2) X
def dYes : TDT := fun ρ pn Q _ => Q true ρ pn
section
variable {C : Cfg} {W : WX} {X : Cx}
abbrev PDTs (X : Cx) (C : Cfg) (W : WX) (ifs : List Expr) (T : TDT) : Prop := PTs X ifs (tT C W T)
theorem pdts_nil : PDTs X C W [] dYes := by
  refine ⟨fun pins s σ H Q I q => pts_nil.run pins s σ H Q I ?_⟩
  obtain ⟨lk, G, ρ, pn, Qd, Qx, S, t, k, xl⟩ := q
  exact k true G H ρ pn S .refl t
theorem pdts_one {c : Expr} {B : TDT} (h : PDT X C W c B) : PDTs X C W [c] B := pts_one h
/-- the reading of a comprehension, its source read in any way -/
theorem lc_runG {ti : TI} {PL : Lk → Prop} {I : TDI} {own : List (Str × Nat)} {is : List Nat} {g : TDG} {TT : TDT} {TE : TDE} {σ : L2.St} {H : Hp} {Q : VK}
    (hti : ∀ (lk : Lk) (G : Hp) (ρ : SL) (pn : Pn) (Qd : List D → SL → Pn → Prop) (Qx : XD) (R : It → Hp → Prop), PL lk → StR C lk σ ρ pn G H → I ρ pn Qd Qx → (∀ (J : It) (items : List D) (G' H' : Hp) (ρ' : SL) (pn' : Pn), StR C lk σ ρ' pn' G' H' → Gr C.pp σ ρ G H ρ' G' H' → ItD C.K C.pp lk G' J items → Qd items ρ' pn' → R J H') → XL C W lk σ Qx → ti σ H R)
    (hv : ∀ i ∈ is, i ∈ own.map (·.2))
    (q : ∃ (lk : Lk) (G : Hp) (ρ : SL) (pn : Pn) (Qd : SV → SL → Pn → Prop) (Qx : XD), PL lk ∧ StR C lk σ ρ pn G H ∧ (I ρ pn (fun items ρ1 pn1 => lcW (own.map (·.2)) g TT TE items [] (wipeD ρ1 (own.map (·.2))) pn1 fun acc ρ2 pn2 => Qd (.ol acc) (wipeD ρ2 (own.map (·.2))) pn2) Qx) ∧
      (∀ (a : Addr) (xs : List V) (ds : List D) (G' H' : Hp) (ρ' : SL) (pn' : Pn), StR C lk σ ρ' pn' G' H' → Gr C.pp σ ρ G H ρ' G' H' → H a = none → H' a = some (.lst xs) → G' a = none → C.H0 a = none → ¬ OwnAt σ ρ' a → (C.pp.p ≠ none → a ≠ C.pp.c) → C.pp.p ≠ some a → DatL C.K C.pp G' xs ds → Qd (.ol ds) ρ' pn' → Q (.ref a) H') ∧ XL C W lk σ Qx) :
    tLc ti (tG C is g) (tT C W0 TT) (tD C W0 TE) (own.map (·.2)) σ H Q := by
  generalize hvs : own.map (·.2) = vs at *
  obtain ⟨lk, G, ρ, pn, Qd, Qx, pl, S, t, k, xl⟩ := q
  refine hti lk G ρ pn _ Qx _ pl S t (fun J items G1 H1 ρ1 pn1 S1 g1 it q A hA => ?_) xl
  have n0 : C.H0 A = none := by
    cases z : C.H0 A with
    | none => rfl
    | some u => exact absurd hA (S1.live A (by rw [z]; simp))
  have np : C.pp.p ≠ some A := fun z => by
    have P := (S1.pen A z).2.2
    rw [P.ob] at hA
    cases hA
  have nc : C.pp.p ≠ none → A ≠ C.pp.c := fun z e => by
    cases y : C.pp.p with
    | none => exact z y
    | some p =>
      have P := (S1.pen p y).2.2.ce
      rw [← e, hA] at P
      cases P
  have S1w := S1.wipe vs
  have now : ¬ OwnAt (L2.wipe σ vs) (wipeD ρ1 vs) A := fun ⟨i, sv, e, o, z⟩ => (S1w.placed e o z).1 hA
  refine ⟨fun i m H => m = items.length - i ∧ i ≤ items.length ∧ ∃ (G2 : Hp) (ρ2 : SL) (pn2 : Pn) (xs : List V) (acc : List D), StR C lk (L2.wipe σ vs) ρ2 pn2 G2 H ∧ Gr C.pp (L2.wipe σ vs) (wipeD ρ1 vs) G1 H1 ρ2 G2 H ∧ H A = some (.lst xs) ∧ G2 A = none ∧ DatL C.K C.pp G2 xs acc ∧
    lcW vs g TT TE (items.drop i) acc ρ2 pn2 fun acc ρ2 pn2 => Qd (.ol acc) (wipeD ρ2 vs) pn2, ⟨items.length, by simp, Nat.zero_le _, G1, _, pn1, [], [], S1w.step (S1w.exH hA), .ex (S1w.exH hA), upd_same, ?_, .nil, q⟩, ?_⟩
  · cases z : G1 A with
    | none => rfl
    | some u => exact absurd hA (S1.sub A u z).live
  rintro i m H2 ⟨rfl, hi, G2, ρ2, pn2, xs, acc, S2, g2, eA, gA, la, w⟩
  have lkk : ∀ p ∈ lk, H2 p.1 = some (.frz p.2.1 (.dK p.2.2)) := fun p hp => (S2.lkG p hp).2.1
  have wn : ∀ i ∈ vs, ∀ sv, (wipeD ρ2 vs)[i]? = some sv → sv = .un := fun i hi sv e => by
    rw [wipeD_get, if_pos hi] at e
    cases y : ρ2[i]? with
    | none => rw [y] at e; cases e
    | some t => rw [y] at e; cases e; rfl
  by_cases hlt : i < items.length
  · rw [List.drop_eq_getElem_cons hlt] at w
    refine .inr ⟨it.go i G2 H2 pn2 S2.ex0 g2.same lkk hlt, fun H' => ∃ (G3 : Hp) (ρ3 : SL) (pn3 : Pn) (xs : List V) (acc : List D), StR C lk (L2.wipe σ vs) ρ3 pn3 G3 H' ∧ Gr C.pp (L2.wipe σ vs) (wipeD ρ1 vs) G1 H1 ρ3 G3 H' ∧ H' A = some (.lst xs) ∧ G3 A = none ∧ DatL C.K C.pp G3 xs acc ∧
      lcW vs g TT TE (items.drop (i + 1)) acc ρ3 pn3 fun acc ρ2 pn2 => Qd (.ol acc) (wipeD ρ2 vs) pn2, fun H' ⟨G3, ρ3, pn3, xs3, acc3, r⟩ => ⟨items.length - (i + 1), by omega, rfl, hlt, G3, ρ3, pn3, xs3, acc3, r⟩, fun x H' y => ?_⟩
    obtain ⟨G', ex, dx⟩ := it.yld i G2 H2 pn2 x H' items[i] S2.ex0 g2.same lkk (List.getElem?_eq_getElem hlt) y
    have S3 := S2.step ex
    have g3 : Gr C.pp (L2.wipe σ vs) (wipeD ρ1 vs) G1 H1 ρ2 G' H' := Gr.trans g2 (.ex ex)
    have eA3 : H' A = some (.lst xs) := ex.bu A _ eA np
    have gA3 : G' A = none := by
      cases z : G' A with
      | none => rfl
      | some u =>
        rcases ex.new A (by rw [z]; simp) with y | y
        · exact absurd gA y
        · have y' : H2 A = none := y
          rw [eA] at y'
          cases y'
    refine ⟨lk, G', ρ2, pn2, items[i], _, S3, dx, w, fun σ2 ρ3 b ko S4 w4 => ?_⟩
    have bv : ButAt vs (L2.wipe σ vs) σ2 := ⟨b.1, fun j hj => b.2 j fun z => hj (hv j z)⟩
    have ee := wipe_but bv
    have oo : ∀ a, OwnAt σ2 ρ3 a → OwnAt (L2.wipe σ vs) ρ2 a := fun a ⟨j, sv, e, o, z⟩ => by
      obtain ⟨n1, n2⟩ := ko j sv e o
      exact ⟨j, sv, n2, o, by rw [← b.2 j n1]; exact z⟩
    refine ⟨ee, lk, G', ρ3, pn2, _, X0, S4, w4, fun bb G5 H5 ρ5 pn5 S5 g5 w5 => ?_, xl0⟩
    have g5' : GrO C.pp (OwnAt (L2.wipe σ vs) (wipeD ρ1 vs)) G1 H1 (OwnAt σ2 ρ5) G5 H5 := GrO.trans g3 oo g5
    have eA5 : H5 A = some (.lst xs) := g5.bu A _ eA3 np
    have nA : ∀ {ρx : SL}, (∀ a, OwnAt σ2 ρx a → OwnAt σ2 ρ3 a) → ¬ OwnAt σ2 ρx A := fun f z => now (g2.ow A (oo A (f A z)))
    have ga : ∀ {Gx Hx Gy Hy : Hp} {ρx ρy : SL}, GrO C.pp (OwnAt σ2 ρx) Gx Hx (OwnAt σ2 ρy) Gy Hy → Gx A = none → Hx A = some (.lst xs) → (∀ a, OwnAt σ2 ρx a → OwnAt σ2 ρ3 a) → Gy A = none := fun {Gx Hx Gy Hy ρx ρy} gg h1 h2 f => by
      cases z : Gy A with
      | none => rfl
      | some u =>
        rcases gg.new A (by rw [z]; simp) with y | y | y
        · exact absurd h1 y
        · rw [h2] at y
          cases y
        · exact absurd y (nA f)
    have gA5 : G5 A = none := ga g5 gA3 eA3 (fun _ h => h)
    cases bb with
    | false =>
      have S6 := S5.wipe vs
      rw [ee] at S6
      exact ⟨G5, _, pn5, xs, acc, S6, ⟨g5'.same, g5'.new, g5'.bu, g5'.live, fun a h => g5'.ow a (ownAt_wipe (by rw [ee]; exact h))⟩, eA5, gA5, (la.keep ex.same).keep g5.same, w5⟩
    | true =>
      refine ⟨lk, G5, ρ5, pn5, _, X0, S5, w5, fun v d G6 H6 ρ6 pn6 S6 g6 dv w6 => ?_, xl0⟩
      have g6' : GrO C.pp (OwnAt (L2.wipe σ vs) (wipeD ρ1 vs)) G1 H1 (OwnAt σ2 ρ6) G6 H6 := GrO.trans g5' (fun _ h => h) g6
      have eA6 : H6 A = some (.lst xs) := g6.bu A _ eA5 np
      have gA6 : G6 A = none := ga g6 gA5 eA5 g5.ow
      have la6 : DatL C.K C.pp G6 xs acc := ((la.keep ex.same).keep g5.same).keep g6.same
      have nA6 : ¬ OwnAt σ2 ρ6 A := nA fun a h => g5.ow a (g6.ow a h)
      have S7 := (S6.updA (o' := .lst (xs ++ [v])) eA6 gA6 n0 (by intro i z; cases z) (by intro a b z; cases z) nA6 nc).wipe vs
      rw [ee] at S7
      refine ⟨xs, eA6, by rw [la6.length]; exact w6.1, G6, _, pn6, xs ++ [v], acc ++ [d], S7, ⟨g6'.same, g6'.new, (Gr.updA (σ := σ) (ρ := ρ1) (ρ' := ρ1) (G' := G6) ⟨g6'.same, fun a h => (g6'.new a h).imp id (.imp id ownAt_wipe), g6'.bu, g6'.live, fun _ h => h⟩ hA).bu, (Gr.updA (σ := σ) (ρ := ρ1) (ρ' := ρ1) (G' := G6) ⟨g6'.same, fun a h => (g6'.new a h).imp id (.imp id ownAt_wipe), g6'.bu, g6'.live, fun _ h => h⟩ hA).live, fun a h => g6'.ow a (ownAt_wipe (by rw [ee]; exact h))⟩, upd_same, gA6, la6.app (.cons dv .nil), w6.2⟩
  · have e : i = items.length := by omega
    subst e
    rw [List.drop_length] at w
    have S6 := S2.wipe vs
    rw [wipe_but (σ2 := L2.wipe σ vs) .refl] at S6
    have S7 := S6.unwipe wn
    have on : ∀ a, OwnAt σ (wipeD ρ2 vs) a → OwnAt (L2.wipe σ vs) (wipeD ρ1 vs) a := fun a ⟨j, sv, e, o, z⟩ => by
      obtain ⟨n1, n2⟩ := wiped_not e o
      exact g2.ow a ⟨j, sv, n2, o, by rw [wipe_get, if_neg n1]; exact z⟩
    refine .inl ⟨it.stop G2 H2 pn2 S2.ex0 g2.same lkk, k A xs acc G2 H2 _ pn2 S7 ?_ ?_ eA gA n0 (fun z => now (on A z)) nc np la w⟩
    · exact Gr.trans g1 ⟨g2.same, fun a h => (g2.new a h).imp id (.imp id ownAt_wipe), g2.bu, g2.live, fun a h => ownAt_wipe (on a h)⟩
    · cases z : H A with
      | none => rfl
      | some u => exact absurd hA (g1.live A (by rw [z]; simp))
/-- the reading of a comprehension -/
theorem lc_run {I : TDI} {own : List (Str × Nat)} {is : List Nat} {g : TDG} {TT : TDT} {TE : TDE} {σ : L2.St} {H : Hp} {Q : VK} (hv : ∀ i ∈ is, i ∈ own.map (·.2))
    (q : ∃ (lk : Lk) (G : Hp) (ρ : SL) (pn : Pn) (Qd : SV → SL → Pn → Prop) (Qx : XD), StR C lk σ ρ pn G H ∧ (I ρ pn (fun items ρ1 pn1 => lcW (own.map (·.2)) g TT TE items [] (wipeD ρ1 (own.map (·.2))) pn1 fun acc ρ2 pn2 => Qd (.ol acc) (wipeD ρ2 (own.map (·.2))) pn2) Qx) ∧
      (∀ (a : Addr) (xs : List V) (ds : List D) (G' H' : Hp) (ρ' : SL) (pn' : Pn), StR C lk σ ρ' pn' G' H' → Gr C.pp σ ρ G H ρ' G' H' → H a = none → H' a = some (.lst xs) → G' a = none → C.H0 a = none → ¬ OwnAt σ ρ' a → (C.pp.p ≠ none → a ≠ C.pp.c) → C.pp.p ≠ some a → DatL C.K C.pp G' xs ds → Qd (.ol ds) ρ' pn' → Q (.ref a) H') ∧ XL C W lk σ Qx) :
    tLc (tI C W I) (tG C is g) (tT C W0 TT) (tD C W0 TE) (own.map (·.2)) σ H Q := by
  obtain ⟨lk, G, ρ, pn, Qd, Qx, S, t, k, xl⟩ := q
  exact lc_runG (W := W) (PL := fun _ => True) (I := I) (fun lk G ρ pn Qd Qx R _ S t k xl => ⟨lk, G, ρ, pn, Qd, Qx, S, t, k, xl⟩) hv ⟨lk, G, ρ, pn, Qd, Qx, trivial, S, t, k, xl⟩
end
end Td
end
section
set_option maxRecDepth 100000
set_option maxHeartbeats 4000000
/-! The data layer: comprehensions as rules, lists and dicts that may still change. -/
namespace Td
open PySem PySem.Spec PyProof.Rows L2 Lw
section
variable {C : Cfg} {lk : Lk} {σ : L2.St} {ρ ρ' : SL} {pn pn' : Pn} {G H G' H' : Hp}
/-- a fresh object is data from now on -/
theorem StR.freezeA (S : StR C lk σ ρ pn G H) {a : Addr} {o : HO} (h : H a = some o) (g : G a = none) (n0 : C.H0 a = none) (nw : ¬ OwnAt σ ρ a) : StR C lk σ ρ pn (upd G a o) H := by
  refine S.more (Same.new g) (fun b u e => ?_) (fun b e => ?_) (fun b hb => ?_) fun i sv b e o1 z => ?_
  · by_cases hb : b = a
    · subst hb
      rw [upd_same] at e
      cases e
      exact .inl h
    · rw [upd_ne hb] at e
      exact S.sub b u e
  · by_cases hb : b = a
    · subst hb
      exact .inr n0
    · rw [upd_ne hb] at e
      exact S.new b e
  · rw [upd_ne (fun z => (S.muG b hb).2.2 (by rw [z]; exact n0))]
    exact (S.muG b hb).1
  · by_cases hb : b = a
    · subst hb
      exact absurd ⟨i, sv, e, o1, z⟩ nw
    · rw [upd_ne hb]
      exact (S.placed e o1 z).2
theorem Gr.freezeA {pp : PP} {a : Addr} {o : HO} (x : Gr pp σ ρ G H ρ' G' H') (g : G' a = none) (n : H a = none) : Gr pp σ ρ G H ρ' (upd G' a o) H' := by
  refine ⟨x.same.trans (Same.new g), fun b e => ?_, x.bu, x.live, x.ow⟩
  by_cases hb : b = a
  · subst hb
    exact .inr (.inl n)
  · rw [upd_ne hb] at e
    exact x.new b e
end
/-- an expression whose value is a fresh list, dict that may still change -/
abbrev TDO := SL → Pn → (SV → SL → Pn → Prop) → XD → Prop
def tO (C : Cfg) (W : WX) (T : TDO) : TE := fun σ H Q => ∃ (lk : Lk) (G : Hp) (ρ : SL) (pn : Pn) (Qd : SV → SL → Pn → Prop) (Qx : XD), StR C lk σ ρ pn G H ∧ T ρ pn Qd Qx ∧
  (∀ (a : Addr) (sv : SV) (G' H' : Hp) (ρ' : SL) (pn' : Pn), StR C lk σ ρ' pn' G' H' → Gr C.pp σ ρ G H ρ' G' H' → SlR C G' H' (some (some (.ref a))) sv → ¬ OwnAt σ ρ' a → Qd sv ρ' pn' → Q (.ref a) H') ∧ XL C W lk σ Qx
abbrev PDO (X : Cx) (C : Cfg) (W : WX) (e : Expr) (T : TDO) : Prop := PE X e (tO C W T)
def oLc (I : TDI) (vs : List Nat) (g : TDG) (TT : TDT) (TE : TDE) : TDO := fun ρ pn Q X => I ρ pn (fun items ρ1 pn1 => lcW vs g TT TE items [] (wipeD ρ1 vs) pn1 fun acc ρ2 pn2 => Q (.ol acc) (wipeD ρ2 vs) pn2) X
def oLst (U : TDA) : TDO := fun ρ pn Q X => U ρ pn (fun ds ρ1 pn1 => ds.length ≤ sizeLine ∧ Q (.ol ds) ρ1 pn1) X
def oDic0 : TDO := fun ρ pn Q _ => Q (.od []) ρ pn
def dSetO (i : Nat) (T : TDO) : TDS := fun E ρ pn => T ρ pn (fun sv ρ1 pn1 => E.nx (ρ1.set i sv) pn1) E.xd
section
variable {X : Cx} {C : Cfg} {W : WX} {pos : Pos}
section
variable {elt tg iter : Expr} {ifs : List Expr} {scope : Scope} {own : List (Str × Nat)} {is : List Nat} {I : TDI} {g : TDG} {TT : TDT} {TE : TDE}
theorem lc_frozen (hv : ∀ i ∈ is, i ∈ own.map (·.2)) {σ : L2.St} {H : Hp} {Q : VK} (q : tD C W (dLc I (own.map (·.2)) g TT TE) σ H Q) : tLc (tI C W I) (tG C is g) (tT C W0 TT) (tD C W0 TE) (own.map (·.2)) σ H Q := by
  obtain ⟨lk, G, ρ, pn, Qd, Qx, S, t, k, xl⟩ := q
  refine lc_run hv ⟨lk, G, ρ, pn, (fun sv ρ pn => match sv with | .ol acc => Qd (.lst acc) ρ pn | _ => False), Qx, S, t, fun a xs ds G' H' ρ' pn' S' g' ha ea ga n0 nw nc np l q => ?_, xl⟩
  exact k (.ref a) (.lst ds) (upd G' a (.lst xs)) H' ρ' pn' (S'.freezeA ea ga n0 nw) (Gr.freezeA g' ga ha) (.lst upd_same (l.keep (Same.new ga))) q
theorem lc_owned (hv : ∀ i ∈ is, i ∈ own.map (·.2)) {σ : L2.St} {H : Hp} {Q : VK} (q : tO C W (oLc I (own.map (·.2)) g TT TE) σ H Q) : tLc (tI C W I) (tG C is g) (tT C W0 TT) (tD C W0 TE) (own.map (·.2)) σ H Q := by
  obtain ⟨lk, G, ρ, pn, Qd, Qx, S, t, k, xl⟩ := q
  refine lc_run hv ⟨lk, G, ρ, pn, Qd, Qx, S, t, fun a xs ds G' H' ρ' pn' S' g' ha ea ga n0 nw nc np l q => ?_, xl⟩
  exact k a (.ol ds) G' H' ρ' pn' S' g' ⟨a, xs, rfl, ea, ga, n0, np, l⟩ nw q
theorem pd_lc (hc : X.calm = true) (hN : X.N.Nodup) (hv : ∀ i ∈ is, i ∈ own.map (·.2)) (hi : PDI X C W tg iter I) (ok : BlkOk X.N X.env.scope scope own)
    (hg : ∀ (s : Shared) (H : Hp) (Cc : Addr) (cl : List (Str × Addr)) (fp : List Addr), PDG (X.blk s H scope (compEnvC scope cl Cc X.env) fp) C is tg g) (ht : ∀ (s : Shared) (H : Hp) (Cc : Addr) (cl : List (Str × Addr)) (fp : List Addr), PDTs (X.blk s H scope (compEnvC scope cl Cc X.env) fp) C W0 ifs TT)
    (he : ∀ (s : Shared) (H : Hp) (Cc : Addr) (cl : List (Str × Addr)) (fp : List Addr), PD (X.blk s H scope (compEnvC scope cl Cc X.env) fp) C W0 elt TE) (hs : ∀ x, foldedSetIterable iter X.env x = pure x := by intro _; rfl) :
    PD X C W (.ListComp elt [⟨tg, iter, ifs, 0⟩] scope pos) (dLc I (own.map (·.2)) g TT TE) :=
  PE.imp (pe_lc hc hN hi ok hg ht he hs) fun _ _ _ q => lc_frozen hv q
theorem pds_setLcO {i : Nat} {y : Str} {py spos : Pos} (hc : X.calm = true) (hN : X.N.Nodup) (hy : X.N[i]? = some y) (hyl : X.env.scope.names.lookup y = some .local)
    (hsw : swapsWith (.ListComp elt [⟨tg, iter, ifs, 0⟩] scope pos) (some (.Name y py)) spos.line X.env = pure true) (hv : ∀ i ∈ is, i ∈ own.map (·.2)) (hi : PDI X C W tg iter I) (ok : BlkOk X.N X.env.scope scope own)
    (hg : ∀ (s : Shared) (H : Hp) (Cc : Addr) (cl : List (Str × Addr)) (fp : List Addr), PDG (X.blk s H scope (compEnvC scope cl Cc X.env) fp) C is tg g) (ht : ∀ (s : Shared) (H : Hp) (Cc : Addr) (cl : List (Str × Addr)) (fp : List Addr), PDTs (X.blk s H scope (compEnvC scope cl Cc X.env) fp) C W0 ifs TT)
    (he : ∀ (s : Shared) (H : Hp) (Cc : Addr) (cl : List (Str × Addr)) (fp : List Addr), PD (X.blk s H scope (compEnvC scope cl Cc X.env) fp) C W0 elt TE) (hs : ∀ x, foldedSetIterable iter X.env x = pure x := by intro _; rfl) :
    PDS X C W (.Assign [.Name y py] (.ListComp elt [⟨tg, iter, ifs, 0⟩] scope pos) spos) (dSetO i (oLc I (own.map (·.2)) g TT TE)) := by
  refine PS.imp (ps_setLc hc hN hy hyl hsw hi ok hg ht he hs) fun D σ H q => ?_
  obtain ⟨lk, G, ρ, pn, E, S, t, L⟩ := q
  refine lc_owned hv ⟨lk, G, ρ, pn, _, _, S, t, fun a sv G' H' ρ' pn' S' g' sl nw q => ?_, L.xd σ⟩
  exact L.nx _ _ _ _ _ (S'.setOwn i sl fun j s _ e o z => nw ⟨j, s, e, o, z⟩) g'.same q
theorem pds_setLc {i : Nat} {y : Str} {py spos : Pos} (hc : X.calm = true) (hN : X.N.Nodup) (hy : X.N[i]? = some y) (hyl : X.env.scope.names.lookup y = some .local)
    (hsw : swapsWith (.ListComp elt [⟨tg, iter, ifs, 0⟩] scope pos) (some (.Name y py)) spos.line X.env = pure true) (hv : ∀ i ∈ is, i ∈ own.map (·.2)) (hi : PDI X C W tg iter I) (ok : BlkOk X.N X.env.scope scope own)
    (hg : ∀ (s : Shared) (H : Hp) (Cc : Addr) (cl : List (Str × Addr)) (fp : List Addr), PDG (X.blk s H scope (compEnvC scope cl Cc X.env) fp) C is tg g) (ht : ∀ (s : Shared) (H : Hp) (Cc : Addr) (cl : List (Str × Addr)) (fp : List Addr), PDTs (X.blk s H scope (compEnvC scope cl Cc X.env) fp) C W0 ifs TT)
    (he : ∀ (s : Shared) (H : Hp) (Cc : Addr) (cl : List (Str × Addr)) (fp : List Addr), PD (X.blk s H scope (compEnvC scope cl Cc X.env) fp) C W0 elt TE) (hs : ∀ x, foldedSetIterable iter X.env x = pure x := by intro _; rfl) :
    PDS X C W (.Assign [.Name y py] (.ListComp elt [⟨tg, iter, ifs, 0⟩] scope pos) spos) (dSet i (dLc I (own.map (·.2)) g TT TE)) := by
  refine PS.imp (ps_setLc hc hN hy hyl hsw hi ok hg ht he hs) fun D σ H q => ?_
  obtain ⟨lk, G, ρ, pn, E, S, t, L⟩ := q
  refine lc_frozen hv ⟨lk, G, ρ, pn, _, _, S, t, fun v d G' H' ρ' pn' S' g' dv q => ?_, L.xd σ⟩
  exact L.nx _ _ _ _ _ (S'.setFz dv i) g'.same q
end
section
variable {es : List Expr} {U : TDA} {T : TDE}
/-- a written list, a written tuple: data at once -/
def dLst (U : TDA) : TDE := fun ρ pn Q X => U ρ pn (fun ds ρ1 pn1 => ds.length ≤ sizeLine ∧ Q (.lst ds) ρ1 pn1) X
def dTup (U : TDA) : TDE := fun ρ pn Q X => U ρ pn (fun ds ρ1 pn1 => ds.length ≤ sizeLine ∧ Q (.tup ds) ρ1 pn1) X
/-- a new object by data -/
theorem new_D {lk : Lk} {σ : L2.St} {ρ : SL} {pn : Pn} {G H : Hp} {Q : VK} {o : HO} {d : D} (S : StR C lk σ ρ pn G H) (dt : ∀ p G', G' p = some o → Same G G' → Dat C.K C.pp G' (.ref p) d)
    (k : ∀ v G' H', Ex C.K C.pp G H pn G' H' → Dat C.K C.pp G' v d → Q v H') {p : Addr} (n : H p = none) : Q (.ref p) (upd H p o) := by
  have x := S.exG (o := o) n
  exact k _ _ _ x (dt p _ upd_same x.same)
theorem pd_lst (h : PDA X C W es U) : PD X C W (.List es pos) (dLst U) := by
  refine PE.imp (pe_lst h) fun σ H Q q => ?_
  obtain ⟨lk, G, ρ, pn, Qd, Qx, S, t, k, xl⟩ := q
  refine ⟨lk, G, ρ, pn, _, Qx, S, t, fun vs ds G1 H1 ρ1 pn1 S1 g1 l t1 => ⟨by rw [l.length]; exact t1.1, fun p n => ?_⟩, xl⟩
  exact new_D S1 (fun p G' e s => .lst e (l.keep s)) (fun v G' H' x dv => k v _ G' H' ρ1 pn1 (S1.step x) (g1.trans (.ex x)) dv t1.2) n
theorem pd_tup {c} (h : PDA X C W es U) : PD X C W (.Tuple es c pos) (dTup U) := by
  refine PE.imp (pe_tup h) fun σ H Q q => ?_
  obtain ⟨lk, G, ρ, pn, Qd, Qx, S, t, k, xl⟩ := q
  refine ⟨lk, G, ρ, pn, _, Qx, S, t, fun vs ds G1 H1 ρ1 pn1 S1 g1 l t1 => ⟨by rw [l.length]; exact t1.1, fun p n => ?_⟩, xl⟩
  exact new_D S1 (fun p G' e s => .tup e (l.keep s)) (fun v G' H' x dv => k v _ G' H' ρ1 pn1 (S1.step x) (g1.trans (.ex x)) dv t1.2) n
theorem pd_dic0 : PD X C W (.Dict [] [] pos) (dC (.dic [])) := by
  refine PE.imp pe_dnewK fun σ H Q q => ?_
  obtain ⟨lk, G, ρ, pn, Qd, Qx, S, t, k, xl⟩ := q
  intro p n
  exact new_D S (d := .dic []) (fun p G' e s => .dic e rfl .nil) (fun v G' H' x dv => k v _ G' H' ρ pn (S.step x) (.ex x) dv t) n
/-- .. that may still change -/
theorem own_new {lk : Lk} {σ : L2.St} {ρ : SL} {pn : Pn} {G H : Hp} {o : HO} (S : StR C lk σ ρ pn G H) {p : Addr} (n : H p = none) :
    StR C lk σ ρ pn G (upd H p o) ∧ Gr C.pp σ ρ G H ρ G (upd H p o) ∧ G p = none ∧ C.H0 p = none ∧ C.pp.p ≠ some p ∧ ¬ OwnAt σ ρ p := by
  have x := S.exH (o := o) n
  refine ⟨S.step x, .ex x, ?_, ?_, fun z => ?_, fun ⟨i, sv, e, ow, z⟩ => (S.placed e ow z).1 n⟩
  · cases q : G p with
    | none => rfl
    | some u => exact absurd n (S.sub p u q).live
  · cases q : C.H0 p with
    | none => rfl
    | some u => exact absurd n (S.live p (by rw [q]; simp))
  · have P := (S.pen p z).2.2.ob
    rw [n] at P
    cases P
theorem pdo_lst (h : PDA X C W es U) : PDO X C W (.List es pos) (oLst U) := by
  refine PE.imp (pe_lst h) fun σ H Q q => ?_
  obtain ⟨lk, G, ρ, pn, Qd, Qx, S, t, k, xl⟩ := q
  refine ⟨lk, G, ρ, pn, _, Qx, S, t, fun vs ds G1 H1 ρ1 pn1 S1 g1 l t1 => ⟨by rw [l.length]; exact t1.1, fun p n => ?_⟩, xl⟩
  obtain ⟨S2, g2, gp, h0, np, nw⟩ := own_new (o := .lst vs) S1 n
  exact k p (.ol ds) G1 _ ρ1 pn1 S2 (g1.trans g2) ⟨p, vs, rfl, upd_same, gp, h0, np, l⟩ nw t1.2
theorem pdo_dic0 : PDO X C W (.Dict [] [] pos) oDic0 := by
  refine PE.imp pe_dnewK fun σ H Q q => ?_
  obtain ⟨lk, G, ρ, pn, Qd, Qx, S, t, k, xl⟩ := q
  intro p n
  obtain ⟨S2, g2, gp, h0, np, nw⟩ := own_new (o := .dK []) S n
  exact k p (.od []) G _ ρ pn S2 g2 ⟨p, [], rfl, upd_same, gp, h0, rfl, .nil⟩ nw t
theorem pds_setO {i : Nat} {x : Str} {e : Expr} {pos' : Pos} {T : TDO} (hN : X.N.Nodup) (hi : X.N[i]? = some x) (hx : Loc X.env.scope x) (h : PDO X C W e T) (hs : swapsWith e (some (.Name x pos')) pos.line X.env = pure false := by rfl)
    (hf : X.fn x = true ∨ X.env.scope.names.lookup x = some .local := by first | exact .inl rfl | exact .inr rfl | assumption) : PDS X C W (.Assign [.Name x pos'] e pos) (dSetO i T) := by
  refine PS.imp (ps_set hN hi hx h hs hf) fun D σ H q => ?_
  obtain ⟨lk, G, ρ, pn, E, S, t, L⟩ := q
  exact ⟨lk, G, ρ, pn, _, _, S, t, fun a sv G' H' ρ' pn' S' g' sl nw q => L.nx _ _ _ _ _ (S'.setOwn i sl fun j s _ e o z => nw ⟨j, s, e, o, z⟩) g'.same q, L.xd σ⟩
end
end
end Td
end
section
set_option maxRecDepth 100000
set_option maxHeartbeats 4000000
/-! The data layer: what Python brings, by data. -/
namespace Td
open PySem PySem.Spec PyProof.Rows L2 Lw
section
variable {K : PySem.W.Frag}
theorem ex0_lst {pp : PP} {pn : Pn} {G H : Hp} (x : Ex0 K pp pn G H) {a : Addr} {xs : List V} (h : G a = some (.lst xs)) : H a = some (.lst xs) := (x.sub _ _ h).ex (by intro _ z; cases z)
theorem ex0_tup {pp : PP} {pn : Pn} {G H : Hp} (x : Ex0 K pp pn G H) {a : Addr} {xs : List V} (h : G a = some (.tup xs)) : H a = some (.tup xs) := (x.sub _ _ h).ex (by intro _ z; cases z)
theorem ex0_ins {pp : PP} {pn : Pn} {G H : Hp} (x : Ex0 K pp pn G H) {a C dx : Addr} {fs : List (Str × V)} (h : G a = some (.ins C dx fs)) : H a = some (.ins C dx fs) := (x.sub _ _ h).ex (by intro _ z; cases z)
theorem ex0_dic {pp : PP} {pn : Pn} {G H : Hp} (x : Ex0 K pp pn G H) {a : Addr} {kvs : List (Key × V)} (h : G a = some (.dK kvs)) : Rd H a (.dK kvs) := (x.sub _ _ h).rd
/-- a new object out of a step by values -/
theorem ex0_new {pp : PP} {pn : Pn} {G H : Hp} {Q : VK} {o : HO} {d : D} (x : Ex0 K pp pn G H) (dt : ∀ p G', G' p = some o → Same G G' → Dat K pp G' (.ref p) d) (k : ∀ v G' H', Ex K pp G H pn G' H' → Dat K pp G' v d → Q v H') {p : Addr} (n : H p = none) : Q (.ref p) (upd H p o) := by
  have y := StR.exG (C := exC K pp G H) x (o := o) n
  exact k _ _ _ y (dt p _ upd_same y.same)
/-! ### whole numbers -/
def iOp (Cc : Int → Int → Prop) (g : Int → Int → D) : D → D → (D → Prop) → Prop := fun d e Q => match d, e with
  | .int i, .int j => Cc i j ∧ Q (g i j)
  | _, _ => False
theorem r2_int {Cc : Int → Int → Prop} {g : Int → Int → V} {g' : Int → Int → D} (h : ∀ i j pp G, Dat K pp G (g i j) (g' i j)) : R2D K (rI Cc g) (iOp Cc g') := by
  intro pp pn G H x y d e Qd Q ex dx dy t k
  cases dx <;> first | exact t.elim | skip
  cases dy <;> first | exact t.elim | skip
  rename_i i j
  exact ⟨i, j, rfl, rfl, t.1, k _ _ G H ex (h i j pp G) t.2⟩
def iOp0 (g : Int → Int → D) : D → D → (D → Prop) → Prop := fun d e Q => match d, e with
  | .int i, .int j => Q (g i j)
  | _, _ => False
theorem r2_int0 {g : Int → Int → V} {g' : Int → Int → D} (h : ∀ i j pp G, Dat K pp G (g i j) (g' i j)) : R2D K (rI0 g) (iOp0 g') := by
  intro pp pn G H x y d e Qd Q ex dx dy t k
  cases dx <;> first | exact t.elim | skip
  cases dy <;> first | exact t.elim | skip
  rename_i i j
  exact ⟨i, j, rfl, rfl, k _ _ G H ex (h i j pp G) t⟩
abbrev dSub := iOp0 fun i j => .int (i - j)
abbrev dMulI := iOp CMulW fun i j => .int (i * j)
abbrev dFdiv := iOp CDivW fun i j => .int (i / j)
abbrev dMod := iOp (fun _ j => 0 < j) fun i j => .int (i % j)
abbrev dPow := iOp CPow fun i j => .int (i ^ j.toNat)
theorem r_sub : R2D K (rI0 fun i j => .int (i - j)) dSub := r2_int0 fun i j _ _ => .int _
theorem r_mul : R2D K (rI CMulW fun i j => .int (i * j)) dMulI := r2_int fun i j _ _ => .int _
theorem r_fdiv : R2D K (rI CDivW fun i j => .int (i / j)) dFdiv := r2_int fun i j _ _ => .int _
theorem r_mod : R2D K (rI (fun _ j => 0 < j) fun i j => .int (i % j)) dMod := r2_int fun i j _ _ => .int _
theorem r_pow : R2D K (rI CPow fun i j => .int (i ^ j.toNat)) dPow := r2_int fun i j _ _ => .int _
/-! ### + -/
def dAdd : D → D → (D → Prop) → Prop := fun d e Q => match d, e with
  | .int i, .int j => Q (.int (i + j))
  | .str a, .str b => a.length + b.length ≤ sizeLine ∧ Q (.str (a ++ b))
  | .lst a, .lst b => a.length + b.length ≤ sizeLine ∧ Q (.lst (a ++ b))
  | .tup a, .tup b => a ≠ [] ∧ a.length + b.length ≤ sizeLine ∧ Q (.tup (a ++ b))
  | _, _ => False
def rAddAll (K : PySem.W.Frag) : R2 := fun x y H Q => (rI0 (fun i j => .int (i + j)) x y H Q) ∨ (∃ i j, x = .str i ∧ y = .str j ∧ i.length + j.length ≤ sizeLine ∧ Q (.str (i ++ j)) H) ∨ rCat x y H Q ∨ rCatT K x y H Q
theorem op_addAll {X : Cx} : OpR X (binaryOp .Add) (rAddAll X.K) := OpR.or op_add (OpR.or op_add_str (OpR.or op_cat op_catT))
theorem r_add : R2D K (rAddAll K) dAdd := by
  intro pp pn G H x y d e Qd Q ex dx dy t k
  cases dx <;> first | exact t.elim | (cases dy <;> first | exact t.elim | skip)
  · exact .inl ⟨_, _, rfl, rfl, k _ _ G H ex (.int _) t⟩
  · exact .inr (.inl ⟨_, _, rfl, rfl, t.1, k _ _ G H ex (.str _) t.2⟩)
  · rename_i a xs ds ha la b ys es hb lb
    refine .inr (.inr (.inr ⟨a, b, xs, ys, rfl, rfl, SqT.of (ex0_tup ex ha), SqT.of (ex0_tup ex hb), ?_, by rw [la.length, lb.length]; exact t.2.1, fun z => ?_, fun _ p n => ?_⟩))
    · intro z
      subst z
      cases la
      exact t.1 rfl
    · subst z
      cases lb
      have t2 := t.2.2
      rw [List.append_nil] at t2
      exact k _ _ G H ex (.tup ha la) t2
    · exact ex0_new ex (fun p G' e s => .tup e ((la.app lb).keep s)) (fun v G' H' x dv => k v _ G' H' x dv t.2.2) n
  · rename_i a xs ds ha la b ys es hb lb
    refine .inr (.inr (.inl ⟨a, b, xs, ys, rfl, rfl, ex0_lst ex ha, ex0_lst ex hb, by rw [la.length, lb.length]; exact t.1, fun p n => ?_⟩))
    exact ex0_new ex (fun p G' e s => .lst e ((la.app lb).keep s)) (fun v G' H' x dv => k v _ G' H' x dv t.2) n
/-! ### comparisons -/
def cmpD (p : Int → Int → Bool) (q : Str → Str → Bool) : D → D → (D → Prop) → Prop := fun d e Q => match d, e with
  | .int i, .int j => Q (.bl (p i j))
  | .str a, .str b => Q (.bl (q a b))
  | _, _ => False
def rCmpA (p : Int → Int → Bool) (q : Str → Str → Bool) : R2 := fun x y H Q => (rI0 (fun i j => .bl (p i j)) x y H Q) ∨ ∃ i j, x = .str i ∧ y = .str j ∧ Q (.bl (q i j)) H
theorem r_cmp {p : Int → Int → Bool} {q : Str → Str → Bool} : R2D K (rCmpA p q) (cmpD p q) := by
  intro pp pn G H x y d e Qd Q ex dx dy t k
  cases dx <;> first | exact t.elim | (cases dy <;> first | exact t.elim | skip)
  · exact .inl ⟨_, _, rfl, rfl, k _ _ G H ex (.bl _) t⟩
  · exact .inr ⟨_, _, rfl, rfl, k _ _ G H ex (.bl _) t⟩
def ltS (a b : Str) : Bool := decide (a.cps.toList < b.cps.toList)
abbrev dLt := cmpD (fun i j => decide (i < j)) ltS
abbrev dLe := cmpD (fun i j => decide (i ≤ j)) fun a b => !ltS b a
abbrev dGt := cmpD (fun i j => decide (j < i)) fun a b => ltS b a
abbrev dGe := cmpD (fun i j => decide (j ≤ i)) fun a b => !ltS a b
theorem op_ltA {X : Cx} : OpR X (compareOp .Lt) (rCmpA (fun i j => decide (i < j)) ltS) := OpR.or op_lt op_lt_str
theorem op_leA {X : Cx} : OpR X (compareOp .LtE) (rCmpA (fun i j => decide (i ≤ j)) fun a b => !ltS b a) := OpR.or op_le op_le_str
theorem op_gtA {X : Cx} : OpR X (compareOp .Gt) (rCmpA (fun i j => decide (j < i)) fun a b => ltS b a) := OpR.or op_gt op_gt_str
theorem op_geA {X : Cx} : OpR X (compareOp .GtE) (rCmpA (fun i j => decide (j ≤ i)) fun a b => !ltS a b) := OpR.or op_ge op_ge_str
/-- is None, is not None -/
def dIsN (neg : Bool) : D → D → (D → Prop) → Prop := fun d e Q => match e with
  | .non => Q (.bl (match d with | .non => !neg | _ => neg))
  | _ => False
theorem r_isN : R2D K (fun x y H Q => y = .non ∧ Q (.bl (decide (x = .non))) H) (dIsN false) := by
  intro pp pn G H x y d e Qd Q ex dx dy t k
  cases dy <;> first | exact t.elim | skip
  refine ⟨rfl, ?_⟩
  cases dx <;> exact k _ _ G H ex (.bl _) t
theorem r_notN : R2D K (fun x y H Q => y = .non ∧ Q (.bl (!decide (x = .non))) H) (dIsN true) := by
  intro pp pn G H x y d e Qd Q ex dx dy t k
  cases dy <;> first | exact t.elim | skip
  refine ⟨rfl, ?_⟩
  cases dx <;> exact k _ _ G H ex (.bl _) t
/-! ### == of data -/
mutual
def D.py : D → Option PyData
  | .non => some .none
  | .bl b => some (.bool b)
  | .int i => some (.int i)
  | .str x => some (.str x)
  | .lst ds => (D.pyL ds).map .list
  | .tup ds => (D.pyL ds).map .tuple
  | _ => none
def D.pyL : List D → Option (List PyData)
  | [] => some []
  | d :: ds => match D.py d, D.pyL ds with
    | some a, some r => some (a :: r)
    | _, _ => none
end
mutual
theorem dp_of {pp : PP} {G H : Hp} (h : ∀ a o, G a = some o → Su H a o) : ∀ {v : V} {d : D} {p : PyData}, Dat K pp G v d → d.py = some p → Dp K H v p
  | _, _, _, .non, e => by cases e; exact .non
  | _, _, _, .bl b, e => by cases e; exact .bl b
  | _, _, _, .int i, e => by cases e; exact .int i
  | _, _, _, .str x, e => by cases e; exact .str x
  | _, _, _, .ty n, e => by cases e
  | _, _, _, .fn _, e => by cases e
  | _, _, _, .pen _, e => by cases e
  | _, .tup ds, _, .tup (xs := xs) ha l, e => by
    rw [D.py] at e
    cases q : D.pyL ds with
    | none => rw [q] at e; cases e
    | some ps =>
      rw [q] at e
      cases e
      exact .tup (SqT.of ((h _ _ ha).ex (by intro _ z; cases z))) (dp_ofL h l q)
  | _, .lst ds, _, .lst (xs := xs) ha l, e => by
    rw [D.py] at e
    cases q : D.pyL ds with
    | none => rw [q] at e; cases e
    | some ps =>
      rw [q] at e
      cases e
      exact .lst (SqL.of ((h _ _ ha).ex (by intro _ z; cases z))) (dp_ofL h l q)
  | _, _, _, .dic _ _ _, e => by cases e
  | _, _, _, .obj _ _ _ _, e => by cases e
  | _, _, _, .exc _ _ _ _, e => by cases e
theorem dp_ofL {pp : PP} {G H : Hp} (h : ∀ a o, G a = some o → Su H a o) : ∀ {vs : List V} {ds : List D} {ps : List PyData}, DatL K pp G vs ds → D.pyL ds = some ps → DpAll K H vs ps
  | _, _, _, .nil, e => by cases e; exact .nil
  | _, d :: ds, _, .cons dv l, e => by
    rw [D.pyL] at e
    cases q1 : d.py with
    | none => rw [q1] at e; cases e
    | some a =>
      cases q2 : D.pyL ds with
      | none => rw [q1, q2] at e; cases e
      | some r =>
        rw [q1, q2] at e
        cases e
        exact .cons (dp_of h dv q1) (dp_ofL h l q2)
end
/-- what == says of two data, where both are plain -/
def eqD? (d e : D) : Option Bool := match d.py, e.py with
  | some p, some q => if SeqAt.shaped p = true ∧ SeqAt.shaped q = true then some (PyData.eqv p q) else none
  | _, _ => none
def dEq (neg : Bool) : D → D → (D → Prop) → Prop := fun d e Q => match eqD? d e with
  | some b => Q (.bl (b != neg))
  | none => False
theorem eqD_split {d e : D} {b : Bool} (h : eqD? d e = some b) : ∃ p q, d.py = some p ∧ e.py = some q ∧ SeqAt.shaped p = true ∧ SeqAt.shaped q = true ∧ b = PyData.eqv p q := by
  unfold eqD? at h
  split at h
  · rename_i p q e1 e2
    split at h
    · rename_i c
      cases h
      exact ⟨p, q, e1, e2, c.1, c.2, rfl⟩
    · cases h
  · cases h
theorem r_eq : R2D K (rEqD K) (dEq false) := by
  intro pp pn G H x y d e Qd Q ex dx dy t k
  unfold dEq at t
  cases z : eqD? d e with
  | none => rw [z] at t; exact t.elim
  | some b =>
    rw [z] at t
    obtain ⟨p, q, e1, e2, s1, s2, rfl⟩ := eqD_split z
    have t' : Qd (.bl (PyData.eqv p q)) := by simpa using t
    exact ⟨p, q, dp_of ex.sub dx e1, dp_of ex.sub dy e2, s1, s2, k _ _ G H ex (.bl _) t'⟩
theorem r_ne : R2D K (rNeD K) (dEq true) := by
  intro pp pn G H x y d e Qd Q ex dx dy t k
  unfold dEq at t
  cases z : eqD? d e with
  | none => rw [z] at t; exact t.elim
  | some b =>
    rw [z] at t
    obtain ⟨p, q, e1, e2, s1, s2, rfl⟩ := eqD_split z
    have t' : Qd (.bl (!PyData.eqv p q)) := by simpa using t
    exact ⟨p, q, dp_of ex.sub dx e1, dp_of ex.sub dy e2, s1, s2, k _ _ G H ex (.bl _) t'⟩
/-! ### in, not in -/
def D.flat : D → Option V
  | .non => some .non
  | .bl b => some (.bl b)
  | .int i => some (.int i)
  | .str x => some (.str x)
  | _ => none
def flats : List D → Option (List V)
  | [] => some []
  | d :: ds => match d.flat, flats ds with
    | some a, some r => some (a :: r)
    | _, _ => none
theorem flat_of {pp : PP} {G : Hp} {v u : V} {d : D} (h : Dat K pp G v d) (e : d.flat = some u) : v = u ∧ flatV v = true := by
  cases h <;> first | (cases e; done) | (cases e; exact ⟨rfl, rfl⟩)
theorem flats_of {pp : PP} {G : Hp} : ∀ {vs us : List V} {ds : List D}, DatL K pp G vs ds → flats ds = some us → vs = us ∧ vs.all flatV = true
  | _, _, _, .nil, e => by cases e; exact ⟨rfl, rfl⟩
  | _, us, d :: ds, .cons dv l, e => by
    rw [flats] at e
    cases q1 : d.flat with
    | none => rw [q1] at e; cases e
    | some a =>
      cases q2 : flats ds with
      | none => rw [q1, q2] at e; cases e
      | some r =>
        rw [q1, q2] at e
        cases e
        obtain ⟨h1, h2⟩ := flat_of dv q1
        obtain ⟨h3, h4⟩ := flats_of l q2
        refine ⟨by rw [h1, h3], ?_⟩
        rw [List.all_cons, h2, h4]
        rfl
def D.seq : D → Option (List D)
  | .lst ds => some ds
  | .tup ds => some ds
  | _ => none
def inD? (d e : D) : Option Bool := match d.flat, e.seq.bind flats with
  | some v, some vs => some (inV v vs)
  | _, _ => none
def dIn (neg : Bool) : D → D → (D → Prop) → Prop := fun d e Q => match inD? d e with
  | some b => Q (.bl (if neg then !b else b))
  | none => False
theorem r_in {neg : Bool} : R2D K (rIn K neg) (dIn neg) := by
  intro pp pn G H x y d e Qd Q ex dx dy t k
  unfold dIn inD? at t
  cases z1 : d.flat with
  | none => rw [z1] at t; exact t.elim
  | some v =>
    obtain ⟨rfl, h2⟩ := flat_of dx z1
    cases dy <;> first | (rw [z1] at t; exact t.elim) | skip
    all_goals
      rename_i a xs ds ha l
      cases z2 : flats ds with
      | none =>
        simp only [z1, D.seq, Option.bind_some, z2] at t
      | some us =>
        simp only [z1, D.seq, Option.bind_some, z2] at t
        obtain ⟨rfl, h4⟩ := flats_of l z2
        first
          | exact ⟨a, _, rfl, .inl (SqL.of (ex0_lst ex ha)), h2, h4, k _ _ G H ex (.bl _) t⟩
          | exact ⟨a, _, rfl, .inr (SqT.of (ex0_tup ex ha)), h2, h4, k _ _ G H ex (.bl _) t⟩
/-- one sign, a text in a text -/
def dInS (neg : Bool) : D → D → (D → Prop) → Prop := fun d e Q => match d, e with
  | .str a, .str z => match a.cps.toList with
    | [c] => Q (.bl (if neg then !decide (c ∈ z.cps.toList) else decide (c ∈ z.cps.toList)))
    | _ => False
  | _, _ => False
theorem sign_of {a : Str} {c : Nat} (h : a.cps.toList = [c]) : a = ⟨#[c]⟩ := by
  obtain ⟨cps⟩ := a
  congr 1
  exact Array.toList_inj.mp h
theorem r_inS : R2D K (fun x y H Q => ∃ (c : Nat) (z : Str), x = .str ⟨#[c]⟩ ∧ y = .str z ∧ Q (.bl (decide (c ∈ z.cps.toList))) H) (dInS false) := by
  intro pp pn G H x y d e Qd Q ex dx dy t k
  cases dx <;> first | exact t.elim | skip
  cases dy <;> first | exact t.elim | skip
  rename_i a z
  cases q : a.cps.toList with
  | nil => simp only [dInS, q] at t
  | cons c r =>
    cases r with
    | cons _ _ => simp only [dInS, q] at t
    | nil =>
      simp only [dInS, q] at t
      exact ⟨c, z, by rw [sign_of q], rfl, k _ _ G H ex (.bl _) t⟩
theorem r_notInS : R2D K (fun x y H Q => ∃ (c : Nat) (z : Str), x = .str ⟨#[c]⟩ ∧ y = .str z ∧ Q (.bl (!decide (c ∈ z.cps.toList))) H) (dInS true) := by
  intro pp pn G H x y d e Qd Q ex dx dy t k
  cases dx <;> first | exact t.elim | skip
  cases dy <;> first | exact t.elim | skip
  rename_i a z
  cases q : a.cps.toList with
  | nil => simp only [dInS, q] at t
  | cons c r =>
    cases r with
    | cons _ _ => simp only [dInS, q] at t
    | nil =>
      simp only [dInS, q] at t
      exact ⟨c, z, by rw [sign_of q], rfl, k _ _ G H ex (.bl _) t⟩
/-! ### built-ins -/
theorem DatL.one {pp : PP} {G : Hp} {vs : List V} {d : D} (l : DatL K pp G vs [d]) : ∃ v, vs = [v] ∧ Dat K pp G v d := by
  cases l with
  | cons h t => cases t; exact ⟨_, rfl, h⟩
theorem DatL.two {pp : PP} {G : Hp} {vs : List V} {d e : D} (l : DatL K pp G vs [d, e]) : ∃ v u, vs = [v, u] ∧ Dat K pp G v d ∧ Dat K pp G u e := by
  cases l with
  | cons h t =>
    obtain ⟨u, rfl, g⟩ := DatL.one t
    exact ⟨_, u, rfl, h, g⟩
/-- f of one datum -/
def L1 (f : D → (D → Prop) → Prop) : List D → (D → Prop) → Prop := fun ds Q => match ds with
  | [d] => f d Q
  | _ => False
def L2' (f : D → D → (D → Prop) → Prop) : List D → (D → Prop) → Prop := fun ds Q => match ds with
  | [d, e] => f d e Q
  | _ => False
theorem rl1 {r : List V → Hp → VK → Prop} {f : D → (D → Prop) → Prop} (h : R1D K (fun x H Q => r [x] H Q) f) : RLD K r (L1 f) := by
  intro pp pn G H xs ds Qd Q ex l t k
  match ds, l, t with
  | [d], l, t =>
    obtain ⟨v, rfl, dv⟩ := l.one
    exact h pp pn G H v d Qd Q ex dv t k
theorem rl2 {r : List V → Hp → VK → Prop} {f : D → D → (D → Prop) → Prop} (h : R2D K (fun x y H Q => r [x, y] H Q) f) : RLD K r (L2' f) := by
  intro pp pn G H xs ds Qd Q ex l t k
  match ds, l, t with
  | [d, e], l, t =>
    obtain ⟨v, u, rfl, dv, du⟩ := l.two
    exact h pp pn G H v u d e Qd Q ex dv du t k
/-- len -/
def dLen : D → (D → Prop) → Prop := fun d Q => match d with
  | .str x => x.length ≤ sizeLine ∧ Q (.int x.length)
  | .lst ds => Q (.int ds.length)
  | .tup ds => Q (.int ds.length)
  | _ => False
theorem r_len : RLD K (fun xs H Q => ∃ x n, xs = [x] ∧ LenV K x H n ∧ Q (.int n) H) (L1 dLen) := rl1 (by
  intro pp pn G H x d Qd Q ex dx t k
  cases dx <;> first | exact t.elim | skip
  · exact ⟨_, _, rfl, ⟨t.1, rfl⟩, k _ _ G H ex (.int _) t.2⟩
  · rename_i a xs ds ha l
    refine ⟨_, _, rfl, .inr ⟨xs, SqT.of (ex0_tup ex ha), rfl⟩, ?_⟩
    rw [l.length]
    exact k _ _ G H ex (.int _) t
  · rename_i a xs ds ha l
    refine ⟨_, _, rfl, .inl ⟨xs, SqL.of (ex0_lst ex ha), rfl⟩, ?_⟩
    rw [l.length]
    exact k _ _ G H ex (.int _) t)
def intsD : List D → Option (List Int)
  | [] => some []
  | .int i :: ds => (intsD ds).map (i :: ·)
  | _ => none
def strsD : List D → Option (List Str)
  | [] => some []
  | .str i :: ds => (strsD ds).map (i :: ·)
  | _ => none
def boolsD : List D → Option (List Bool)
  | [] => some []
  | .bl i :: ds => (boolsD ds).map (i :: ·)
  | _ => none
theorem intsD_eq : ∀ {ds : List D} {ns : List Int}, intsD ds = some ns → ds = ns.map D.int
  | [], _, h => by cases h; rfl
  | d :: ds, ns, h => by
    cases d <;> first | (simp [intsD] at h; done) | skip
    rename_i i
    cases q : intsD ds with
    | none => simp [intsD, q] at h
    | some ms =>
      simp [intsD, q] at h
      subst h
      rw [intsD_eq q]
      rfl
theorem strsD_eq : ∀ {ds : List D} {ns : List Str}, strsD ds = some ns → ds = ns.map D.str
  | [], _, h => by cases h; rfl
  | d :: ds, ns, h => by
    cases d <;> first | (simp [strsD] at h; done) | skip
    rename_i i
    cases q : strsD ds with
    | none => simp [strsD, q] at h
    | some ms =>
      simp [strsD, q] at h
      subst h
      rw [strsD_eq q]
      rfl
theorem boolsD_eq : ∀ {ds : List D} {ns : List Bool}, boolsD ds = some ns → ds = ns.map D.bl
  | [], _, h => by cases h; rfl
  | d :: ds, ns, h => by
    cases d <;> first | (simp [boolsD] at h; done) | skip
    rename_i i
    cases q : boolsD ds with
    | none => simp [boolsD, q] at h
    | some ms =>
      simp [boolsD, q] at h
      subst h
      rw [boolsD_eq q]
      rfl
/-- all, any of a list of truths; sum of whole numbers -/
def dAll : D → (D → Prop) → Prop := fun d Q => match d.lst?.bind boolsD with
  | some bs => Q (.bl (bs.all id))
  | none => False
def dAny : D → (D → Prop) → Prop := fun d Q => match d.lst?.bind boolsD with
  | some bs => Q (.bl (bs.any id))
  | none => False
def dSum : D → (D → Prop) → Prop := fun d Q => match d.lst?.bind intsD with
  | some ns => Q (.int ns.sum)
  | none => False
theorem lst?_eq {d : D} {ds : List D} (h : d.lst? = some ds) : d = .lst ds := by
  cases d <;> first | (cases h; done) | (cases h; rfl)
theorem bind_lst {α : Type} {d : D} {f : List D → Option α} {x : α} (h : d.lst?.bind f = some x) : ∃ ds, d = .lst ds ∧ f ds = some x := by
  obtain ⟨ds, e1, e2⟩ := Option.bind_eq_some_iff.mp h
  exact ⟨ds, lst?_eq e1, e2⟩
theorem r_all : RLD K (fun xs H Q => rAll K xs H Q) (L1 dAll) := rl1 (by
  intro pp pn G H x d Qd Q ex dx t k
  unfold dAll at t
  cases z : d.lst?.bind boolsD with
  | none => rw [z] at t; exact t.elim
  | some bs =>
    rw [z] at t
    obtain ⟨ds, rfl, e⟩ := bind_lst z
    cases dx with
    | lst ha l =>
      rw [boolsD_eq e] at l
      rw [l.ofBl] at ha
      exact ⟨_, bs, rfl, SqL.of (ex0_lst ex ha), k _ _ G H ex (.bl _) t⟩)
theorem r_any : RLD K (fun xs H Q => rAny K xs H Q) (L1 dAny) := rl1 (by
  intro pp pn G H x d Qd Q ex dx t k
  unfold dAny at t
  cases z : d.lst?.bind boolsD with
  | none => rw [z] at t; exact t.elim
  | some bs =>
    rw [z] at t
    obtain ⟨ds, rfl, e⟩ := bind_lst z
    cases dx with
    | lst ha l =>
      rw [boolsD_eq e] at l
      rw [l.ofBl] at ha
      exact ⟨_, bs, rfl, SqL.of (ex0_lst ex ha), k _ _ G H ex (.bl _) t⟩)
theorem r_sum : RLD K (fun xs H Q => rSum K xs H Q) (L1 dSum) := rl1 (by
  intro pp pn G H x d Qd Q ex dx t k
  unfold dSum at t
  cases z : d.lst?.bind intsD with
  | none => rw [z] at t; exact t.elim
  | some bs =>
    rw [z] at t
    obtain ⟨ds, rfl, e⟩ := bind_lst z
    cases dx with
    | lst ha l =>
      rw [intsD_eq e] at l
      rw [l.ofInt] at ha
      exact ⟨_, bs, rfl, SqL.of (ex0_lst ex ha), k _ _ G H ex (.int _) t⟩)
/-- sorted of fewer than 64 texts -/
def dSortS : D → (D → Prop) → Prop := fun d Q => match d.lst?.bind strsD with
  | some xs => xs.length < 64 ∧ ∀ ys : List Str, ys.Perm xs → sortedS ys → Q (.lst (ys.map D.str))
  | none => False
/-- min, max of two whole numbers; abs; int; str -/
def dMax2 : D → D → (D → Prop) → Prop := iOp0 fun i j => .int (if j > i then j else i)
def dMin2 : D → D → (D → Prop) → Prop := iOp0 fun i j => .int (if j < i then j else i)
theorem r_max2 : RLD K (fun xs H Q => ∃ i j, xs = [.int i, .int j] ∧ Q (.int (if j > i then j else i)) H) (L2' dMax2) := rl2 (by
  intro pp pn G H x y d e Qd Q ex dx dy t k
  cases dx <;> first | exact t.elim | skip
  cases dy <;> first | exact t.elim | skip
  exact ⟨_, _, rfl, k _ _ G H ex (.int _) t⟩)
theorem r_min2 : RLD K (fun xs H Q => ∃ i j, xs = [.int i, .int j] ∧ Q (.int (if j < i then j else i)) H) (L2' dMin2) := rl2 (by
  intro pp pn G H x y d e Qd Q ex dx dy t k
  cases dx <;> first | exact t.elim | skip
  cases dy <;> first | exact t.elim | skip
  exact ⟨_, _, rfl, k _ _ G H ex (.int _) t⟩)
def dAbs : D → (D → Prop) → Prop := fun d Q => match d with
  | .int i => Q (.int (if i < 0 then -i else i))
  | _ => False
theorem r_abs : RLD K (fun xs H Q => ∃ i, xs = [.int i] ∧ Q (.int (if i < 0 then -i else i)) H) (L1 dAbs) := rl1 (by
  intro pp pn G H x d Qd Q ex dx t k
  cases dx <;> first | exact t.elim | skip
  exact ⟨_, rfl, k _ _ G H ex (.int _) t⟩)
def dStr1 : D → (D → Prop) → Prop := fun d Q => match d with
  | .int i => i.natAbs.log2 < 1920 ∧ Q (.str (toString i))
  | _ => False
theorem r_str1 : RLD K (fun xs H Q => ∃ i, xs = [.int i] ∧ i.natAbs.log2 < 1920 ∧ Q (.str (toString i)) H) (L1 dStr1) := rl1 (by
  intro pp pn G H x d Qd Q ex dx t k
  cases dx <;> first | exact t.elim | skip
  exact ⟨_, rfl, t.1, k _ _ G H ex (.str _) t.2⟩)
/-- list, tuple of a list or a tuple -/
def dList : D → (D → Prop) → Prop := fun d Q => match d.seq with
  | some ds => Q (.lst ds)
  | none => False
def dTuple : D → (D → Prop) → Prop := fun d Q => match d.seq with
  | some ds => Q (.tup ds)
  | none => False
theorem r_list : RLD K (fun xs H Q => ∃ p ys, xs = [.ref p] ∧ (SqL K H p ys ∨ SqT K H p ys) ∧ ∀ l, H l = none → Q (.ref l) (upd H l (.lst ys))) (L1 dList) := rl1 (by
  intro pp pn G H x d Qd Q ex dx t k
  cases dx <;> first | exact t.elim | skip
  · rename_i a xs ds ha l
    exact ⟨a, xs, rfl, .inr (SqT.of (ex0_tup ex ha)), fun p n => ex0_new ex (fun p G' e s => .lst e (l.keep s)) (fun v G' H' x dv => k v _ G' H' x dv t) n⟩
  · rename_i a xs ds ha l
    exact ⟨a, xs, rfl, .inl (SqL.of (ex0_lst ex ha)), fun p n => ex0_new ex (fun p G' e s => .lst e (l.keep s)) (fun v G' H' x dv => k v _ G' H' x dv t) n⟩)
theorem r_tuple : RLD K (fun xs H Q => ∃ p ys, xs = [.ref p] ∧ ((SqL K H p ys ∧ ∀ l, H l = none → Q (.ref l) (upd H l (.tup ys))) ∨ (SqT K H p ys ∧ Q (.ref p) H))) (L1 dTuple) := rl1 (by
  intro pp pn G H x d Qd Q ex dx t k
  cases dx <;> first | exact t.elim | skip
  · rename_i a xs ds ha l
    exact ⟨a, xs, rfl, .inr ⟨SqT.of (ex0_tup ex ha), k _ _ G H ex (.tup ha l) t⟩⟩
  · rename_i a xs ds ha l
    exact ⟨a, xs, rfl, .inl ⟨SqL.of (ex0_lst ex ha), fun p n => ex0_new ex (fun p G' e s => .tup e (l.keep s)) (fun v G' H' x dv => k v _ G' H' x dv t) n⟩⟩)
def dDivmod : D → D → (D → Prop) → Prop := iOp CDiv fun i j => .tup [.int (i / j), .int (i % j)]
theorem r_divmod : RLD K (fun xs H Q => ∃ i j, xs = [.int i, .int j] ∧ CDiv i j ∧ ∀ p, H p = none → Q (.ref p) (upd H p (.tup [.int (i / j), .int (i % j)]))) (L2' dDivmod) := rl2 (by
  intro pp pn G H x y d e Qd Q ex dx dy t k
  cases dx <;> first | exact t.elim | skip
  cases dy <;> first | exact t.elim | skip
  exact ⟨_, _, rfl, t.1, fun p n => ex0_new ex (fun p G' e s => .tup e (.cons (.int _) (.cons (.int _) .nil))) (fun v G' H' x dv => k v _ G' H' x dv t.2) n⟩)
/-! ### isinstance -/
def D.tyv : D → Option Value
  | .non => some (.type "NoneType")
  | .bl _ => some (.type "bool")
  | .int _ => some (.type "int")
  | .str _ => some (.type "str")
  | .tup _ => some (.type "tuple")
  | .lst _ => some (.type "list")
  | .dic _ => some (.type "dict")
  | .obj C _ => some (.ref C)
  | _ => none
def D.clv : D → Option Value
  | .ty n => some (.type n)
  | .fn a => some (.ref a)
  | _ => none
/-- what isinstance asks of an own class -/
structure ClsI (K : PySem.W.Frag) (C : Addr) : Prop where
  cl : Cls K C
  ha : PySem.W.findIn K (.ref C) "__class__" = some (some (.builtin "object.__class__"))
  hn : PySem.W.specialIn K (.builtin "object.__class__") "__get__" = some (some (.builtin "getset_descriptor.__get__"))
  htk : PySem.W.takesIn K (.builtin "object.__class__") = some true
  hm : PySem.W.mroIn K C (.type "object") = some true
def D.clsOk (K : PySem.W.Frag) : D → Prop
  | .obj C _ => ClsI K C
  | _ => True
def dIsi (K : PySem.W.Frag) : D → D → (D → Prop) → Prop := fun d c Q => d.clsOk K ∧ ∃ t u b, d.tyv = some t ∧ c.clv = some u ∧ PySem.W.kitOne K t u = some b ∧ Q (.bl b)
theorem clsV_of {pp : PP} {G : Hp} {v : V} {c : D} {u : Value} (h : Dat K pp G v c) (e : c.clv = some u) : ClsV v u := by
  cases h <;> first | (cases e; done) | (cases e; first | exact .ty _ | exact .own _)
theorem tyX_of {pp : PP} {pn : Pn} {G H : Hp} {v : V} {d : D} {t : Value} (ex : Ex0 K pp pn G H) (h : Dat K pp G v d) (e : d.tyv = some t) (ok : d.clsOk K) : TyX K H v t := by
  cases h <;> first | (cases e; done) | skip
  all_goals cases e
  · exact .base .non
  · exact .base (.bl _)
  · exact .base (.int _)
  · exact .base (.str _)
  · rename_i a xs ds ha l
    exact .base (.tup (ex0_tup ex ha))
  · rename_i a xs ds ha l
    exact .base (.lst (ex0_lst ex ha))
  · rename_i a xs ds ha _ l
    rcases ex0_dic ex ha with q | ⟨o, q⟩
    · exact .base (.dK q)
    · exact .fDict q
  · rename_i a C dx fs ds ha _ _ l
    exact .base (.ins (ex0_ins ex ha) ok.cl ok.ha ok.hn ok.htk ok.hm)
theorem r_isi : RLD K (rIsi K) (L2' (dIsi K)) := rl2 (by
  intro pp pn G H x y d e Qd Q ex dx dy t k
  obtain ⟨ok, t, u, b, e1, e2, e3, q⟩ := t
  exact ⟨x, y, t, u, b, rfl, clsV_of dy e2, tyX_of ex dx e1 ok, e3, k _ _ G H ex (.bl _) q⟩)
end
end Td
end
section
set_option maxRecDepth 100000
set_option maxHeartbeats 4000000
/-! The data layer: subscripts, slices, dicts, attributes, texts; what changes. -/
namespace Td
open PySem PySem.Spec PyProof.Rows L2 Lw
section
variable {X : Cx} {C : Cfg} {W : WX} {a b o e f i v : Expr} {es : List Expr} {pos p apos cpos p2 : Pos} {Ta Tb To Te Tf : TDE} {Ts : TDA}
/-! ### subscripts -/
def dIx : D → D → (D → Prop) → Prop := fun d e Q => match d, e with
  | .lst ds, .int i => match atI ds i with
    | some z => Q z
    | none => False
  | .tup ds, .int i => match atI ds i with
    | some z => Q z
    | none => False
  | .str z, .int i => match atI z.cps.toList i with
    | some c => z.length ≤ sizeLine ∧ Q (.str ⟨#[c]⟩)
    | none => False
  | _, _ => False
theorem atI_of {K : PySem.W.Frag} {pp : PP} {G : Hp} {xs : List V} {ds : List D} {i : Int} {z : D} (l : DatL K pp G xs ds) (h : atI ds i = some z) : ∃ v, atI xs i = some v ∧ Dat K pp G v z := by
  unfold atI at h ⊢
  rw [l.length]
  cases q : ixN ds.length i with
  | none => rw [q] at h; cases h
  | some j =>
    rw [q] at h
    exact l.get h
theorem r_ix {K : PySem.W.Frag} : R2D K (rIx K) dIx := by
  intro pp pn G H x y d e Qd Q ex dx dy t k
  cases dx <;> first | exact t.elim | skip
  all_goals (cases dy <;> first | exact t.elim | skip)
  · rename_i z i
    simp only [dIx] at t
    cases q : atI z.cps.toList i with
    | none => rw [q] at t; exact t.elim
    | some c =>
      rw [q] at t
      exact .inr (.inr ⟨z, i, c, rfl, rfl, t.1, q, k _ _ G H ex (.str _) t.2⟩)
  · rename_i a xs ds ha l i
    simp only [dIx] at t
    cases q : atI ds i with
    | none => rw [q] at t; exact t.elim
    | some z =>
      rw [q] at t
      obtain ⟨v, h1, h2⟩ := atI_of l q
      exact .inr (.inl ⟨a, xs, i, v, rfl, rfl, SqT.of (ex0_tup ex ha), h1, k _ _ G H ex h2 t⟩)
  · rename_i a xs ds ha l i
    simp only [dIx] at t
    cases q : atI ds i with
    | none => rw [q] at t; exact t.elim
    | some z =>
      rw [q] at t
      obtain ⟨v, h1, h2⟩ := atI_of l q
      exact .inl ⟨a, xs, i, v, rfl, rfl, SqL.of (ex0_lst ex ha), h1, k _ _ G H ex h2 t⟩
theorem pd_ix (hK : C.K = X.K) (ha : PD X C W a Ta) (hb : PD X C W b Tb) (hs : PlainIx b) : PD X C W (.Subscript a b pos) (dOp dIx Ta Tb) := pd2 (pe_ix ix_seq ha hb hs) (fun _ _ _ q => q) (by rw [← hK]; exact r_ix)
/-! ### dicts -/
def D.key : D → Option Key
  | .int i => some (.inl i)
  | .str x => some (.inr x)
  | _ => none
def valD (kvs : List (Key × D)) (k : Key) : Option D := (kvs.find? fun kv => decide (kv.1 = k)).map (·.2)
def putD (kvs : List (Key × D)) (k : Key) (v : D) : List (Key × D) := if (kvs.any fun kv => decide (kv.1 = k)) = true then kvs.map (fun kv => if kv.1 = k then (kv.1, v) else kv) else kvs ++ [(k, v)]
section
variable {K : PySem.W.Frag} {pp : PP} {G : Hp}
theorem key_of {v : V} {d : D} {k : Key} (h : Dat K pp G v d) (e : d.key = some k) : v = kV k := by
  cases h <;> first | (cases e; done) | (cases e; rfl)
theorem val_of : ∀ {kvs : List (Key × V)} {ds : List (Key × D)} {k : Key}, kvs.map (·.1) = ds.map (·.1) → DatL K pp G (kvs.map (·.2)) (ds.map (·.2)) →
    (∀ z, valD ds k = some z → ∃ v, valV kvs k = some v ∧ Dat K pp G v z) ∧ (valD ds k = none → valV kvs k = none)
  | [], [], _, _, _ => ⟨fun _ h => by simp [valD] at h, fun _ => rfl⟩
  | [], d :: ds, _, e, _ => by simp at e
  | kv :: kvs, [], _, e, _ => by simp at e
  | kv :: kvs, d :: ds, k, e, l => by
    simp only [List.map_cons, List.cons.injEq] at e
    cases l with
    | cons l1 l2 =>
      obtain ⟨h1, h2⟩ := val_of (k := k) e.2 l2
      by_cases c : d.1 = k
      · have c' : kv.1 = k := e.1.trans c
        constructor
        · intro z hz
          rw [valV_pos c']
          refine ⟨_, rfl, ?_⟩
          have : valD (d :: ds) k = some d.2 := by simp [valD, List.find?_cons, c]
          rw [this] at hz
          cases hz
          exact l1
        · intro hz
          have : valD (d :: ds) k = some d.2 := by simp [valD, List.find?_cons, c]
          rw [this] at hz
          cases hz
      · have c' : ¬ kv.1 = k := fun q => c (e.1.symm.trans q)
        have e2 : valD (d :: ds) k = valD ds k := by simp [valD, List.find?_cons, c]
        rw [e2, valV_neg c']
        exact ⟨h1, h2⟩
theorem put_of {k : Key} {v : V} {z : D} (h : Dat K pp G v z) {kvs : List (Key × V)} {ds : List (Key × D)} (e : kvs.map (·.1) = ds.map (·.1)) (l : DatL K pp G (kvs.map (·.2)) (ds.map (·.2))) :
    (putK kvs k v).map (·.1) = (putD ds k z).map (·.1) ∧ DatL K pp G ((putK kvs k v).map (·.2)) ((putD ds k z).map (·.2)) := by
  have any : (kvs.any fun kv => decide (kv.1 = k)) = (ds.any fun kv => decide (kv.1 = k)) := by
    have := congrArg (fun l => l.any fun x => decide (x = k)) e
    simpa [List.any_map, Function.comp_def] using this
  unfold putK putD
  rw [any]
  by_cases c : (ds.any fun kv => decide (kv.1 = k)) = true
  · rw [if_pos c, if_pos c]
    clear any c
    induction kvs generalizing ds with
    | nil =>
      cases ds with
      | nil => exact ⟨rfl, .nil⟩
      | cons _ _ => simp at e
    | cons kv kvs ih =>
      cases ds with
      | nil => simp at e
      | cons d ds =>
        simp only [List.map_cons, List.cons.injEq] at e
        cases l with
        | cons l1 l2 =>
          obtain ⟨i1, i2⟩ := ih e.2 l2
          by_cases q : d.1 = k
          · have q' : kv.1 = k := e.1.trans q
            simp only [List.map_cons, if_pos q, if_pos q']
            exact ⟨by rw [i1, e.1], .cons h i2⟩
          · have q' : ¬ kv.1 = k := fun z => q (e.1.symm.trans z)
            simp only [List.map_cons, if_neg q, if_neg q']
            exact ⟨by rw [i1, e.1], .cons l1 i2⟩
  · rw [if_neg c, if_neg c]
    simp only [List.map_append, List.map_cons, List.map_nil]
    exact ⟨by rw [e], l.app (.cons h .nil)⟩
end
/-- d[k], k in d, d.get(k, x) -/
def dGet : D → D → (D → Prop) → Prop := fun d e Q => match d, e.key with
  | .dic kvs, some k => match valD kvs k with
    | some z => Q z
    | none => False
  | _, _ => False
def dHas (neg : Bool) : D → D → (D → Prop) → Prop := fun e d Q => match d, e.key with
  | .dic kvs, some k => Q (.bl ((valD kvs k).isSome != neg))
  | _, _ => False
def dGet2 (To Te Tf : TDE) : TDE := fun ρ pn Q X => To ρ pn (fun d ρ1 pn1 => match d with
  | .dic kvs => Te ρ1 pn1 (fun e ρ2 pn2 => Tf ρ2 pn2 (fun x ρ3 pn3 => match e.key with
    | some k => Q ((valD kvs k).getD x) ρ3 pn3
    | none => False) X) X
  | _ => False) X
theorem pd_dget (hu : X.A.units + 1 < cLine) (ho : PD X C W o To) (hi : PD X C W i Te) (hs : NoSl i) : PD X C W (.Subscript o i pos) (dOp dGet To Te) := by
  refine PE.imp (pe_dget hu ho hi hs) fun σ H Q q => ?_
  obtain ⟨lk, G, ρ, pn, Qd, Qx, S, t, k, xl⟩ := q
  refine ⟨lk, G, ρ, pn, _, Qx, S, t, fun x d G1 H1 ρ1 pn1 S1 s1 dx t1 => ⟨lk, G1, ρ1, pn1, _, Qx, S1, t1, fun y e' G2 H2 ρ2 pn2 S2 s2 dy t2 => ?_, xl⟩, xl⟩
  cases dx <;> first | exact t2.elim | skip
  rename_i a kvs ds ha he l
  simp only [dGet] at t2
  cases q : e'.key with
  | none => rw [q] at t2; exact t2.elim
  | some kk =>
    rw [q] at t2
    simp only at t2
    cases z : valD ds kk with
    | none => rw [z] at t2; exact t2.elim
    | some w =>
      rw [z] at t2
      obtain ⟨v, h1, h2⟩ := (val_of (k := kk) he l).1 w z
      have r := (S2.sub _ _ (s2.same _ _ ha)).rd
      rw [key_of dy q]
      exact ⟨a, v, rfl, .inl ⟨kvs, kk, r, rfl, h1.symm⟩, k v w G2 H2 ρ2 pn2 S2 (s1.trans s2) (h2.keep s2.same) t2⟩
theorem pd_dhas (hu : X.A.units + 1 < cLine) (hi : PD X C W i Te) (ho : PD X C W o To) (hm : behindInMarks .In o = false) : PD X C W (.Compare i [.In] [o] pos) (dOp (dHas false) Te To) := by
  refine PE.imp (pe_cmp (pc_din hu hi ho) hm) fun σ H Q q => ?_
  obtain ⟨lk, G, ρ, pn, Qd, Qx, S, t, k, xl⟩ := q
  refine ⟨lk, G, ρ, pn, _, Qx, S, t, fun y e' G1 H1 ρ1 pn1 S1 s1 dy t1 => ⟨lk, G1, ρ1, pn1, _, Qx, S1, t1, fun x d G2 H2 ρ2 pn2 S2 s2 dx t2 => ?_, xl⟩, xl⟩
  cases dx <;> first | exact t2.elim | skip
  rename_i a kvs ds ha he l
  simp only [dHas] at t2
  cases q : e'.key with
  | none => rw [q] at t2; exact t2.elim
  | some kk =>
    rw [q] at t2
    have r := (S2.sub _ _ ha).rd
    rw [key_of dy q]
    refine ⟨a, _, rfl, .inl ⟨kvs, kk, r, rfl, rfl⟩, ?_⟩
    obtain ⟨h1, h2⟩ := val_of (k := kk) he l
    have ee : (valV kvs kk).isSome = (valD ds kk).isSome := by
      cases z : valD ds kk with
      | none => rw [h2 z]; rfl
      | some w => obtain ⟨v, hv, _⟩ := h1 w z; rw [hv]; rfl
    rw [ee]
    have t3 : Qd (.bl (valD ds kk).isSome) ρ2 pn2 := by simpa using t2
    exact k _ _ G2 H2 ρ2 pn2 S2 (s1.trans s2) (.bl _) t3
theorem pd_dhasT (hu : X.A.units + 1 < cLine) (hi : PD X C W i Te) (ho : PD X C W o To) (hm : behindInMarks .In o = false) : PDT X C W (.Compare i [.In] [o] pos) (dTst (dOp (dHas false) Te To)) := by
  refine ⟨fun pins s σ H Q I q => (pt_cmp (pc_din hu hi ho) hm).run pins s σ H Q I ?_⟩
  obtain ⟨lk, G, ρ, pn, Qd, Qx, S, t, k, xl⟩ := q
  refine ⟨lk, G, ρ, pn, _, Qx, S, t, fun y e' G1 H1 ρ1 pn1 S1 s1 dy t1 => ⟨lk, G1, ρ1, pn1, _, Qx, S1, t1, fun x d G2 H2 ρ2 pn2 S2 s2 dx t2 => ?_, xl⟩, xl⟩
  cases dx <;> first | exact t2.elim | skip
  rename_i a kvs ds ha he l
  simp only [dHas] at t2
  cases q : e'.key with
  | none => rw [q] at t2; exact t2.elim
  | some kk =>
    rw [q] at t2
    have r := (S2.sub _ _ ha).rd
    rw [key_of dy q]
    refine ⟨a, _, rfl, .inl ⟨kvs, kk, r, rfl, rfl⟩, ?_⟩
    obtain ⟨h1, h2⟩ := val_of (k := kk) he l
    have ee : (valV kvs kk).isSome = (valD ds kk).isSome := by
      cases z : valD ds kk with
      | none => rw [h2 z]; rfl
      | some w => obtain ⟨v, hv, _⟩ := h1 w z; rw [hv]; rfl
    rw [ee]
    have t3 : Qd (valD ds kk).isSome ρ2 pn2 := by simpa [qB] using t2
    exact ⟨_, rfl, k _ G2 H2 ρ2 pn2 S2 (s1.trans s2) t3⟩
theorem pd_dget2 (hu : X.A.units + 1 < cLine) (ho : PD X C W o To) (he : PD X C W e Te) (hf : PD X C W f Tf) (m : M2 X o "get" apos e f cpos) : PD X C W (.Call (.Attribute o "get" apos) [e, f] [] cpos) (dGet2 To Te Tf) := by
  refine PE.imp (pe_dget2 hu ho he hf m) fun σ H Q q => ?_
  obtain ⟨lk, G, ρ, pn, Qd, Qx, S, t, k, xl⟩ := q
  refine ⟨lk, G, ρ, pn, _, Qx, S, t, fun x d G1 H1 ρ1 pn1 S1 s1 dx t1 => ?_, xl⟩
  cases dx <;> first | exact t1.elim | skip
  rename_i a kvs ds ha hk l
  refine ⟨a, rfl, .inl ⟨kvs, (S1.sub _ _ ha).rd⟩, lk, G1, ρ1, pn1, _, Qx, S1, t1, fun y e' G2 H2 ρ2 pn2 S2 s2 dy t2 => ⟨lk, G2, ρ2, pn2, _, Qx, S2, t2, fun z z' G3 H3 ρ3 pn3 S3 s3 dz t3 => ?_, xl⟩, xl⟩
  cases q : e'.key with
  | none => rw [q] at t3; exact t3.elim
  | some kk =>
    rw [q] at t3
    have s23 := s2.same.trans s3.same
    have r := (S3.sub _ _ (s23 _ _ ha)).rd
    rw [key_of dy q]
    refine ⟨_, .inl ⟨kvs, kk, r, rfl, rfl⟩, ?_⟩
    obtain ⟨h1, h2⟩ := val_of (k := kk) hk l
    refine k _ ((valD ds kk).getD z') G3 H3 ρ3 pn3 S3 (s1.trans (s2.trans s3)) ?_ t3
    cases w : valD ds kk with
    | none => rw [h2 w]; exact dz
    | some u => obtain ⟨v, hv, dv⟩ := h1 u w; rw [hv]; exact dv.keep s23
/-! ### attributes of an own instance -/
def lookF (fs : List (Str × D)) (f : Str) : Option D := fs.lookup f
def dFld (T0 : Addr) (f : Str) : D → (D → Prop) → Prop := fun d Q => match d with
  | .obj T fs => T = T0 ∧ match fs.lookup f with
    | some z => Q z
    | none => False
  | _ => False
theorem look_of {K : PySem.W.Frag} {pp : PP} {G : Hp} {f : Str} {z : D} : ∀ {fs : List (Str × V)} {ds : List (Str × D)}, fs.map (·.1) = ds.map (·.1) → DatL K pp G (fs.map (·.2)) (ds.map (·.2)) → ds.lookup f = some z → ∃ v, fs.lookup f = some v ∧ Dat K pp G v z
  | [], [], _, _, h => by cases h
  | [], d :: ds, e, _, _ => by simp at e
  | x :: fs, [], e, _, _ => by simp at e
  | (g, x) :: fs, (g', d) :: ds, e, l, h => by
    simp only [List.map_cons, List.cons.injEq] at e
    obtain ⟨e1, e2⟩ := e
    have e1' : g = g' := e1
    subst e1'
    cases l with
    | cons l1 l2 =>
      by_cases c : (f == g) = true
      · have q1 : List.lookup f ((g, x) :: fs) = some x := by simp [List.lookup, c]
        have q2 : List.lookup f ((g, d) :: ds) = some d := by simp [List.lookup, c]
        rw [q2] at h
        cases h
        exact ⟨x, q1, l1⟩
      · have c' : (f == g) = false := by simpa using c
        have q1 : List.lookup f ((g, x) :: fs) = List.lookup f fs := by simp only [List.lookup, c']
        have q2 : List.lookup f ((g, d) :: ds) = List.lookup f ds := by simp only [List.lookup, c']
        rw [q2] at h
        rw [q1]
        exact look_of e2 l2 h
theorem pd_fld {T0 : Addr} {f : Str} (hK : C.K = X.K) (cl : Cls X.K T0) (na : NoAttr X.K T0 f) (he : PD X C W e Te) (hb : attributeBase e f X.env (eval e X.env) = eval e X.env := by rfl) : PD X C W (.Attribute e f pos) (dUn (dFld T0 f) Te) := by
  refine PE.imp (pe_fld he hb) fun σ H Q q => ?_
  obtain ⟨lk, G, ρ, pn, Qd, Qx, S, t, k, xl⟩ := q
  refine ⟨lk, G, ρ, pn, _, Qx, S, t, fun x d G1 H1 ρ1 pn1 S1 s1 dx t1 => ?_, xl⟩
  cases dx <;> first | exact t1.elim | skip
  rename_i a T dx fs ds ha hd hk l
  obtain ⟨rfl, t1⟩ := t1
  cases z : ds.lookup f with
  | none => rw [z] at t1; exact t1.elim
  | some w =>
    rw [z] at t1
    obtain ⟨v, h1, h2⟩ := look_of hk l z
    exact ⟨a, T, dx, fs, v, rfl, (S1.sub _ _ ha).ex (by intro _ z; cases z), cl, na, h1, k v w G1 H1 ρ1 pn1 S1 s1 h2 t1⟩
/-- a constant of the class -/
def dCon (T0 : Addr) (f : Str) (z : D) : D → (D → Prop) → Prop := fun d Q => match d with
  | .obj T fs => T = T0 ∧ fs.lookup f = none ∧ Q z
  | _ => False
end
end Td
end
section
set_option maxRecDepth 100000
set_option maxHeartbeats 4000000
/-! int(text) of up to 4300 figures. -/
namespace Lw
open PySem PySem.Spec PySem.Calls PySem.NumText PyProof.Rows PySem.W
theorem wp_most {M : Model} {A : Around} {E : Value → Shared → Prop} {s : Shared} {Q : Nat → Shared → Prop} (d : s.heap.NoDigits) (h : Q 4300 s) : wpAny M A Builtin.intMaxStrDigits Q E s := by
  obtain ⟨mc, hns, hno⟩ := d
  unfold Builtin.intMaxStrDigits
  refine wpAny_bind (wpAny_nsGet hns ?_)
  rw [hno]
  exact wpAny_pure h
theorem wp_long {M : Model} {A : Around} {E : Value → Shared → Prop} {hp : Heap} {g d tk os} {Q : Value → Shared → Prop} {v : Value} {text : List Nat} {n : Int}
    (far : ¬ (text.takeWhile (· != 0)).length ≤ 640) (dg : hp.NoDigits) (rd : (int_private% "readNumeral") 4300 10 (text.takeWhile (· != 0)) = (int_private% "Numeral.value") n)
    (al : ((text.takeWhile (· != 0)).length == text.length) = true) (h : Q (.int n tk) ⟨hp, g, d, tk + 1, os⟩) :
    wpAny M A ((int_private% "intFromText") v text 10) Q E ⟨hp, g, d, tk, os⟩ := by
  repeat (any_goals (first
    | assumption
    | (with_reducible refine wpAny_ite_false far ?_)
    | (with_reducible refine wp_most dg ?_)
    | (with_reducible refine wpAny_ite_true al ?_)
    | wp_step))
  all_goals (try rw [rd])
  all_goals (try dsimp only)
  repeat (any_goals (first
    | assumption
    | (with_reducible refine wpAny_ite_true al ?_)
    | wp_step))
structure Box (p : Prop) : Prop where
  get : p
/-- a long text that is a number, where the limit of figures is the usual one -/
theorem new_long {x : PySem.Str} {u : Tok} {n : Int} (far : ¬ (numSeenOf x).length ≤ 640) (hx : x.length ≤ sizeLine) (hn : PySem.intText? x = some n) :
    Meets (Builtin.«int.__new__» ⟨[.type "int", .str x u], []⟩) (fun _ R s => s.heap.NoDigits ∧ R (.ok (.ret (.int n s.toks))) { s with toks := s.toks + 1 }) := by
  intro M w A R s z
  obtain ⟨dg, h⟩ := z
  obtain ⟨hp, g, d, tk, os⟩ := s
  have v1 := F.conv_sub_int
  have v2 := F.madeHere_int
  have v3 := KIN.str_int
  have v4 := KIN.str_idx
  have v5 := KIN.str_trunc
  have v6 : typeOf (.str x u) = pure (.type "str") := rfl
  have rd : (int_private% "readNumeral") 4300 10 (numSeenOf x) = (int_private% "Numeral.value") n ∧ ((numSeenOf x).length == (numTextOf x).length) = true := by
    rcases read4300 x hx with ⟨m, h1, h2, h3⟩ | ⟨h1, _⟩
    · rw [hn] at h1
      injection h1 with h1
      subst h1
      exact ⟨h3, h2⟩
    · rw [hn] at h1
      cases h1
  have bx := Box.mk (And.intro (And.intro far dg) rd)
  clear far rd hx hn dg
  repeat (any_goals (first
    | assumption
    | ((with_reducible show wpAny _ _ ((int_private% "intFromText") _ _ _) _ _ _); refine wp_long bx.get.1.1 bx.get.1.2 bx.get.2.1 bx.get.2.2 ?_)
    | wp_step))

section
open L2
variable {X : Cx}
/-- int(text), the text of figures and signs, of at most 4300 signs -/
def rIntS : List V → Hp → VK → Prop := fun xs H Q => ∃ (a : Str) (n : Int), xs = [.str a] ∧ (∀ c ∈ a.cps.toList, c = 45 ∨ (48 ≤ c ∧ c ≤ 57)) ∧ PySem.intText? a = some n ∧ a.length ≤ 4300 ∧ Q (.int n) H
theorem call_intS (hN : X.base.NoDigits) : CallR X (.type "int") rIntS := by
  intro pins s σ H xs us Q I r h
  obtain ⟨a, n, rfl, hd, hn, hl, q⟩ := h
  obtain ⟨u, rfl, t, rfl⟩ := vals1 r
  by_cases near : a.length ≤ 640
  · exact PySem.W.KIN.call_text hn near ⟨.int n, H, I.tok _, ⟨_, rfl⟩, q⟩
  · have e := (numText_signs hd).2
    have far : ¬ (numSeenOf a).length ≤ 640 := by
      show ¬ (numSeenOf a).length ≤ 640
      rw [e]
      have : a.cps.toList.length = a.length := Array.length_toList
      omega
    refine call_int_1 (new_long far (Nat.le_trans hl (by decide)) hn) ⟨hN.keeps fun b o z => (I.bs b o z).1, rfl, ?_⟩
    exact ⟨.int n, H, I.tok _, ⟨_, rfl⟩, q⟩
end
end Lw
end
section
set_option maxRecDepth 100000
set_option maxHeartbeats 4000000
/-! The data layer: texts, slices, sorted, int; what changes. -/
namespace Td
open PySem PySem.Spec PyProof.Rows L2 Lw
section
variable {X : Cx} {C : Cfg} {W : WX} {a b o e f i v : Expr} {es : List Expr} {pos p apos cpos p2 : Pos} {Ta Tb To Te Tf : TDE} {Ts : TDA}
/-! ### truth -/
def TruW (K : PySem.W.Frag) (x : V) (H : Hp) (k : Bool) : Prop := TruV K x H k ∨ ∃ p kvs, x = .ref p ∧ Rd H p (.dK kvs) ∧ k = !kvs.isEmpty
theorem pt_truthW {te : TE} (ha : PE X a te) (he : ∀ whole, isTrue a X.env whole = (do let v ← whole; standAt a.pos; holding [v] (truthy v))) : PT X a (fun σ H Q => te σ H fun x H' => ∃ k, TruW X.K x H' k ∧ Q k H') := by
  refine ⟨fun pins s σ H Q I h => ?_⟩
  refine isTrue_plain (thn (ha.run pins s σ H _ I h) fun v s1 ⟨x, H1, I1, r1, q1⟩ => ?_) (he _)
  obtain ⟨k, t | ⟨p, kvs, rfl, hr, rfl⟩, q⟩ := q1
  · exact tru_ok pins s1 σ H1 x v Q I1 r1 ⟨k, t, q⟩
  · cases r1
    obtain ⟨hz, hS, vs, r, m⟩ := dk_rd I1.hok hr
    have hlen : kvs.length = vs.length := Paired.length r
    have hs : sizeLine = 16777216 := sizeLine_eq
    refine wpAny_truthy_dict hS m (by omega) ⟨H1, I1.tok _, ?_⟩
    rw [isEmpty_kv r]
    exact q
theorem pdt_truth (hK : C.K = X.K) (ha : PD X C W a Ta) (he : ∀ whole, isTrue a X.env whole = (do let v ← whole; standAt a.pos; holding [v] (truthy v)) := by intro _; rfl) : PDT X C W a (dTru Ta) := by
  refine ⟨fun pins s σ H Q I q => (pt_truthW ha he).run pins s σ H Q I ?_⟩
  obtain ⟨lk, G, ρ, pn, Qd, Qx, S, t, k, xl⟩ := q
  refine ⟨lk, G, ρ, pn, _, Qx, S, t, fun x d G1 H1 ρ1 pn1 S1 g1 dx t1 => ?_, xl⟩
  cases dx <;> first | exact t1.elim | skip
  · exact ⟨_, .inl rfl, k _ G1 H1 ρ1 pn1 S1 g1 t1⟩
  · exact ⟨_, .inl rfl, k _ G1 H1 ρ1 pn1 S1 g1 t1⟩
  · exact ⟨_, .inl rfl, k _ G1 H1 ρ1 pn1 S1 g1 t1⟩
  · rename_i z
    simp only [qT, D.truth] at t1
    by_cases c : z.length ≤ sizeLine
    · rw [if_pos c] at t1
      exact ⟨_, .inl ⟨c, rfl⟩, k _ G1 H1 ρ1 pn1 S1 g1 t1⟩
    · rw [if_neg c] at t1
      exact t1.elim
  · rename_i a xs ds ha l
    have hH := (S1.sub _ _ ha).ex (by intro _ z; cases z)
    refine ⟨_, .inl (.inr (.inl ⟨xs, SqT.of hH, rfl⟩)), ?_⟩
    have e : xs.isEmpty = ds.isEmpty := by cases l <;> rfl
    rw [e]
    exact k _ G1 H1 ρ1 pn1 S1 g1 t1
  · rename_i a xs ds ha l
    have hH := (S1.sub _ _ ha).ex (by intro _ z; cases z)
    refine ⟨_, .inl (.inl ⟨xs, SqL.of hH, rfl⟩), ?_⟩
    have e : xs.isEmpty = ds.isEmpty := by cases l <;> rfl
    rw [e]
    exact k _ G1 H1 ρ1 pn1 S1 g1 t1
  · rename_i a kvs ds ha hk l
    refine ⟨_, .inr ⟨a, kvs, rfl, (S1.sub _ _ ha).rd, rfl⟩, ?_⟩
    have e : kvs.isEmpty = ds.isEmpty := by
      cases kvs <;> cases ds <;> first | rfl | simp at hk
    rw [e]
    exact k _ G1 H1 ρ1 pn1 S1 g1 t1
/-! ### slices -/
def cutD (xs : List D) (lo hi : Option Int) : List D := (xs.drop (HT.sIx xs.length 0 lo)).take (HT.sIx xs.length xs.length hi - HT.sIx xs.length 0 lo)
abbrev TDO' := SL → Pn → (Option Int → SL → Pn → Prop) → XD → Prop
def dNoP : TDO' := fun ρ pn Q _ => Q none ρ pn
def dP (T : TDE) : TDO' := fun ρ pn Q X => T ρ pn (fun d ρ1 pn1 => match d with
  | .int i => Q (some i) ρ1 pn1
  | _ => False) X
def tP (C : Cfg) (W : WX) (T : TDO') : TO := fun σ H Q => ∃ (lk : Lk) (G : Hp) (ρ : SL) (pn : Pn) (Qd : Option Int → SL → Pn → Prop) (Qx : XD), StR C lk σ ρ pn G H ∧ T ρ pn Qd Qx ∧
  (∀ (b : Option Int) (G' H' : Hp) (ρ' : SL) (pn' : Pn), StR C lk σ ρ' pn' G' H' → Gr C.pp σ ρ G H ρ' G' H' → Qd b ρ' pn' → Q b H') ∧ XL C W lk σ Qx
abbrev PDP (X : Cx) (C : Cfg) (W : WX) (e : Option Expr) (T : TDO') : Prop := PO X e (tP C W T)
theorem PO.imp {e : Option Expr} {t t' : TO} (h : PO X e t) (i : ∀ σ H Q, t' σ H Q → t σ H Q) : PO X e t' := ⟨fun pins s σ H Q I q => h.run pins s σ H Q I (i σ H Q q)⟩
theorem pdp_none : PDP X C W none dNoP := PO.imp po_none fun σ H Q ⟨lk, G, ρ, pn, Qd, Qx, S, t, k, xl⟩ => k _ G H ρ pn S .refl t
theorem pdp_some (h : PD X C W e Te) : PDP X C W (some e) (dP Te) := PO.imp (po_some h) fun σ H Q ⟨lk, G, ρ, pn, Qd, Qx, S, t, k, xl⟩ => by
  refine ⟨lk, G, ρ, pn, _, Qx, S, t, fun x d G1 H1 ρ1 pn1 S1 g1 dx t1 => ?_, xl⟩
  cases dx <;> first | exact t1.elim | exact ⟨_, rfl, k _ G1 H1 ρ1 pn1 S1 g1 t1⟩
def dSl (To : TDE) (Tl Th : TDO') : TDE := fun ρ pn Q X => To ρ pn (fun d ρ1 pn1 => Tl ρ1 pn1 (fun l ρ2 pn2 => Th ρ2 pn2 (fun h ρ3 pn3 => match d with
  | .lst ds => Q (.lst (cutD ds l h)) ρ3 pn3
  | .str z => z.length ≤ sizeLine ∧ Q (.str (cutS z l h)) ρ3 pn3
  | _ => False) X) X) X
theorem SlR'.or {r r' : V → Option Int → Option Int → Hp → VK → Prop} (h : L2.SlR X r) (h' : L2.SlR X r') : L2.SlR X (fun x lo hi H Q => r x lo hi H Q ∨ r' x lo hi H Q) := L2.SlR.or h h'
theorem datL_cut {K : PySem.W.Frag} {pp : PP} {G : Hp} {xs : List V} {ds : List D} (l : DatL K pp G xs ds) (lo hi : Option Int) : DatL K pp G (cutV xs lo hi) (cutD ds lo hi) := by
  unfold cutV cutD
  rw [l.length]
  exact (l.drop _).take _
theorem pd_sl {lo hi : Option Expr} {Tl Th : TDO'} (hK : C.K = X.K) (he : PD X C W e Te) (hl : PDP X C W lo Tl) (hu : PDP X C W hi Th) : PD X C W (.Subscript e (.Slice lo hi none p2) pos) (dSl Te Tl Th) := by
  refine PE.imp (pe_slice (L2.SlR.or sl_list sl_str) he hl hu) fun σ H Q q => ?_
  obtain ⟨lk, G, ρ, pn, Qd, Qx, S, t, k, xl⟩ := q
  refine ⟨lk, G, ρ, pn, _, Qx, S, t, fun x d G1 H1 ρ1 pn1 S1 g1 dx t1 => ⟨lk, G1, ρ1, pn1, _, Qx, S1, t1, fun l G2 H2 ρ2 pn2 S2 g2 t2 => ⟨lk, G2, ρ2, pn2, _, Qx, S2, t2, fun u G3 H3 ρ3 pn3 S3 g3 t3 => ?_, xl⟩, xl⟩, xl⟩
  have g23 := g2.trans g3
  cases dx <;> first | exact t3.elim | skip
  · exact .inr ⟨_, rfl, t3.1, k _ _ G3 H3 ρ3 pn3 S3 (g1.trans g23) (.str _) t3.2⟩
  · rename_i a xs ds ha dl
    have hH := (S3.sub _ _ (g23.same _ _ ha)).ex (by intro _ z; cases z)
    refine .inl ⟨a, xs, rfl, SqL.of hH, fun q n => ?_⟩
    exact new_D S3 (fun p G' e s => .lst e ((datL_cut (dl.keep g23.same) l u).keep s)) (fun v G' H' x dv => k v _ G' H' ρ3 pn3 (S3.step x) (g1.trans (g23.trans (.ex x))) dv t3) n
/-- xs[::-1] -/
def dRev : D → (D → Prop) → Prop := fun d Q => match d with
  | .lst ds => Q (.lst ds.reverse)
  | _ => False
/-! ### texts -/
def dM1 (f : D → D → (D → Prop) → Prop) (To Te : TDE) : TDE := fun ρ pn Q X => To ρ pn (fun d ρ1 pn1 => match d with
  | .str z => Te ρ1 pn1 (fun e ρ2 pn2 => f (.str z) e fun r => Q r ρ2 pn2) X
  | _ => False) X
theorem pd_m1 {id : String} {name : Str} {r : V → List V → Hp → VK → Prop} {f : D → D → (D → Prop) → Prop} (slot : Slot "str" name id) (ty : typeOf (.builtin id) = pure (.type "method_descriptor")) (rule : MtR X id r) (hr : R2D C.K (fun x y H Q => r x [y] H Q) f) (ho : PD X C W o To) (he : PD X C W e Te)
    (hs : starEach [e] X.env = [(false, eval e X.env)] := by rfl) (hbase : attributeBase o name X.env (eval o X.env) = eval o X.env := by rfl) (hline : (apos.endLine == pos.line) = true := by rfl) : PD X C W (.Call (.Attribute o name apos) [e] [] pos) (dM1 f To Te) := by
  refine PE.imp (pe_m1 slot ty rule ho he hs hbase hline) fun σ H Q q => ?_
  obtain ⟨lk, G, ρ, pn, Qd, Qx, S, t, k, xl⟩ := q
  refine ⟨lk, G, ρ, pn, _, Qx, S, t, fun x d G1 H1 ρ1 pn1 S1 g1 dx t1 => ?_, xl⟩
  cases dx <;> first | exact t1.elim | skip
  rename_i z
  refine ⟨⟨z, rfl⟩, lk, G1, ρ1, pn1, _, Qx, S1, t1, fun y e' G2 H2 ρ2 pn2 S2 g2 dy t2 => ?_, xl⟩
  exact hr C.pp pn2 G2 H2 (.str z) y (.str z) e' _ Q S2.ex0 (.str z) dy t2 fun v w G' H' E dz qz => k v w G' H' ρ2 pn2 (S2.step E) (g1.trans (g2.trans (.ex E))) dz qz
def dSplit : D → D → (D → Prop) → Prop := fun d e Q => match d, e with
  | .str a, .str b => (b.length == 0) = false ∧ a.length + 2 ≤ sizeLine ∧ Q (.lst ((Txt.split a b).map D.str))
  | _, _ => False
theorem r_split {K : PySem.W.Frag} : R2D K (fun x y H Q => ∃ a b, x = .str a ∧ [y] = [.str b] ∧ (b.length == 0) = false ∧ a.length + 2 ≤ sizeLine ∧ rNewStrs (Txt.split a b) H Q) dSplit := by
  intro pp pn G H x y d e Qd Q ex dx dy t k
  cases dx <;> first | exact t.elim | skip
  cases dy <;> first | exact t.elim | skip
  exact ⟨_, _, rfl, rfl, t.1, t.2.1, fun p n => ex0_new ex (fun p G' e s => .lst e (datL_str _)) (fun v G' H' x dv => k v _ G' H' x dv t.2.2) n⟩
def dJoin : D → D → (D → Prop) → Prop := fun d e Q => match d, e.seq.bind strsD with
  | .str a, some ys => (ys.map (·.length)).sum + ys.length * a.length ≤ 16777216 ∧ Q (.str (Txt.join a ys))
  | _, _ => False
theorem r_join {K : PySem.W.Frag} : R2D K (fun x y H Q => ∃ a p, ∃ ys : List Str, x = .str a ∧ [y] = [.ref p] ∧ (SqL K H p (ys.map V.str) ∨ SqT K H p (ys.map V.str)) ∧ (ys.map (·.length)).sum + ys.length * a.length ≤ 16777216 ∧ Q (.str (Txt.join a ys)) H) dJoin := by
  intro pp pn G H x y d e Qd Q ex dx dy t k
  cases dx <;> first | exact t.elim | skip
  cases dy <;> first | exact t.elim | skip
  all_goals
    rename_i z a xs ds ha l
    simp only [dJoin, D.seq, Option.bind_some] at t
    cases q : strsD ds with
    | none => rw [q] at t; exact t.elim
    | some ys =>
      rw [q] at t
      rw [strsD_eq q] at l
      rw [l.ofStr] at ha
      first
        | exact ⟨_, a, ys, rfl, rfl, .inl (SqL.of (ex0_lst ex ha)), t.1, k _ _ G H ex (.str _) t.2⟩
        | exact ⟨_, a, ys, rfl, rfl, .inr (SqT.of (ex0_tup ex ha)), t.1, k _ _ G H ex (.str _) t.2⟩
def dStarts : D → D → (D → Prop) → Prop := fun d e Q => match d, e with
  | .str a, .str b => Q (.bl (Txt.startswith a b))
  | _, _ => False
theorem r_starts {K : PySem.W.Frag} : R2D K (fun x y H Q => ∃ a b, x = .str a ∧ [y] = [.str b] ∧ Q (.bl (Txt.startswith a b)) H) dStarts := by
  intro pp pn G H x y d e Qd Q ex dx dy t k
  cases dx <;> first | exact t.elim | skip
  cases dy <;> first | exact t.elim | skip
  exact ⟨_, _, rfl, rfl, k _ _ G H ex (.bl _) t⟩
def dZfill : D → D → (D → Prop) → Prop := fun d e Q => match d, e with
  | .str a, .int i => PadOk i = true ∧ Q (.str (Txt.zfill a i))
  | _, _ => False
theorem r_zfill {K : PySem.W.Frag} : R2D K (fun x y H Q => ∃ (a : Str) (i : Int), x = .str a ∧ [y] = [.int i] ∧ PadOk i = true ∧ Q (.str (Txt.zfill a i)) H) dZfill := by
  intro pp pn G H x y d e Qd Q ex dx dy t k
  cases dx <;> first | exact t.elim | skip
  cases dy <;> first | exact t.elim | skip
  exact ⟨_, _, rfl, rfl, t.1, k _ _ G H ex (.str _) t.2⟩
/-- int(x): of a whole number, a truth, a text of figures and signs -/
def figS (a : Str) : Bool := a.cps.toList.all fun c => decide (c = 45) || (decide (48 ≤ c) && decide (c ≤ 57))
def dInt : D → (D → Prop) → Prop := fun d Q => match d with
  | .int i => Q (.int i)
  | .bl k => Q (.int (if k then 1 else 0))
  | .str a => match PySem.intText? a with
    | some n => figS a = true ∧ a.length ≤ 4300 ∧ Q (.int n)
    | none => False
  | _ => False
theorem r_int {K : PySem.W.Frag} : RLD K (fun xs H Q => ((∃ i, xs = [.int i] ∧ Q (.int i) H) ∨ ∃ k, xs = [.bl k] ∧ Q (.int (if k then 1 else 0)) H) ∨ rIntS xs H Q) (L1 dInt) := rl1 (by
  intro pp pn G H x d Qd Q ex dx t k
  cases dx <;> first | exact t.elim | skip
  · exact .inl (.inr ⟨_, rfl, k _ _ G H ex (.int _) t⟩)
  · exact .inl (.inl ⟨_, rfl, k _ _ G H ex (.int _) t⟩)
  · rename_i z
    simp only [dInt] at t
    cases q : PySem.intText? z with
    | none => rw [q] at t; exact t.elim
    | some n =>
      rw [q] at t
      refine .inr ⟨z, n, rfl, fun c hc => ?_, q, t.2.1, k _ _ G H ex (.int _) t.2.2⟩
      have h := List.all_eq_true.mp t.1 c hc
      simp only [Bool.or_eq_true, Bool.and_eq_true, decide_eq_true_eq] at h
      exact h)
theorem call_intA (hN : X.base.NoDigits) : CallR X (.type "int") (fun xs H Q => ((∃ i, xs = [.int i] ∧ Q (.int i) H) ∨ ∃ k, xs = [.bl k] ∧ Q (.int (if k then 1 else 0)) H) ∨ rIntS xs H Q) := CallR.or call_int1 (call_intS hN)
/-- sorted of texts -/
theorem r_sortS {K : PySem.W.Frag} : RLD K (rSortedS K) (L1 dSortS) := rl1 (by
  intro pp pn G H x d Qd Q ex dx t k
  unfold dSortS at t
  cases z : d.lst?.bind strsD with
  | none => rw [z] at t; exact t.elim
  | some bs =>
    rw [z] at t
    obtain ⟨ds, rfl, e⟩ := bind_lst z
    cases dx with
    | lst ha l =>
      rw [strsD_eq e] at l
      rw [l.ofStr] at ha
      exact ⟨_, bs, rfl, SqL.of (ex0_lst ex ha), t.1, fun ys p hp hs n => ex0_new ex (fun p G' e s => .lst e (datL_str _)) (fun v G' H' x dv => k v _ G' H' x dv (t.2 ys hp hs)) n⟩)
/-! ### f-strings -/
def dFmt : D → (D → Prop) → Prop := fun d Q => match d with
  | .str y => y.length ≤ sizeLine ∧ Q (.str y)
  | .int i => i.natAbs.log2 < 1920 ∧ Q (.str (toString i))
  | _ => False
theorem pd_fmt (he : PD X C W e Te) : PD X C W (.FormattedValue e (-1) none pos) (dUn dFmt Te) := by
  refine PE.imp (pe_fmt he) fun σ H Q q => ?_
  obtain ⟨lk, G, ρ, pn, Qd, Qx, S, t, k, xl⟩ := q
  refine ⟨lk, G, ρ, pn, _, Qx, S, t, fun x d G1 H1 ρ1 pn1 S1 g1 dx t1 => ?_, xl⟩
  cases dx <;> first | exact t1.elim | skip
  · exact .inr ⟨_, rfl, t1.1, k _ _ G1 H1 ρ1 pn1 S1 g1 (.str _) t1.2⟩
  · exact .inl ⟨_, rfl, t1.1, k _ _ G1 H1 ρ1 pn1 S1 g1 (.str _) t1.2⟩
/-- the parts -/
inductive PJD (X : Cx) (C : Cfg) (W : WX) : List Expr → List TDE → Prop
  | nil : PJD X C W [] []
  | cons {e : Expr} {T : TDE} {es : List Expr} {Ts : List TDE} : PD X C W e T → PJD X C W es Ts → PJD X C W (e :: es) (T :: Ts)
def dJs : List TDE → Str → SL → Pn → QD → XD → Prop
  | [], acc, ρ, pn, Q, _ => Q (.str acc) ρ pn
  | T :: Ts, acc, ρ, pn, Q, X => T ρ pn (fun d ρ1 pn1 => match d with
    | .str y => (acc ++ y).length ≤ sizeLine ∧ dJs Ts (acc ++ y) ρ1 pn1 Q X
    | _ => False) X
theorem pj_of {es : List Expr} {Ts : List TDE} (h : PJD X C W es Ts) : PJ X es (Ts.map (tD C W)) := by
  induction h with
  | nil => exact .nil
  | cons a _ ih => exact .cons a ih
theorem js_of {σ : L2.St} {Q : VK} {Qx : XD} {lk : Lk} (xl : XL C W lk σ Qx) : ∀ (Ts : List TDE) (acc : Str) (G H : Hp) (ρ : SL) (pn : Pn) (Qd : QD), StR C lk σ ρ pn G H → dJs Ts acc ρ pn Qd Qx →
    (∀ (v : V) (d : D) (G' H' : Hp) (ρ' : SL) (pn' : Pn), StR C lk σ ρ' pn' G' H' → Gr C.pp σ ρ G H ρ' G' H' → Dat C.K C.pp G' v d → Qd d ρ' pn' → Q v H') → tJs (Ts.map (tD C W)) acc σ H fun out H1 => Q (.str out) H1
  | [], acc, G, H, ρ, pn, Qd, S, t, k => k _ _ G H ρ pn S .refl (.str acc) t
  | T :: Ts, acc, G, H, ρ, pn, Qd, S, t, k => by
    refine ⟨lk, G, ρ, pn, _, Qx, S, t, fun x d G1 H1 ρ1 pn1 S1 g1 dx t1 => ?_, xl⟩
    cases dx <;> first | exact t1.elim | skip
    exact ⟨_, rfl, t1.1, js_of xl Ts _ G1 H1 ρ1 pn1 Qd S1 t1.2 fun v d G' H' ρ' pn' S' g' dv q => k v d G' H' ρ' pn' S' (g1.trans g') dv q⟩
theorem pd_joined {v1 v2 : Expr} {rest : List Expr} {Ts : List TDE} (h : PJD X C W (v1 :: v2 :: rest) Ts) : PD X C W (.JoinedStr (v1 :: v2 :: rest) pos) (fun ρ pn Q Xx => dJs Ts Str.empty ρ pn Q Xx) := by
  refine PE.imp (pe_joined (pj_of h)) fun σ H Q q => ?_
  obtain ⟨lk, G, ρ, pn, Qd, Qx, S, t, k, xl⟩ := q
  exact js_of xl Ts _ G H ρ pn Qd S t k
/-! ### what changes -/
/-- what a slot may change is changed -/
theorem setO_same {lk : Lk} {σ : L2.St} {ρ : SL} {pn : Pn} {G H : Hp} {i : Nat} {sv sv' : SV} {x : Addr} {ob : HO} (S : StR C lk σ ρ pn G H) (e : ρ[i]? = some sv) (o : sv.own = true) (ea : σ[i]? = some (some (.ref x))) (h : H x = some ob) (g : G x = none) (n0 : C.H0 x = none) (no : ∀ i, ob ≠ .own i) (nf : ∀ a u, ob ≠ .frz a u) (nc : C.pp.p ≠ none → x ≠ C.pp.c)
    (o' : HO) (h' : ∀ H', H' x = some o' → SlR C G H' (some (some (.ref x))) sv') : StR C lk σ (ρ.set i sv') pn G (upd H x o') := by
  have hi := (List.getElem?_eq_some_iff.mp e).1
  have S1 : StR C lk σ (ρ.set i .un) pn G H := S.rho i (sv := .un) trivial rfl
  have nw : ¬ OwnAt σ (ρ.set i .un) x := fun ⟨j, t, e1, o1, z⟩ => by
    by_cases hj : i = j
    · subst hj
      rw [List.getElem?_set_self hi] at e1
      cases e1
      cases o1
    · rw [List.getElem?_set_ne hj] at e1
      exact hj (S.apart i j sv t x e e1 o o1 ea z)
  have S2 := S1.updA (o' := o') h g n0 no nf nw nc
  have S3 := S2.setOwn i (h' _ upd_same) fun j t hj e1 o1 z => nw ⟨j, t, e1, o1, z⟩
  rw [List.set_set] at S3
  have e4 : σ.set i (some (.ref x)) = σ := by
    refine List.ext_getElem? fun j => ?_
    by_cases hj : i = j
    · subst hj
      rw [List.getElem?_set_self (by rw [← S.len]; exact hi), ea]
    · rw [List.getElem?_set_ne hj]
  rwa [e4] at S3
/-- the pen's cells stand elsewhere -/
theorem pc_ne {lk : Lk} {σ : L2.St} {ρ : SL} {pn : Pn} {G H : Hp} {x : Addr} (S : StR C lk σ ρ pn G H) (n0 : C.H0 x = none) (h0 : ∀ p, C.pp.p = some p → C.H0 C.pp.c ≠ none) : C.pp.p ≠ none → x ≠ C.pp.c := fun z e => by
  cases q : C.pp.p with
  | none => exact z q
  | some p => exact h0 p q (by rw [← e]; exact n0)
/-- x.append(e), x a name -/
def sApp (i : Nat) (T : TDE) : TDS := fun E ρ pn => match ρ[i]? with
  | some (.ol _) => T ρ pn (fun d ρ1 pn1 => match ρ1[i]? with
    | some (.ol ds) => ds.length < sizeLine ∧ E.nx (ρ1.set i (.ol (ds ++ [d]))) pn1
    | _ => False) E.xd
  | _ => False
theorem pds_app {j : Nat} {x : Str} {px : Pos} (hx : PE X (.Name x px) (tVar j)) (h0 : ∀ p, C.pp.p = some p → C.H0 C.pp.c ≠ none) (he : PD X C W e Te)
    (hbase : attributeBase (.Name x px) "append" X.env (eval (.Name x px) X.env) = eval (.Name x px) X.env := by rfl)
    (hfew : ((backTo cpos (starEach [e] X.env)).all (fun x => !x.1) && (backToKw cpos (keywordEach [] X.env)).all (fun x => x.1.isSome)
      && decide (([e] : List Expr).length + ([] : List Keyword).length + (if ([] : List Keyword).isEmpty then 0 else 1) < 30)) = true := by rfl)
    (hline : (apos.endLine == cpos.line) = true := by rfl) (hs : starEach [e] X.env = (false, eval e X.env) :: starEach [] X.env := by rfl) (hplain : (backTo cpos (starEach [] X.env)).any (·.1) = false := by rfl)
    (hsw : swapsWith (.Call (.Attribute (.Name x px) "append" apos) [e] [] cpos) none pos.line X.env = pure false := by rfl) :
    PDS X C W (.Expr (.Call (.Attribute (.Name x px) "append" apos) [e] [] cpos) pos) (sApp j Te) := by
  refine PS.imp (ps_expr (pe_bm PySem.F.plainAttrs_list PySem.F.slot_list_append PySem.F.type_list_append mt_append hx (pda_cons he pda_nil hs) hbase hfew hline hs hplain) hsw) fun D σ H q => ?_
  obtain ⟨lk, G, ρ, pn, E, S, t, L⟩ := q
  unfold sApp at t
  cases er : ρ[j]? with
  | none => rw [er] at t; exact t.elim
  | some sv =>
    cases sv <;> first | (rw [er] at t; exact t.elim) | skip
    rw [er] at t
    obtain ⟨y, xs, ey, hy, gy, ny, npy, ly⟩ := S.slot j _ er
    refine ⟨.ref y, ey, .inl ⟨rfl, xs, SqL.of hy⟩, lk, G, ρ, pn, (fun ds ρ1 pn1 => match ds with
      | [d] => (match ρ1[j]? with
        | some (.ol ds) => ds.length < sizeLine ∧ E.nx (ρ1.set j (.ol (ds ++ [d]))) pn1
        | _ => False)
      | _ => False), E.xd, S, t, fun vs ds G1 H1 ρ1 pn1 S1 g1 l t1 => ?_, L.xd σ⟩
    match ds, l, t1 with
    | [d], l, t1 =>
      obtain ⟨v, rfl, dv⟩ := l.one
      cases e1 : ρ1[j]? with
      | none => simp only [e1] at t1
      | some sv1 =>
        cases sv1 <;> first | (simp only [e1] at t1; done) | skip
        rename_i ds
        simp only [e1] at t1
        obtain ⟨y1, xs1, ey1, hy1, gy1, ny1, npy1, ly1⟩ := S1.slot j _ e1
        rw [ey] at ey1
        cases ey1
        refine ⟨y, xs1, v, rfl, rfl, hy1, by rw [ly1.length]; exact t1.1, ?_⟩
        have S2 := setO_same (sv' := .ol (ds ++ [d])) S1 e1 rfl ey hy1 gy1 ny1 (by intro i z; cases z) (by intro a u z; cases z) (pc_ne S1 ny1 h0) (.lst (xs1 ++ [v])) fun H' e => ⟨y, _, rfl, e, gy1, ny1, npy1, ly1.app (.cons dv .nil)⟩
        exact L.nx _ _ _ _ _ S2 g1.same t1.2
/-- x[k] = e, x a name of a dict that may still change -/
def sPut (j : Nat) (Tk Tv : TDE) : TDS := fun E ρ pn => Tv ρ pn (fun d ρ1 pn1 => match ρ1[j]? with
  | some (.od _) => Tk ρ1 pn1 (fun e ρ2 pn2 => match ρ2[j]?, e.key with
    | some (.od ds), some k => ds.length < sizeLine ∧ E.nx (ρ2.set j (.od (putD ds k d))) pn2
    | _, _ => False) E.xd
  | _ => False) E.xd
theorem pds_put {j : Nat} {x : Str} {px pos' : Pos} (hu : X.A.units + 1 < cLine) (hx : PE X (.Name x px) (tVar j)) (h0 : ∀ p, C.pp.p = some p → C.H0 C.pp.c ≠ none) (hi : PD X C W i Te) (hv : PD X C W v Tf)
    (hs : swapsWith v (some (.Subscript (.Name x px) i pos')) pos.line X.env = pure false := by rfl) : PDS X C W (.Assign [.Subscript (.Name x px) i pos'] v pos) (sPut j Te Tf) := by
  refine PS.imp (ps_dput hu hx hi hv hs) fun D σ H q => ?_
  obtain ⟨lk, G, ρ, pn, E, S, t, L⟩ := q
  refine ⟨lk, G, ρ, pn, _, _, S, t, fun vv d G1 H1 ρ1 pn1 S1 g1 dv t1 => ?_, L.xd σ⟩
  cases er : ρ1[j]? with
  | none => rw [er] at t1; exact t1.elim
  | some sv =>
    cases sv <;> first | (rw [er] at t1; exact t1.elim) | skip
    rw [er] at t1
    obtain ⟨y, xs, ey, hy, gy, ny, hk, ly⟩ := S1.slot j _ er
    refine ⟨.ref y, ey, lk, G1, ρ1, pn1, _, _, S1, t1, fun kv e G2 H2 ρ2 pn2 S2 g2 dk t2 => ?_, L.xd σ⟩
    cases e1 : ρ2[j]? with
    | none => simp only [e1] at t2
    | some sv1 =>
      cases sv1 <;> first | (simp only [e1] at t2; done) | skip
      rename_i ds
      cases q : e.key with
      | none => simp only [e1, q] at t2
      | some kk =>
        simp only [e1, q] at t2
        obtain ⟨y1, xs1, ey1, hy1, gy1, ny1, hk1, ly1⟩ := S2.slot j _ e1
        rw [ey] at ey1
        cases ey1
        obtain ⟨p1, p2⟩ := put_of (k := kk) (dv.keep g2.same) hk1 ly1
        have ln : xs1.length = ds.length := by simpa using ly1.length
        rw [key_of dk q]
        refine ⟨y, _, rfl, DPut.k hy1 (by rw [ln]; exact t2.1), ?_⟩
        have S3 := setO_same (sv' := .od (putD ds kk d)) S2 e1 rfl ey hy1 gy1 ny1 (by intro i z; cases z) (by intro a u z; cases z) (pc_ne S2 ny1 h0) (.dK (putK xs1 kk vv)) fun H' e => ⟨y, _, rfl, e, gy1, ny1, p1, p2⟩
        exact L.nx _ _ _ _ _ S3 (g1.same.trans g2.same) t2.2
/-- x += e: whole numbers -/
def sAugI (j : Nat) (f : Int → Int → Int) (T : TDE) : TDS := fun E ρ pn => match ρ[j]? with
  | some (.fz (.int a)) => T ρ pn (fun d ρ1 pn1 => match d with
    | .int b => E.nx (ρ1.set j (.fz (.int (f a b)))) pn1
    | _ => False) E.xd
  | _ => False
theorem pds_aug {j : Nat} {x : Str} {px : Pos} {op : Operator} {ff : Int → Int → Int} (hN : X.N.Nodup) (hi : X.N[j]? = some x) (hx : Loc X.env.scope x) (ho : PIp X op (ipI ff)) (he : PD X C W e Te)
    (hf : X.fn x = true ∨ X.env.scope.names.lookup x = some .local := by first | exact .inl rfl | exact .inr rfl | assumption) : PDS X C W (.AugAssign (.Name x px) op e pos) (sAugI j ff Te) := by
  refine PS.imp (ps_aug hN hi hx he ho hf) fun D σ H q => ?_
  obtain ⟨lk, G, ρ, pn, E, S, t, L⟩ := q
  unfold sAugI at t
  cases er : ρ[j]? with
  | none => rw [er] at t; exact t.elim
  | some sv =>
    cases sv <;> first | (rw [er] at t; exact t.elim) | skip
    rename_i d0
    cases d0 <;> first | (rw [er] at t; exact t.elim) | skip
    rename_i a
    rw [er] at t
    obtain ⟨y, ey, dy⟩ := S.slot j _ er
    cases dy
    refine ⟨_, ey, lk, G, ρ, pn, _, _, S, t, fun w d G1 H1 ρ1 pn1 S1 g1 dw t1 => ?_, L.xd σ⟩
    cases dw <;> first | exact t1.elim | skip
    exact ⟨a, _, rfl, rfl, L.nx _ _ _ _ _ (S1.setFz (.int _) j) g1.same t1⟩
end
end Td
end
section
set_option maxRecDepth 100000
set_option maxHeartbeats 4000000
/-! The data layer: looks that change nothing, defs as the head tells them, own classes. -/
namespace Td
open PySem PySem.Spec PyProof.Rows L2 Lw
section
variable {C : Cfg} {lk : Lk} {σ : L2.St} {ρ ρ' : SL} {pn pn' : Pn} {G H G' H' : Hp}
/-- what an expression did to the data may be forgotten -/
theorem StR.undo (S : StR C lk σ ρ pn G H) (S' : StR C lk σ ρ' pn' G' H') (g : Gr C.pp σ ρ G H ρ' G' H') : StR C lk σ ρ pn' G H' := by
  have gp : ∀ {a : Addr} {o : HO}, G a = some o → C.pp.p ≠ some a := fun e z => by rw [(S.pen _ z).2.1] at e; cases e
  have mp : ∀ {a : Addr}, a ∉ C.mu → C.pp.p ≠ some a := fun e z => e (S.ppmu z)
  refine ⟨fun a o e => ?_, S.g0, S.new, fun a o e m => ?_, fun a e => g.live a (S.live a e), fun p hp => ?_, fun a ha => ?_, fun p hp => ?_, S.len, fun i sv e => ?_, S.apart⟩
  · rcases S.sub a o e with q | ⟨k, r⟩
    · exact .inl (g.bu a o q (gp e))
    · exact .inr ⟨k, r.elim (fun r => .inl (g.bu a o r (gp e))) fun ⟨u, r⟩ => .inr ⟨u, g.bu a _ r (gp e)⟩⟩
  · obtain ⟨k1, k2⟩ := S.keep a o e m
    exact ⟨k1.elim (fun r => .inl (g.bu a o r (mp m))) fun ⟨u, r⟩ => .inr ⟨u, g.bu a _ r (mp m)⟩, fun l => g.bu a o (k2 l) (mp m)⟩
  · obtain ⟨z1, z2, z3⟩ := S.lkG p hp
    exact ⟨z1, g.bu _ _ z2 (gp z1), z3⟩
  · obtain ⟨z1, z2, z3⟩ := S.muG a ha
    exact ⟨z1, g.live a z2, z3⟩
  · obtain ⟨z0, z1, _⟩ := S.pen p hp
    exact ⟨z0, z1, (S'.pen p hp).2.2⟩
  · have q := S.slot i sv e
    have np : ∀ {a : Addr} {o : HO}, H a = some o → (∀ xs, o ≠ .lst xs) → C.pp.p ≠ some a := fun {a o} e n z => by
      have P := (S.pen a z).2.2.ob
      rw [P] at e
      exact n _ (Option.some.inj e).symm
    cases sv with
    | un => trivial
    | fz d => exact q
    | ol ds => obtain ⟨a, xs, e, q, g1, n, z, l⟩ := q; exact ⟨a, xs, e, g.bu a _ q z, g1, n, z, l⟩
    | od ds => obtain ⟨a, xs, e, q, g1, n, z, l⟩ := q; exact ⟨a, xs, e, g.bu a _ q (np q (by intro _ z; cases z)), g1, n, z, l⟩
    | oo T ds => obtain ⟨a, dx, fs, e, q, q2, g1, n, z, l⟩ := q; exact ⟨a, dx, fs, e, g.bu a _ q (np q (by intro _ z; cases z)), g.bu dx _ q2 (np q2 (by intro _ z; cases z)), g1, n, z, l⟩
theorem Gr.undo {pp : PP} (g : Gr pp σ ρ G H ρ' G' H') : Gr pp σ ρ G H ρ G H' := ⟨fun _ _ h => h, fun _ h => .inl h, g.bu, g.live, fun _ h => h⟩
end
def dPkT (B : TDT) : TDT := fun ρ pn Q X => B ρ pn (fun b _ pn1 => Q b ρ pn1) X
def dPk (T : TDE) : TDE := fun ρ pn Q X => T ρ pn (fun d _ pn1 => d.flat.isSome = true ∧ Q d ρ pn1) X
theorem flat_any {K : PySem.W.Frag} {pp : PP} {G G' : Hp} {v : V} {d : D} (h : Dat K pp G v d) (f : d.flat.isSome = true) : Dat K pp G' v d := by
  cases h <;> first | (cases f; done) | exact .non | exact .bl _ | exact .int _ | exact .str _
section
variable {X : Cx} {C : Cfg} {W : WX} {e : Expr} {B : TDT} {T : TDE}
theorem pdt_pk (h : PDT X C W e B) : PDT X C W e (dPkT B) := by
  refine ⟨fun pins s σ H Q I q => h.run pins s σ H Q I ?_⟩
  obtain ⟨lk, G, ρ, pn, Qd, Qx, S, t, k, xl⟩ := q
  exact ⟨lk, G, ρ, pn, _, Qx, S, t, fun b G1 H1 ρ1 pn1 S1 g1 t1 => k b G H1 ρ pn1 (S.undo S1 g1) g1.undo t1, xl⟩
theorem pd_pk (h : PD X C W e T) : PD X C W e (dPk T) := by
  refine PE.imp h fun σ H Q q => ?_
  obtain ⟨lk, G, ρ, pn, Qd, Qx, S, t, k, xl⟩ := q
  exact ⟨lk, G, ρ, pn, _, Qx, S, t, fun v d G1 H1 ρ1 pn1 S1 g1 dv t1 => k v d G H1 ρ pn1 (S.undo S1 g1) g1.undo (flat_any dv t1.1) t1.2, xl⟩
end
/-! ### defs as the head tells them -/
abbrev cf (K : PySem.W.Frag) (pp : PP) (G H : Hp) : Cfg := ⟨K, pp, pp.p.toList, G, H⟩
/-- the pen's cells stood at the entry -/
def Cfg.pc (C : Cfg) : Prop := ∀ p, C.pp.p = some p → C.H0 C.pp.c ≠ none
theorem pc_of {K : PySem.W.Frag} {pp : PP} {G H : Hp} {pn : Pn} (x : Ex0 K pp pn G H) : (cf K pp G H).pc := fun p e => by
  have P := (x.pen p e).2.2.ce
  show H pp.c ≠ none
  have P' : H pp.c = _ := P
  rw [P']
  simp
section
variable {P : Program} {w : World} {K : PySem.W.Frag} {mg : Str → Option Value} {base : Heap} {qual nm : Str} {params : Arguments} {body : List Stmt} {scope : Scope} {dvs : List V} {kws : List (Str × V)} {f : Addr} {fd : FuncData} {N ps : List Str} {k n : Nat} {T : TDS}
abbrev BX (P : Program) (w : World) (K : PySem.W.Frag) (mg : Str → Option Value) (base : Heap) (N : List Str) (qual : Str) (scope : Scope) (f : Addr) (cdv : Value) (A : Around) (outer : List Env) (s : Shared) (H : Hp) (E : XK) : Cx := cxOf (L2.CX P w) P w K mg base N qual scope f cdv A outer s H E
/-- THE RULE for a def -/
theorem fn_F (F : FunD K nm qual params body scope dvs kws f fd) (S : FnScope N ps scope) (hn : n = ps.length)
    (hb : ∀ (cdv : Value) (A : Around) (outer : List Env) (s : Shared) (H : Hp) (E : XK) (pp : PP) (G0 H0 : Hp), (cf K pp G0 H0).pc → Room k (A.deeper (envOfC qual scope s.heap.objs.size f cdv)) → Takes (BX P w K mg base N qual scope f cdv A outer s H E) (WD E) →
      PDSs (BX P w K mg base N qual scope f cdv A outer s H E) (cf K pp G0 H0) (WD E) body T) : FnOk P w K mg base (L2.CX P w) (k + 1) f fd ps (spD K (bodyD N n T)) := by
  refine F.ok S (fun vs H Q E h => ?_) (fun cdv A outer s H vs Q E hr h => ?_)
  · obtain ⟨pp, G, pn, ds, Qd, Qx, _, l, ⟨z, _⟩, _⟩ := h
    rw [l.length, z, hn]
  · obtain ⟨pp, G, pn, ds, Qd, Qx, x, l, ⟨z, t⟩, k1, k2⟩ := h
    refine ⟨_, hb cdv A outer s H E pp G H (pc_of x) hr (takes_of rfl rfl rfl rfl), ?_⟩
    exact ⟨[], G, startD N ds, pn, _, stR_start x l, t, ⟨fun σ' ρ' pn' G' H' S' _ q => k1 .non .non G' H' pn' S'.forget .non q, (fun _ _ _ _ _ _ _ q => q.elim), (fun _ _ _ _ _ _ _ q => q.elim), fun v d σ' ρ' pn' G' H' S' dv q => k1 v d G' H' pn' S'.forget dv q, fun σ c d fs ds G' H' ρ' pn' S' e1 e2 e3 q => k2 c d fs ds G' H' pn' S'.forget e1 e2 e3 q⟩⟩
/-! ### __init__ -/
abbrev SpI := List D → Pn → (List (Str × D) → Pn → Prop) → (Addr → List (Str × D) → Pn → Prop) → Prop
abbrev cfI (K : PySem.W.Frag) (pp : PP) (x dx : Addr) (G H : Hp) : Cfg := ⟨K, pp, x :: dx :: pp.p.toList, G, H⟩
def spI (K : PySem.W.Frag) (C0 : Addr) (sp : SpI) : Sp := fun vs H Q E => ∃ (x dx : Addr) (us : List V) (pp : PP) (G : Hp) (pn : Pn) (ds : List D) (Qd : List (Str × D) → Pn → Prop) (Qx : Addr → List (Str × D) → Pn → Prop),
  vs = .ref x :: us ∧ H x = some (.ins C0 dx []) ∧ H dx = some (.own x) ∧ G x = none ∧ G dx = none ∧ Ex K pp G H pn G H ∧ DatL K pp G us ds ∧ sp ds pn Qd Qx ∧
  (∀ (fs : List (Str × V)) (dfs : List (Str × D)) (G' H' : Hp) (pn' : Pn), StR (cfI K pp x dx G H) [] [] [] pn' G' H' → H' x = some (.ins C0 dx fs) → H' dx = some (.own x) → fs.map (·.1) = dfs.map (·.1) → DatL K pp G' (fs.map (·.2)) (dfs.map (·.2)) → Qd dfs pn' → Q .non H') ∧
  (∀ (c d : Addr) (fs : List (Str × V)) (ds : List (Str × D)) (G' H' : Hp) (pn' : Pn), StR (cfI K pp x dx G H) [] [] [] pn' G' H' → G' d = some (.xd fs) → fs.map (·.1) = ds.map (·.1) → DatL K pp G' (fs.map (·.2)) (ds.map (·.2)) → Qx c ds pn' → E (.ref c) (some d) H')
def startI (C0 : Addr) (N : List Str) (ds : List D) : SL := .oo C0 [] :: (ds.map SV.fz ++ List.replicate (N.length - 1 - ds.length) .un)
/-- what an __init__'s body promises: at its end the fields that self has -/
def endI (C0 : Addr) (Q : List (Str × D) → Pn → Prop) : SL → Pn → Prop := fun ρ pn => match (ρ[0]? : Option SV) with
  | some (SV.oo C1 fs) => C1 = C0 ∧ Q fs pn
  | _ => False
def bodyI (C0 : Addr) (N : List Str) (n : Nat) (T : TDS) : SpI := fun ds pn Q Xx => ds.length = n ∧ T { nx := endI C0 Q, rt := fun _ _ => False, xd := fun c fs _ pn => Xx c fs pn } (startI C0 N ds) pn
theorem stR_startI {pp : PP} {G H : Hp} {pn : Pn} {C0 x dx : Addr} {us : List V} {ds : List D} (hN : 0 < N.length) (e : Ex K pp G H pn G H) (l : DatL K pp G us ds) (hx : H x = some (.ins C0 dx [])) (hd : H dx = some (.own x)) (hg : G x = none) (hg2 : G dx = none) :
    StR (cfI K pp x dx G H) [] (L2.start N (.ref x :: us)) (startI C0 N ds) pn G H := by
  have hl := l.length
  refine ⟨e.sub, fun _ _ h => h, fun a h => .inl h, fun a o h _ => ⟨.inl h, fun _ => h⟩, fun a h => h, (fun p hp => by cases hp), fun a ha => ?_, fun p hp => ?_, ?_, fun i sv q => ?_, fun i j s t a e1 e2 o1 o2 _ _ => ?_⟩
  · rcases List.mem_cons.mp ha with z | z
    · rw [z]
      exact ⟨hg, by rw [hx]; simp, by show H x ≠ none; rw [hx]; simp⟩
    · rcases List.mem_cons.mp z with z | z
      · rw [z]
        exact ⟨hg2, by rw [hd]; simp, by show H dx ≠ none; rw [hd]; simp⟩
      · exact e.muG a z
  · obtain ⟨z0, z1, z2⟩ := e.pen p hp
    exact ⟨List.mem_cons_of_mem _ (List.mem_cons_of_mem _ z0), z1, z2⟩
  · simp only [startI, L2.start, List.length_cons, List.length_append, List.length_map, List.length_replicate]
    omega
  · cases i with
    | zero =>
      cases q
      exact ⟨x, dx, [], rfl, hx, hd, hg, ⟨_, rfl⟩, rfl, .nil⟩
    | succ i =>
      have q' : (ds.map SV.fz ++ List.replicate (N.length - 1 - ds.length) SV.un)[i]? = some sv := q
      show SlR _ _ _ ((us.map some ++ List.replicate _ none)[i]?) sv
      by_cases hi : i < ds.length
      · rw [List.getElem?_append_left (by simpa using hi), List.getElem?_map, List.getElem?_eq_getElem hi] at q'
        cases q'
        obtain ⟨v, h1, h2⟩ := l.get (i := i) (List.getElem?_eq_getElem hi)
        refine ⟨v, ?_, h2⟩
        rw [List.getElem?_append_left (by rw [List.length_map, hl]; exact hi), List.getElem?_map, h1]
        rfl
      · rw [List.getElem?_append_right (by simpa using hi)] at q'
        obtain ⟨_, e2⟩ := List.getElem?_eq_some_iff.mp q'
        rw [List.getElem_replicate] at e2
        subst e2
        trivial
  · have z : ∀ {m : Nat} {u : SV}, (startI C0 N ds)[m]? = some u → u.own = true → m = 0 := fun {m u} q o => by
      cases m with
      | zero => rfl
      | succ m =>
        exfalso
        have q' : (ds.map SV.fz ++ List.replicate (N.length - 1 - ds.length) SV.un)[m]? = some u := q
        by_cases hi : m < ds.length
        · rw [List.getElem?_append_left (by simpa using hi), List.getElem?_map, List.getElem?_eq_getElem hi] at q'
          cases q'
          cases o
        · rw [List.getElem?_append_right (by simpa using hi)] at q'
          obtain ⟨_, e2⟩ := List.getElem?_eq_some_iff.mp q'
          rw [List.getElem_replicate] at e2
          subst e2
          cases o
    rw [z e1 o1, z e2 o2]
theorem fn_I {C0 : Addr} (F : FunD K nm qual params body scope dvs kws f fd) (S : FnScope N ps scope) (hn : n + 1 = ps.length) (hN : 0 < N.length)
    (hb : ∀ (cdv : Value) (A : Around) (outer : List Env) (s : Shared) (H : Hp) (E : XK) (pp : PP) (x dx : Addr) (G0 H0 : Hp), (cfI K pp x dx G0 H0).pc → Room k (A.deeper (envOfC qual scope s.heap.objs.size f cdv)) → Takes (BX P w K mg base N qual scope f cdv A outer s H E) (WD E) →
      PDSs (BX P w K mg base N qual scope f cdv A outer s H E) (cfI K pp x dx G0 H0) (WD E) body T) : FnOk P w K mg base (L2.CX P w) (k + 1) f fd ps (spI K C0 (bodyI C0 N n T)) := by
  refine F.ok S (fun vs H Q E h => ?_) (fun cdv A outer s H vs Q E hr h => ?_)
  · obtain ⟨x, dx, us, pp, G, pn, ds, Qd, Qx, rfl, _, _, _, _, _, l, ⟨z, _⟩, _⟩ := h
    rw [List.length_cons, l.length, z, hn]
  · obtain ⟨x, dx, us, pp, G, pn, ds, Qd, Qx, rfl, hx, hd, hg, hg2, ex, l, ⟨z, t⟩, k1, k2⟩ := h
    refine ⟨_, hb cdv A outer s H E pp x dx G H (pc_of ex) hr (takes_of rfl rfl rfl rfl), ?_⟩
    refine ⟨[], G, startI C0 N ds, pn, _, stR_startI hN ex l hx hd hg hg2, t, ⟨fun σ' ρ' pn' G' H' S' _ q => ?_, (fun _ _ _ _ _ _ _ q => q.elim), (fun _ _ _ _ _ _ _ q => q.elim), (fun _ _ _ _ _ _ _ _ _ q => q.elim), fun σ c d fs ds G' H' ρ' pn' S' e1 e2 e3 q => k2 c d fs ds G' H' pn' S'.forget e1 e2 e3 q⟩⟩
    have q2 : endI C0 Qd ρ' pn' := q
    clear q
    unfold endI at q2
    cases e0 : ρ'[0]? with
    | none => rw [e0] at q2; exact q2.elim
    | some sv =>
      rw [e0] at q2
      cases sv <;> first | exact q2.elim | skip
      rename_i C1 dfs
      obtain ⟨rfl, q3⟩ := q2
      obtain ⟨a, dx', fs, ea, ha, hd', ga, ⟨r, am⟩, hk, l2⟩ := S'.slot 0 _ e0
      have am' : x :: dx :: pp.p.toList = a :: dx' :: r := am
      simp only [List.cons.injEq] at am'
      obtain ⟨rfl, rfl, _⟩ := am'
      exact k1 fs dfs G' H' pn' S'.forget ha hd' hk l2 q3
/-! ### an instance is made -/
def dMake (C0 : Addr) (sp : SpI) (U : TDA) : TDE := fun ρ pn Q Xx => U ρ pn (fun ds ρ1 pn1 => sp ds pn1 (fun fs pn2 => Q (.obj C0 fs) ρ1 pn2) (fun c fs pn2 => Xx c fs ρ1 pn2)) Xx
/-- the call of a class of the text -/
theorem make_D {X : Cx} {C : Cfg} {W : WX} {σ : L2.St} {lk : Lk} {G1 H1 : Hp} {ρ1 : SL} {pn1 : Pn} {C0 x dx : Addr} {vs : List V} {ds : List D} {sp : SpI} {Qd : QD} {Qx : XD} {Q : VK} (hK : C.K = X.K) (S1 : StR C lk σ ρ1 pn1 G1 H1) (l : DatL C.K C.pp G1 vs ds) (nx : H1 x = none) (nd : H1 dx = none) (ne : dx ≠ x)
    (t : sp ds pn1 (fun fs pn2 => Qd (.obj C0 fs) ρ1 pn2) (fun c fs pn2 => Qx c fs ρ1 pn2))
    (k : ∀ (v : V) (d : D) (G' H' : Hp) (pn' : Pn), Ex C.K C.pp G1 H1 pn' G' H' → Dat C.K C.pp G' v d → Qd d ρ1 pn' → Q v H') (xl : XL C W lk σ Qx) :
    spI X.K C0 sp (.ref x :: vs) (upd (upd H1 dx (.own x)) x (.ins C0 dx [])) (fun v H2 => v = .non ∧ Q (.ref x) H2) (WE W σ) := by
  rw [← hK]
  have xd := S1.exH (o := .own x) nd
  have S2 := S1.step xd
  have nx2 : upd H1 dx (.own x) x = none := by rw [upd_ne ne.symm]; exact nx
  have x2 := S2.exH (o := .ins C0 dx []) nx2
  have ex : Ex C.K C.pp G1 H1 pn1 G1 (upd (upd H1 dx (.own x)) x (.ins C0 dx [])) := xd.trans x2
  have gx : G1 x = none := by
    cases q : G1 x with
    | none => rfl
    | some u => exact absurd nx (S1.sub x u q).live
  have gdx : G1 dx = none := by
    cases q : G1 dx with
    | none => rfl
    | some u => exact absurd nd (S1.sub dx u q).live
  have npx : C.pp.p ≠ some x := fun z => by
    have P := (S1.pen x z).2.2.ob
    rw [P] at nx
    cases nx
  -- from __init__'s frame to the caller's
  have back : ∀ {G' H' : Hp} {pn' : Pn}, StR (cfI C.K C.pp x dx G1 (upd (upd H1 dx (.own x)) x (.ins C0 dx []))) [] [] [] pn' G' H' → Ex C.K C.pp G1 H1 pn' G' H' := fun {G' H' pn'} S' => by
    have live : ∀ a, H1 a ≠ none → upd (upd H1 dx (.own x)) x (.ins C0 dx []) a ≠ none := ex.live
    refine ⟨S'.sub, S'.g0, fun a e => ?_, fun a o e m => ?_, fun a e => S'.live a (live a e), (fun p hp => by cases hp), fun a ha => ?_, fun p hp => ?_, rfl, (fun i sv h => by simp at h), fun i j s t a h => by simp at h⟩
    · rcases S'.new a e with z | z
      · exact .inl z
      · refine .inr ?_
        cases q : H1 a with
        | none => exact q
        | some u => exact absurd z (live a (by rw [q]; simp))
    · have e' : H1 a = some o := e
      have na : a ≠ x := fun z => by rw [z, nx] at e'; cases e'
      have nd' : a ≠ dx := fun z => by rw [z, nd] at e'; cases e'
      obtain ⟨k1, k2⟩ := S'.keep a o (by show upd (upd H1 dx (.own x)) x (.ins C0 dx []) a = some o; rw [upd_ne na, upd_ne nd']; exact e') (fun z => by
        rcases List.mem_cons.mp z with z | z
        · exact na z
        · rcases List.mem_cons.mp z with z | z
          · exact nd' z
          · exact m z)
      exact ⟨k1, k2⟩
    · obtain ⟨z1, z2, z3⟩ := S'.muG a (List.mem_cons_of_mem _ (List.mem_cons_of_mem _ ha))
      exact ⟨z1, z2, (ex.muG a ha).2.2⟩
    · obtain ⟨z0, z1, z2⟩ := S'.pen p hp
      exact ⟨(ex.pen p hp).1, z1, z2⟩
  refine ⟨x, dx, vs, C.pp, G1, pn1, ds, _, _, rfl, upd_same, by rw [upd_ne ne]; exact upd_same, gx, gdx, StR.ex0 (S1.step ex), l, t, fun fs dfs G' H' pn' S' hx hd hk l2 q => ⟨rfl, ?_⟩, fun c d fs ds G' H' pn' S' e1 e2 e3 q => xl c d fs ds G' H' ρ1 pn' (S1.step (back S')) e1 e2 e3 q⟩
  have B := back S'
  have gx' : G' x = none := (S'.muG x List.mem_cons_self).1
  -- the instance, then its dict, are data
  have own0 : ¬ OwnAt ([] : L2.St) ([] : SL) x := fun ⟨i, sv, e, _⟩ => by simp at e
  have F1 := StR.freezeA (C := exC C.K C.pp G1 H1) (lk := []) (σ := []) (ρ := []) B hx gx' nx own0
  have gd' : upd G' x (.ins C0 dx fs) dx = none := by
    rw [upd_ne ne]
    exact (S'.muG dx (List.mem_cons_of_mem _ List.mem_cons_self)).1
  have own1 : ¬ OwnAt ([] : L2.St) ([] : SL) dx := fun ⟨i, sv, e, _⟩ => by simp at e
  have F2 := StR.freezeA (C := exC C.K C.pp G1 H1) (lk := []) (σ := []) (ρ := []) F1 hd gd' nd own1
  have s1 : Same G' (upd G' x (.ins C0 dx fs)) := Same.new gx'
  have s2 : Same (upd G' x (.ins C0 dx fs)) (upd (upd G' x (.ins C0 dx fs)) dx (.own x)) := Same.new gd'
  exact k (.ref x) (.obj C0 dfs) _ H' pn' F2 (.obj (by rw [upd_ne ne.symm]; exact upd_same) upd_same hk (l2.keep (s1.trans s2))) q
end
end Td
end
section
set_option maxRecDepth 100000
set_option maxHeartbeats 4000000
/-! The data layer: own classes' methods, operators, makings; what they raise is wished for at the caller's slots. -/
namespace Td
open PySem PySem.Spec PyProof.Rows L2 Lw
/-- a def reached by values, its promise by data -/
abbrev FR (P : Program) (w : World) (K : PySem.W.Frag) (mg : Str → Option Value) (base : Heap) (k : Nat) (g : Addr) (sp : SpD) : Prop := FnR P w K mg base (L2.CX P w) k g (spD K sp)
theorem fr_of {P : Program} {w : World} {K : PySem.W.Frag} {mg : Str → Option Value} {base : Heap} {k : Nat} {f : Addr} {fd : FuncData} {ps : List Str} {sp : SpD} (F : FnOk P w K mg base (L2.CX P w) k f fd ps (spD K sp)) (b : Binds K fd ps []) : FR P w K mg base k f sp :=
  (F.raw b .nil).imp fun vs H Q E q => by rw [List.append_nil]; exact q
/-- a class's own def under a name -/
structure Ow (K : PySem.W.Frag) (C : Addr) (nm : Str) (g : Addr) : Prop where
  at_ : PySem.W.findIn K (.ref C) nm = some (some (.ref g))
  fn : PySem.W.isFn K (.ref g) = true
  fi : PySem.W.fnIn K g = true
  kp : PySem.W.keepIn K (.ref g) = true
theorem Ow.meth {K : PySem.W.Frag} {C g : Addr} {nm : Str} (o : Ow K C nm g) : Meth K C nm g := ⟨o.at_, o.fn, o.kp⟩
section
variable {X : Cx} {pins : List (Addr × Obj)} {σ : L2.St} {H : Hp} {s : Shared} {a C0 dx g : Addr} {fs : List (Str × V)} {n : Nat}
theorem inst_at (I : Inv X pins σ H s) (e : H a = some (.ins C0 dx fs)) : ∃ ox od, PySem.W.InstAt s.heap a ox C0 (some od) := by
  obtain ⟨mA, O, _⟩ := ins_get I.hok e
  obtain ⟨od, J, _⟩ := O.look
  exact ⟨_, od, J⟩
/-- the callee runs below the running body -/
theorem run_dA_code {A : Around} {Q : VK} {E : XK} {us : List Value} {ws : List V} {sp : Sp} {CX : CXT} (F : FnR X.prog X.w X.K X.mg X.base CX n g sp) (hr : Room n A) (e0 : Env0 X.prog X.w X.K X.mg X.base A X.stack s H) (hx : PassesAt CX X σ E) (I : Inv X pins σ H s) (r : Vals ws us) (h : sp ws H Q E) :
    codeAny (model X.prog X.w) A (.call (.ref g) ⟨us, []⟩) (fun r s' => match r with | .ok (.ret v) => EP X pins σ Q v s' | .ok _ => False | .error e => X.xe e s') s := by
  refine codeAny_mono (F A X.stack s H us ws Q E hr e0 r h) fun r s' hq => ?_
  cases r with
  | error e => exact hx pins H s e s' I hq
  | ok fl =>
    cases fl with
    | ret u => exact I.after hq
    | next => exact False.elim hq
    | brk => exact False.elim hq
    | cont => exact False.elim hq
theorem run_dA {A : Around} {Q : VK} {E : XK} {us : List Value} {ws : List V} {sp : Sp} {CX : CXT} (F : FnR X.prog X.w X.K X.mg X.base CX n g sp) (hr : Room n A) (e0 : Env0 X.prog X.w X.K X.mg X.base A X.stack s H) (hx : PassesAt CX X σ E) (I : Inv X pins σ H s) (r : Vals ws us) (h : sp ws H Q E) :
    wpAny (model X.prog X.w) A (call (.ref g) us) (EP X pins σ Q) X.xe s := wpAny_call (run_dA_code F hr e0 hx I r h)
end
/-! ### a step with data that may raise -/
abbrev RxD := List D → Pn → (D → Pn → Prop) → (Addr → List (Str × D) → Pn → Prop) → Prop
/-- where such a step stands -/
def tDL (C : Cfg) (W : WX) (rD : RxD) (σ : L2.St) : List V → Hp → VK → Prop := fun xs H Q => ∃ (lk : Lk) (G : Hp) (ρ : SL) (pn : Pn) (ds : List D) (Qd : D → Pn → Prop) (Qx : Addr → List (Str × D) → Pn → Prop), StR C lk σ ρ pn G H ∧ DatL C.K C.pp G xs ds ∧ rD ds pn Qd Qx ∧
  (∀ (v : V) (d : D) (G' H' : Hp) (pn' : Pn), Ex C.K C.pp G H pn' G' H' → Dat C.K C.pp G' v d → Qd d pn' → Q v H') ∧
  (∀ (c d : Addr) (fs : List (Str × V)) (ds : List (Str × D)) (G' H' : Hp) (pn' : Pn), Ex C.K C.pp G H pn' G' H' → G' d = some (.xd fs) → fs.map (·.1) = ds.map (·.1) → DatL C.K C.pp G' (fs.map (·.2)) (ds.map (·.2)) → Qx c ds pn' → W (.ref c) (some d) σ H')
theorem tDL.imp {C : Cfg} {W : WX} {rD rD' : RxD} {σ : L2.St} {xs : List V} {H : Hp} {Q : VK} (h : tDL C W rD σ xs H Q) (i : ∀ ds pn Qd Qx, rD ds pn Qd Qx → rD' ds pn Qd Qx) : tDL C W rD' σ xs H Q := by
  obtain ⟨lk, G, ρ, pn, ds, Qd, Qx, S, l, t, k1, k2⟩ := h
  exact ⟨lk, G, ρ, pn, ds, Qd, Qx, S, l, i _ _ _ _ t, k1, k2⟩
theorem tDL.sp {X : Cx} {C : Cfg} {W : WX} {sp : SpD} {σ : L2.St} {xs : List V} {H : Hp} {Q : VK} (hK : C.K = X.K) (h : tDL C W sp σ xs H Q) : spD X.K sp xs H Q (WE W σ) := by
  rw [← hK]
  obtain ⟨lk, G, ρ, pn, ds, Qd, Qx, S, l, t, k1, k2⟩ := h
  exact ⟨C.pp, G, pn, ds, Qd, Qx, S.ex0, l, t, k1, k2⟩
/-- values, then a step -/
def dStep (rD : RxD) (U : TDA) : TDE := fun ρ pn Q X => U ρ pn (fun ds ρ1 pn1 => rD ds pn1 (fun z pn2 => Q z ρ1 pn2) (fun c fs pn2 => X c fs ρ1 pn2)) X
theorem step_of {C : Cfg} {W : WX} {rD : RxD} {U : TDA} {σ : L2.St} {H : Hp} {Q : VK} (q : tD C W (dStep rD U) σ H Q) : tA C W U σ H fun vs H1 => tDL C W rD σ vs H1 Q := by
  obtain ⟨lk, G, ρ, pn, Qd, Qx, S, t, k, xl⟩ := q
  refine ⟨lk, G, ρ, pn, _, Qx, S, t, fun xs ds G1 H1 ρ1 pn1 S1 s1 dx t1 => ?_, xl⟩
  exact ⟨lk, G1, ρ1, pn1, ds, _, _, S1, dx, t1, fun v d G' H' pn' E dz qz => k v d G' H' ρ1 pn' (S1.step E) (s1.trans (.ex E)) dz qz, fun c d fs ds' G' H' pn' E e1 e2 e3 q => xl c d fs ds' G' H' ρ1 pn' (S1.step E) e1 e2 e3 q⟩
def dOne (T : TDE) : TDA := fun ρ pn Q X => T ρ pn (fun d => Q [d]) X
def dTwo (T U : TDE) : TDA := fun ρ pn Q X => T ρ pn (fun d ρ1 pn1 => U ρ1 pn1 (fun e => Q [d, e]) X) X
theorem one_of {C : Cfg} {W : WX} {T : TDE} {σ : L2.St} {H : Hp} {Q : List V → Hp → Prop} (q : tA C W (dOne T) σ H Q) : tD C W T σ H fun x H1 => Q [x] H1 := by
  obtain ⟨lk, G, ρ, pn, Qd, Qx, S, t, k, xl⟩ := q
  exact ⟨lk, G, ρ, pn, _, Qx, S, t, fun x d G1 H1 ρ1 pn1 S1 s1 dx t1 => k [x] [d] G1 H1 ρ1 pn1 S1 s1 (.cons dx .nil) t1, xl⟩
theorem two_of {C : Cfg} {W : WX} {T U : TDE} {σ : L2.St} {H : Hp} {Q : List V → Hp → Prop} (q : tA C W (dTwo T U) σ H Q) : tD C W T σ H fun x H1 => tD C W U σ H1 fun y H2 => Q [x, y] H2 := by
  obtain ⟨lk, G, ρ, pn, Qd, Qx, S, t, k, xl⟩ := q
  refine ⟨lk, G, ρ, pn, _, Qx, S, t, fun x d G1 H1 ρ1 pn1 S1 s1 dx t1 => ⟨lk, G1, ρ1, pn1, _, Qx, S1, t1, fun y e G2 H2 ρ2 pn2 S2 s2 dy t2 => ?_, xl⟩, xl⟩
  exact k [x, y] [d, e] G2 H2 ρ2 pn2 S2 (s1.trans s2) (.cons (dx.keep s2.same) (.cons dy .nil)) t2
/-- an operation of two values, a call of a row of values, at known slots -/
def OpS (X : Cx) (f : Value → Value → Sem Value) (r : L2.St → List V → Hp → VK → Prop) : Prop :=
  ∀ (pins : List (Addr × Obj)) (s : Shared) (σ : L2.St) (H : Hp) (x y : V) (v u : Value) (Q : VK), Inv X pins σ H s → RelV x v → RelV y u → r σ [x, y] H Q → wpAny (model X.prog X.w) X.A (f v u) (EP X pins σ Q) X.xe s
def CallS (X : Cx) (f : Value) (r : L2.St → List V → Hp → VK → Prop) : Prop :=
  ∀ (pins : List (Addr × Obj)) (s : Shared) (σ : L2.St) (H : Hp) (xs : List V) (us : List Value) (Q : VK), Inv X pins σ H s → Vals xs us → r σ xs H Q → wpAny (model X.prog X.w) X.A (call f us) (EP X pins σ Q) X.xe s
section
variable {X : Cx} {C : Cfg} {W : WX} {a b c e o : Expr} {es : List Expr} {pos p apos cpos : Pos} {Ta Tb Tc T U : TDE} {Ts : TDA} {rD : RxD}
theorem pd_opS {op : Operator} (ho : OpS X (binaryOp op) (tDL C W rD)) (ha : PD X C W a Ta) (hb : PD X C W b Tb) : PD X C W (.BinOp a op b pos) (dStep rD (dTwo Ta Tb)) := by
  refine ⟨fun pins s σ H Q I h => ?_⟩
  exact wpAny_BinOp (binT ha hb I (R := fun x y H2 => tDL C W rD σ [x, y] H2 Q) (two_of (step_of h)) fun v u s2 x y H2 I2 rx ry q => ho pins s2 σ H2 x y v u Q I2 rx ry q)
theorem pd_cmpS {op : CmpOp} (ho : OpS X (compareOp op) (tDL C W rD)) (ha : PD X C W a Ta) (hb : PD X C W b Tb) (hm : behindInMarks op b = false) : PD X C W (.Compare a [op] [b] pos) (dStep rD (dTwo Ta Tb)) := by
  refine ⟨fun pins s σ H Q I h => ?_⟩
  exact wpAny_Compare1 (binT ha hb I (R := fun x y H2 => tDL C W rD σ [x, y] H2 Q) (two_of (step_of h)) fun v u s2 x y H2 I2 rx ry q => ho pins s2 σ H2 x y v u Q I2 rx ry q) hm
theorem pdt_cmpS {op : CmpOp} (ho : OpS X (compareOp op) (tDL C W rD)) (ha : PD X C W a Ta) (hb : PD X C W b Tb) (hm : behindInMarks op b = false) : PDT X C W (.Compare a [op] [b] pos) (dTst (dStep rD (dTwo Ta Tb))) := by
  refine ⟨fun pins s σ H Q I h => ?_⟩
  have h2 : tD C W (dStep rD (dTwo Ta Tb)) σ H fun x H' => ∃ k, x = .bl k ∧ Q k H' := by
    obtain ⟨lk, G, ρ, pn, Qd, Qx, S, t, k, xl⟩ := h
    refine ⟨lk, G, ρ, pn, _, Qx, S, t, fun x d G1 H1 ρ1 pn1 S1 s1 dx t1 => ?_, xl⟩
    cases dx <;> first | exact False.elim t1 | exact ⟨_, rfl, k _ G1 H1 ρ1 pn1 S1 s1 t1⟩
  refine wpAny_isTrue_Compare1 (thn (ha.run pins s σ H _ I (two_of (step_of h2))) fun v s1 ⟨x, H1, I1, r1, q1⟩ => thn (hb.run pins s1 σ H1 _ I1 q1) fun u s2 ⟨y, H2, I2, r2, q2⟩ =>
    thn (ho pins s2 σ H2 x y v u _ I2 r1 r2 q2) fun c s3 ⟨z, H3, I3, r3, k, e, q3⟩ => ?_) hm
  subst e
  cases r3
  exact wpAny_truthy_bool ⟨H3, I3, q3⟩
theorem pd_callBS {x : Str} {id : String} (hc : CallS X (.builtin id) (tDL C W rD)) (hg : Gl X x) (hm : X.mg x = none) (hv : bootBuiltins x = some (.builtin id)) (ha : PDA X C W (e :: es) Ts) (hn : x ≠ "__name__" := by decide) (hdb : (x == ("__debug__" : Str)) = false := by decide)
    (he : starEach (e :: es) X.env = (false, eval e X.env) :: starEach es X.env := by rfl) (hpl : (backTo pos (starEach es X.env)).any (·.1) = false := by rfl) : PD X C W (.Call (.Name x p) (e :: es) [] pos) (dStep rD Ts) := by
  refine ⟨fun pins s σ H Q I h => ?_⟩
  refine wpAny_Call_Name_kw (ld_blt I hg hm hv ?_ hn hdb)
  exact PyProof.Rows.callWith_builtin1 (thn (ha.run pos pins s σ H _ I (step_of h)) fun us s1 ⟨vs, H1, I1, r1, q1⟩ => hc pins s1 σ H1 vs us Q I1 r1 q1) he hpl
theorem pd_callTyS {x : Str} {T : String} (hc : CallS X (.type T) (tDL C W rD)) (hg : Gl X x) (hm : X.mg x = none) (hv : bootBuiltins x = some (.type T)) (ha : PDA X C W (e :: es) Ts) (hn : x ≠ "__name__" := by decide) (hdb : (x == ("__debug__" : Str)) = false := by decide)
    (he : starEach (e :: es) X.env = (false, eval e X.env) :: starEach es X.env := by rfl) (hpl : (backTo pos (starEach es X.env)).any (·.1) = false := by rfl) : PD X C W (.Call (.Name x p) (e :: es) [] pos) (dStep rD Ts) := by
  refine ⟨fun pins s σ H Q I h => ?_⟩
  refine wpAny_Call_Name_kw (ld_blt I hg hm hv ?_ hn hdb)
  exact PyProof.Rows.callWith_type1 (thn (ha.run pos pins s σ H _ I (step_of h)) fun us s1 ⟨vs, H1, I1, r1, q1⟩ => hc pins s1 σ H1 vs us Q I1 r1 q1) he hpl
/-- either reading -/
theorem pd_or2 (h1 : PD X C W e T) (h2 : PD X C W e U) : PD X C W e (fun ρ pn Q Xx => T ρ pn Q Xx ∨ U ρ pn Q Xx) := by
  refine ⟨fun pins s σ H Q I q => ?_⟩
  obtain ⟨lk, G, ρ, pn, Qd, Qx, S, t, k, xl⟩ := q
  rcases t with t | t
  · exact h1.run pins s σ H Q I ⟨lk, G, ρ, pn, Qd, Qx, S, t, k, xl⟩
  · exact h2.run pins s σ H Q I ⟨lk, G, ρ, pn, Qd, Qx, S, t, k, xl⟩
theorem pdt_or2 {B B' : TDT} (h1 : PDT X C W e B) (h2 : PDT X C W e B') : PDT X C W e (fun ρ pn Q Xx => B ρ pn Q Xx ∨ B' ρ pn Q Xx) := by
  refine ⟨fun pins s σ H Q I q => ?_⟩
  obtain ⟨lk, G, ρ, pn, Qd, Qx, S, t, k, xl⟩ := q
  rcases t with t | t
  · exact h1.run pins s σ H Q I ⟨lk, G, ρ, pn, Qd, Qx, S, t, k, xl⟩
  · exact h2.run pins s σ H Q I ⟨lk, G, ρ, pn, Qd, Qx, S, t, k, xl⟩
end
/-! ### own operators -/
/-- the first value is an instance of the class at C; its def's promise -/
def rdOwn (C : Addr) (side : D → Prop) (sp : SpD) : RxD := fun ds pn Q Xx => ∃ fs e, ds = [.obj C fs, e] ∧ side e ∧ sp [.obj C fs, e] pn Q Xx
theorem own_obj {C : Cfg} {lk : Lk} {σ : L2.St} {ρ : SL} {pn : Pn} {G H : Hp} {x : V} {C0 : Addr} {fs : List (Str × D)} (S : StR C lk σ ρ pn G H) (d : Dat C.K C.pp G x (.obj C0 fs)) : ∃ a dx vs, x = .ref a ∧ H a = some (.ins C0 dx vs) ∧ vs.map (·.1) = fs.map (·.1) := by
  cases d with
  | obj h h2 e l => exact ⟨_, _, _, rfl, (S.sub _ _ h).ex (fun _ z => by cases z), e⟩
/-- a type that needs no class of the text -/
def D.tyn : D → Option String
  | .non => some "NoneType"
  | .bl _ => some "bool"
  | .int _ => some "int"
  | .str _ => some "str"
  | .tup _ => some "tuple"
  | .lst _ => some "list"
  | .dic _ => some "dict"
  | _ => none
section
variable {X : Cx} {C : Cfg} {W : WX} {C0 g : Addr} {n : Nat} {sp : SpD}
theorem tyn_looks {pins : List (Addr × Obj)} {lk : Lk} {σ : L2.St} {ρ : SL} {pn : Pn} {G H : Hp} {s : Shared} {y : V} {u : Value} {e : D} {T : String} {M : Model} (I : Inv X pins σ H s) (S : StR C lk σ ρ pn G H) (d : Dat C.K C.pp G y e) (t : e.tyn = some T) (ry : RelV y u) :
    PySem.W.Looks M s.heap (typeOf u) (.type T) := by
  have at_ : ∀ {a : Addr} {o : Obj} {T : String}, s.heap.get? a = some o → o.cls = .type T → PySem.W.Looks M s.heap (typeOf (.ref a)) (.type T) := fun {a o T} e c A Q E s' k q => wpAny_typeOf_ref (k _ _ e) (by rw [c]; exact q)
  cases d <;> first | (cases t; done) | cases t
  · cases (show u = Value.none from ry); exact PySem.W.Looks.of_pure rfl
  · cases (show u = Value.bool _ from ry); exact PySem.W.Looks.of_pure rfl
  · obtain ⟨t', q⟩ := (show ∃ t, u = Value.int _ t from ry); cases q; exact PySem.W.Looks.of_pure rfl
  · obtain ⟨t', q⟩ := (show ∃ t, u = Value.str _ t from ry); cases q; exact PySem.W.Looks.of_pure rfl
  · rename_i a xs ds ha l
    cases (show u = Value.ref a from ry)
    obtain ⟨_, _, _, o, h1, h2, _⟩ := (show ObjOk X.prog X.w H s.heap a (.tup xs) from I.hok a _ ((S.sub _ _ ha).ex fun _ z => by cases z))
    exact at_ h1 h2
  · rename_i a xs ds ha l
    cases (show u = Value.ref a from ry)
    obtain ⟨_, _, n, _, h1⟩ := (show ObjOk X.prog X.w H s.heap a (.lst xs) from I.hok a _ ((S.sub _ _ ha).ex fun _ z => by cases z))
    exact at_ h1 rfl
  · rename_i a kvs ds ha _ l
    cases (show u = Value.ref a from ry)
    rcases (S.sub _ _ ha).rd with q | ⟨ob, q⟩
    · obtain ⟨_, _, vs, _, o, es, ep, h1, h2, _⟩ := (show ObjOk X.prog X.w H s.heap a (.dK kvs) from I.hok a _ q)
      exact at_ h1 h2.1
    · obtain ⟨_, _, _, vs, _, o, es, ep, h1, h2, _⟩ := (show ObjOk X.prog X.w H s.heap a (.frz ob (.dK kvs)) from I.hok a _ q)
      exact at_ h1 h2.1
theorem cls_looks {pins : List (Addr × Obj)} {lk : Lk} {σ : L2.St} {ρ : SL} {pn : Pn} {G H : Hp} {s : Shared} {y : V} {u : Value} {C1 : Addr} {fs : List (Str × D)} {M : Model} (I : Inv X pins σ H s) (S : StR C lk σ ρ pn G H) (d : Dat C.K C.pp G y (.obj C1 fs)) (ry : RelV y u) :
    PySem.W.Looks M s.heap (typeOf u) (.ref C1) := by
  obtain ⟨a, dx, vs, rfl, ea, _⟩ := own_obj S d
  cases (show u = Value.ref a from ry)
  obtain ⟨ox, od, J⟩ := inst_at I ea
  exact J.type
/-- what `op` asks of the second value: the type is not first -/
def sideC (K : PySem.W.Frag) (C0 : Addr) : D → Prop := fun e => (∃ T, e.tyn = some T ∧ PySem.W.notFirst K C0 (.type T) = true) ∨ (∃ C1 fs, e = .obj C1 fs ∧ PySem.W.notFirst K C0 (.ref C1) = true)
theorem sp_back {Q : VK} {pins : List (Addr × Obj)} {σ : L2.St} {v : Value} {s' : Shared} (h : EP X pins σ Q v s') : PySem.W.CmpBack (EP X pins σ Q) v s' := by
  obtain ⟨z, H', I', rz, q⟩ := h
  exact SlX.cmpback rz ⟨z, H', I', rz, q⟩
/-- x op y: an own comparison -/
theorem op_own {op : CmpOp} (hK : C.K = X.K) (hop : ∀ a b, compareOp op a b = richCompare op a b) (o : Ow X.K C0 (cmpInfo op).2.1 g) (F : FR X.prog X.w X.K X.mg X.base n g sp) (hr : Room n X.A) (hx : ∀ σ, PassesAt (L2.CX X.prog X.w) X σ (WE W σ)) :
    OpS X (compareOp op) (tDL C W (rdOwn C0 (sideC X.K C0) sp)) := by
  intro pins s σ H x y v u Q I rx ry h
  have hsp : spD X.K sp [x, y] H Q (WE W σ) := tDL.sp hK (h.imp fun ds pn Qd Qx ⟨fs, e, ed, _, q⟩ => by rw [ed]; exact q)
  obtain ⟨lk, G, ρ, pn, ds, Qd, Qx, S, l, ⟨fs, e, rfl, sd, q⟩, k1, k2⟩ := h
  cases l with
  | cons dx l =>
    cases l with
    | cons dy l =>
      obtain ⟨a, ddx, vs, rfl, ea, _⟩ := own_obj S dx
      cases (show v = Value.ref a from rx)
      obtain ⟨ox, od, J⟩ := inst_at I ea
      obtain ⟨m, hF⟩ := I.fr
      rw [hop]
      have fin : wpAny (model X.prog X.w) X.A (call (.ref g) [.ref a, u]) (PySem.W.CmpBack (EP X pins σ Q)) X.xe s :=
        wpAny_mono (run_dA F hr I.env0 (hx σ) I (.cons rx (.cons ry .nil)) hsp) (fun w s' z => sp_back z) fun _ _ x => x
      rcases sd with ⟨T, e1, e2⟩ | ⟨C1, fs1, e1, e2⟩
      · exact PySem.W.cmp_K (op := op) hr.units0 hF I.ok.mod.kin J (tyn_looks I S dy e1 ry) e2 o.at_ o.fn fin
      · subst e1
        exact PySem.W.cmp_K (op := op) hr.units0 hF I.ok.mod.kin J (cls_looks I S dy ry) e2 o.at_ o.fn fin
/-- x in y, y's own __contains__ -/
def rdIn (C : Addr) (neg : Bool) (sp : SpD) : RxD := fun ds pn Q Xx => ∃ fs e, ds = [e, .obj C fs] ∧ sp [.obj C fs, e] pn (fun z pn' => ∃ b, z = .bl b ∧ Q (.bl (b != neg)) pn') Xx
theorem op_inOwn {op : CmpOp} {neg : Bool} (hop : (op = .In ∧ neg = false) ∨ (op = .NotIn ∧ neg = true)) (hK : C.K = X.K) (o : Ow X.K C0 "__contains__" g) (F : FR X.prog X.w X.K X.mg X.base n g sp) (hr : Room n X.A) (hx : ∀ σ, PassesAt (L2.CX X.prog X.w) X σ (WE W σ)) :
    OpS X (compareOp op) (tDL C W (rdIn C0 neg sp)) := by
  intro pins s σ H x y v u Q I rx ry h
  have hsp : spD X.K sp [y, x] H (fun z H' => ∃ b, z = .bl b ∧ Q (.bl (b != neg)) H') (WE W σ) := by
    rw [← hK]
    obtain ⟨lk, G, ρ, pn, ds, Qd, Qx, S, l, ⟨fs, e, rfl, q⟩, k1, k2⟩ := h
    cases l with
    | cons dx l =>
      cases l with
      | cons dy l =>
        cases l
        exact ⟨C.pp, G, pn, _, _, Qx, S.ex0, .cons dy (.cons dx .nil), q, fun v d G' H' pn' E dz ⟨b, e, qz⟩ => by
          subst e
          cases dz
          exact ⟨b, rfl, k1 _ _ G' H' pn' E (.bl _) qz⟩, k2⟩
  obtain ⟨lk, G, ρ, pn, ds, Qd, Qx, S, l, ⟨fs, e, rfl, q⟩, k1, k2⟩ := h
  cases l with
  | cons dx l =>
    cases l with
    | cons dy l =>
      obtain ⟨a, ddx, vs, rfl, ea, _⟩ := own_obj S dy
      cases (show u = Value.ref a from ry)
      obtain ⟨ox, od, J⟩ := inst_at I ea
      obtain ⟨m, hF⟩ := I.fr
      have run := run_dA F hr I.env0 (hx σ) I (.cons ry (.cons rx .nil)) hsp
      rcases hop with ⟨rfl, rfl⟩ | ⟨rfl, rfl⟩
      · refine PySem.W.in_K hF I.ok.mod.kin J o.at_ o.fn (wpAny_mono run (fun w s' z => ?_) fun _ _ x => x)
        obtain ⟨z', H', I', rz, b, ez, qz⟩ := z
        subst ez
        cases rz
        exact wpAny_truthy_bool ⟨.bl b, H', I', rfl, by simpa using qz⟩
      · refine PySem.W.notIn_K hF I.ok.mod.kin J o.at_ o.fn (wpAny_mono run (fun w s' z => ?_) fun _ _ x => x)
        obtain ⟨z', H', I', rz, b, ez, qz⟩ := z
        subst ez
        cases rz
        exact wpAny_truthy_bool ⟨.bl (!b), H', I', rfl, by simpa using qz⟩
/-- what a binary operator asks of a second value of another type -/
structure BinT (K : PySem.W.Frag) (C0 : Addr) (op : Operator) (T : String) : Prop where
  rc : ∃ rc : Option Value, PySem.W.findIn K (.ref C0) (dunderR op.info.2) = some rc ∧ (rc = none ∨ ∃ g : Addr, rc = some (.ref g))
  fo : ∃ fo : Option Value, PySem.W.findIn K (.type T) (PySem.dunder op.info.2) = some fo
  ro : ∃ ro : Option Value, PySem.W.findIn K (.type T) (dunderR op.info.2) = some ro
  sub : PySem.W.subIn K (.type T) (.ref C0) = some false
/-- a type that a value bears without the heap -/
def D.typ0 : D → Option String
  | .non => some "NoneType"
  | .bl _ => some "bool"
  | .int _ => some "int"
  | .str _ => some "str"
  | _ => none
def sideB (K : PySem.W.Frag) (C0 : Addr) (op : Operator) : D → Prop := fun e => (∃ T, e.typ0 = some T ∧ BinT K C0 op T) ∨ ∃ fs, e = .obj C0 fs
theorem op_ownB {op : Operator} (hK : C.K = X.K) (sf : PySem.W.selfFirst X.K C0 = true) (o : Ow X.K C0 (PySem.dunder op.info.2) g) (F : FR X.prog X.w X.K X.mg X.base n g sp) (hr : Room n X.A) (hx : ∀ σ, PassesAt (L2.CX X.prog X.w) X σ (WE W σ)) :
    OpS X (binaryOp op) (tDL C W (rdOwn C0 (sideB X.K C0 op) sp)) := by
  intro pins s σ H x y v u Q I rx ry h
  have hsp : spD X.K sp [x, y] H Q (WE W σ) := tDL.sp hK (h.imp fun ds pn Qd Qx ⟨fs, e, ed, _, q⟩ => by rw [ed]; exact q)
  obtain ⟨lk, G, ρ, pn, ds, Qd, Qx, S, l, ⟨fs, e, rfl, sd, q⟩, k1, k2⟩ := h
  cases l with
  | cons dx l =>
    cases l with
    | cons dy l =>
      obtain ⟨a, ddx, vs, rfl, ea, _⟩ := own_obj S dx
      cases (show v = Value.ref a from rx)
      obtain ⟨ox, od, J⟩ := inst_at I ea
      obtain ⟨m, hF⟩ := I.fr
      have fin : wpAny (model X.prog X.w) X.A (call (.ref g) [.ref a, u]) (PySem.W.CmpBack (EP X pins σ Q)) X.xe s :=
        wpAny_mono (run_dA F hr I.env0 (hx σ) I (.cons rx (.cons ry .nil)) hsp) (fun w s' z => sp_back z) fun _ _ x => x
      rcases sd with ⟨T, e1, B⟩ | ⟨fs1, e1⟩
      · obtain ⟨rc, hrc, hp⟩ := B.rc
        obtain ⟨fo, hfo⟩ := B.fo
        obtain ⟨ro, hro⟩ := B.ro
        have ty : typeOf u = pure (.type T) := by
          cases dy <;> first | (cases e1; done) | cases e1
          · cases (show u = Value.none from ry); rfl
          · cases (show u = Value.bool _ from ry); rfl
          · obtain ⟨t', q⟩ := (show ∃ t, u = Value.int _ t from ry); cases q; rfl
          · obtain ⟨t', q⟩ := (show ∃ t, u = Value.str _ t from ry); cases q; rfl
        exact PySem.W.ksp_binT hF I.ok.mod.kin J ty sf o.at_ o.fn hrc hp hfo hro B.sub fin
      · subst e1
        exact PySem.W.binop_K hF I.ok.mod.kin J (cls_looks I S dy ry) sf o.at_ o.fn fin
/-- len(x) -/
def rdLen (C : Addr) (sp : SpD) : RxD := fun ds pn Q Xx => ∃ fs, ds = [.obj C fs] ∧ sp [.obj C fs] pn (fun z pn' => ∃ i : Int, z = .int i ∧ 0 ≤ i ∧ i < 2 ^ 63 ∧ Q (.int i) pn') Xx
theorem call_lenOwn (hK : C.K = X.K) (o : Ow X.K C0 "__len__" g) (F : FR X.prog X.w X.K X.mg X.base n g sp) (hr : Room (n + 1) X.A) (hx : ∀ σ, PassesAt (L2.CX X.prog X.w) X σ (WE W σ)) : CallS X (.builtin "len") (tDL C W (rdLen C0 sp)) := by
  intro pins s σ H xs us Q I r h
  have hsp : spD X.K sp xs H (fun z H' => ∃ i : Int, z = .int i ∧ 0 ≤ i ∧ i < 2 ^ 63 ∧ Q (.int i) H') (WE W σ) := by
    rw [← hK]
    obtain ⟨lk, G, ρ, pn, ds, Qd, Qx, S, l, ⟨fs, rfl, q⟩, k1, k2⟩ := h
    exact ⟨C.pp, G, pn, _, _, Qx, S.ex0, l, q, fun v d G' H' pn' E dz ⟨b, e, z1, z2, qz⟩ => by
      subst e
      cases dz
      exact ⟨b, rfl, z1, z2, k1 _ _ G' H' pn' E (.int _) qz⟩, k2⟩
  obtain ⟨lk, G, ρ, pn, ds, Qd, Qx, S, l, ⟨fs, rfl, q⟩, k1, k2⟩ := h
  cases l with
  | cons dx l =>
    cases l
    obtain ⟨a, ddx, vs, rfl, ea, _⟩ := own_obj S dx
    obtain ⟨u, rfl, rx⟩ := r.one
    cases (show u = Value.ref a from rx)
    obtain ⟨ox, od, J⟩ := inst_at I ea
    obtain ⟨m, hF⟩ := I.fr
    refine PySem.W.len_K hF I.ok.mod.kin J o.at_ o.fn (wpAny_mono (run_dA F hr.in1 I.env0.in1 (hx σ) I r hsp) (fun w s' z => ?_) fun _ _ x => x)
    obtain ⟨z', H', I', rz, i, ez, z1, z2, qz⟩ := z
    subst ez
    obtain ⟨t, e⟩ := (show ∃ t, w = Value.int i t from rz)
    cases e
    exact ⟨⟨z1, z2⟩, .int i, H', I'.tok _, ⟨_, rfl⟩, qz⟩
/-- str(x) -/
def rdStr (C : Addr) (sp : SpD) : RxD := fun ds pn Q Xx => ∃ fs, ds = [.obj C fs] ∧ sp [.obj C fs] pn (fun z pn' => ∃ x : Str, z = .str x ∧ Q (.str x) pn') Xx
theorem call_strOwn (hK : C.K = X.K) (o : Ow X.K C0 "__str__" g) (F : FR X.prog X.w X.K X.mg X.base n g sp) (hr : Room (n + 2) X.A) (hx : ∀ σ, PassesAt (L2.CX X.prog X.w) X σ (WE W σ)) : CallS X (.type "str") (tDL C W (rdStr C0 sp)) := by
  intro pins s σ H xs us Q I r h
  have hsp : spD X.K sp xs H (fun z H' => ∃ x : Str, z = .str x ∧ Q (.str x) H') (WE W σ) := by
    rw [← hK]
    obtain ⟨lk, G, ρ, pn, ds, Qd, Qx, S, l, ⟨fs, rfl, q⟩, k1, k2⟩ := h
    exact ⟨C.pp, G, pn, _, _, Qx, S.ex0, l, q, fun v d G' H' pn' E dz ⟨b, e, qz⟩ => by
      subst e
      cases dz
      exact ⟨b, rfl, k1 _ _ G' H' pn' E (.str _) qz⟩, k2⟩
  obtain ⟨lk, G, ρ, pn, ds, Qd, Qx, S, l, ⟨fs, rfl, q⟩, k1, k2⟩ := h
  cases l with
  | cons dx l =>
    cases l
    obtain ⟨a, ddx, vs, rfl, ea, _⟩ := own_obj S dx
    obtain ⟨u, rfl, rx⟩ := r.one
    cases (show u = Value.ref a from rx)
    obtain ⟨ox, od, J⟩ := inst_at I ea
    have hr1 : Room (n + 1) X.A.in1 := Room.in1 hr
    refine PySem.W.kso_call hr1.in1.units0 I.kIn J o.at_ o.fn (wpAny_mono (run_dA F hr1.in1 I.env0.in1.in1 (hx σ) I r hsp) (fun w s' z => ?_) fun _ _ x => x)
    obtain ⟨z', H', I', rz, x, ez, qz⟩ := z
    subst ez
    obtain ⟨t, e⟩ := (show ∃ t, w = Value.str x t from rz)
    cases e
    exact ⟨.str x, H', I', ⟨_, rfl⟩, qz⟩
end
end Td
end
section
set_option maxRecDepth 100000
set_option maxHeartbeats 4000000
/-! The data layer: own truth, own subscripts, own __init__'s fields, makings, methods, class and static methods. -/
namespace Tl
open PySem PySem.Calls PyProof.Rows Builtin PySem.W
section
variable {prog : Program} {w : World} {A : Around} {E : Value → Shared → Prop} {s : Shared} {K : Frag} {x C L f : Addr} {h₀ : Heap} {m : Str → Option Value} {ox : Obj} {od : Option Obj}
/-- the truth of an own instance by its own length -/
theorem truthy_KL {Q : Bool → Shared → Prop} (F : Fr h₀ L s.heap m) (X₀ : K.In h₀) (I : InstAt s.heap x ox C od) (hb : findIn K (.ref C) "__bool__" = some none) (hs : findIn K (.ref C) "__len__" = some (some (.ref f))) (hf : isFn K (.ref f) = true)
    (h : wpAny (model prog w) A.in1 (call (.ref f) [.ref x]) (PySem.W.LenBack fun v s' => ∃ i t, v = .int i t ∧ Q (i != 0) s') E s) : wpAny (model prog w) A (truthy (.ref x)) Q E s := by
  have X := X₀.keeps F.keep
  unfold truthy
  refine wpAny_bind (m := callSpecial? (.ref x) (Str.ofString "__bool__")) (wpAny_bind (wpAny_bind (I.type.here ((looks_findIn X hb).here (wpAny_pure ?_)))))
  refine wpAny_bind (wpAny_bind (I.type.here ((looks_findIn X hs).here ?_)))
  refine wpAny_bind (wpAny_runValue (codeAny_builtin entry_len ?_))
  unfold Builtin.«len»
  refine wpAny_bind (m := oneArg "len" _) (wpAny_pure ?_)
  refine wpAny_bind (m := callSpecial? (.ref x) (Str.ofString "__len__")) (special_fn X I hs (beq_iff_eq.mp hf) (wpAny_mono h (fun r s' hr => ?_) fun _ _ y => y))
  cases r <;> first | exact hr.elim | skip
  rename_i n u
  obtain ⟨⟨h0, h1⟩, hq⟩ := hr
  refine wpAny_bind (wpAny_holding (wpAny_pure ?_))
  refine wpAny_bind (wpAny_letGo ?_)
  show wpAny _ _ (if n < 0 then _ else _) _ _ _
  rw [if_neg (by omega)]
  show wpAny _ _ (if n ≥ 2 ^ 63 then _ else _) _ _ _
  rw [if_neg (by omega)]
  refine wpAny_bind (wpAny_mkInt (wpAny_pure ?_))
  obtain ⟨i, t, e, q⟩ := hq
  cases e
  exact wpAny_pure q
end
end Tl
namespace Td
open PySem PySem.Spec PyProof.Rows L2 Lw
section
variable {C : Cfg} {lk : Lk} {σ : L2.St} {ρ : SL} {pn : Pn} {G H : Hp}
/-- what __init__ is making may change -/
theorem StR.updM (S : StR C lk σ ρ pn G H) {a : Addr} {o o' : HO} (h : H a = some o) (am : a ∈ C.mu) (np : C.pp.p ≠ some a) (no : ∀ i, o ≠ .own i) (nw : ¬ OwnAt σ ρ a) (nc : C.pp.p ≠ none → a ≠ C.pp.c) : StR C lk σ ρ pn G (upd H a o') := by
  have g := (S.muG a am).1
  have ne : ∀ {b : Addr} {u : HO}, G b = some u → b ≠ a := fun e z => by rw [z, g] at e; cases e
  refine ⟨fun b u e => ?_, S.g0, S.new, fun b u e m => ?_, fun b e => ?_, fun p hp => ?_, fun b hb => ?_, fun p hp => ?_, S.len, fun i sv e => ?_, S.apart⟩
  · have nb := ne e
    refine (S.sub b u e).elim (fun q => .inl (by rw [upd_ne nb]; exact q)) fun ⟨k, r⟩ => .inr ⟨k, ?_⟩
    exact r.elim (fun r => .inl (by rw [upd_ne nb]; exact r)) fun ⟨w, r⟩ => .inr ⟨w, by rw [upd_ne nb]; exact r⟩
  · have nb : b ≠ a := fun z => m (by rw [z]; exact am)
    obtain ⟨k1, k2⟩ := S.keep b u e m
    exact ⟨k1.elim (fun r => .inl (by rw [upd_ne nb]; exact r)) fun ⟨w, r⟩ => .inr ⟨w, by rw [upd_ne nb]; exact r⟩, fun l => by rw [upd_ne nb]; exact k2 l⟩
  · by_cases nb : b = a
    · rw [nb, upd_same]
      simp
    · rw [upd_ne nb]
      exact S.live b e
  · obtain ⟨z1, z2, z3⟩ := S.lkG p hp
    exact ⟨z1, by rw [upd_ne (ne z1)]; exact z2, z3⟩
  · obtain ⟨z1, z2, z3⟩ := S.muG b hb
    refine ⟨z1, ?_, z3⟩
    by_cases nb : b = a
    · rw [nb, upd_same]
      simp
    · rw [upd_ne nb]
      exact z2
  · obtain ⟨z0, z1, P⟩ := S.pen p hp
    have n1 : p ≠ a := fun z => np (by rw [← z]; exact hp)
    exact ⟨z0, z1, ⟨by rw [upd_ne n1]; exact P.ob, by rw [upd_ne (nc (by rw [hp]; simp)).symm]; exact P.ce, P.i0, P.r0, P.l63⟩⟩
  · have q := S.slot i sv e
    have nb : ∀ {b : Addr}, sv.own = true → σ[i]? = some (some (.ref b)) → b ≠ a := fun o2 e2 z => nw ⟨i, sv, e, o2, by rw [← z]; exact e2⟩
    cases sv with
    | un => trivial
    | fz d => exact q
    | ol ds => obtain ⟨b, xs, e, q, r⟩ := q; exact ⟨b, xs, e, by rw [upd_ne (nb rfl e)]; exact q, r⟩
    | od ds => obtain ⟨b, xs, e, q, r⟩ := q; exact ⟨b, xs, e, by rw [upd_ne (nb rfl e)]; exact q, r⟩
    | oo T ds =>
      obtain ⟨b, dx, fs, e, q, q2, r⟩ := q
      have nd : dx ≠ a := fun z => by
        rw [z, h] at q2
        exact no _ (Option.some.inj q2)
      exact ⟨b, dx, fs, e, by rw [upd_ne (nb rfl e)]; exact q, by rw [upd_ne nd]; exact q2, r⟩
theorem setO_mu {i : Nat} {sv sv' : SV} {x : Addr} {ob : HO} (S : StR C lk σ ρ pn G H) (e : ρ[i]? = some sv) (o : sv.own = true) (ea : σ[i]? = some (some (.ref x))) (h : H x = some ob) (am : x ∈ C.mu) (np : C.pp.p ≠ some x) (no : ∀ i, ob ≠ .own i) (nc : C.pp.p ≠ none → x ≠ C.pp.c)
    (o' : HO) (h' : ∀ H', H' x = some o' → (∀ b, b ≠ x → H' b = H b) → SlR C G H' (some (some (.ref x))) sv') : StR C lk σ (ρ.set i sv') pn G (upd H x o') := by
  have hi := (List.getElem?_eq_some_iff.mp e).1
  have S1 : StR C lk σ (ρ.set i .un) pn G H := S.rho i (sv := .un) trivial rfl
  have nw : ¬ OwnAt σ (ρ.set i .un) x := fun ⟨j, t, e1, o1, z⟩ => by
    by_cases hj : i = j
    · subst hj
      rw [List.getElem?_set_self hi] at e1
      cases e1
      cases o1
    · rw [List.getElem?_set_ne hj] at e1
      exact hj (S.apart i j sv t x e e1 o o1 ea z)
  have S2 := S1.updM (o' := o') h am np no nw nc
  have S3 := S2.setOwn i (h' _ upd_same fun b nb => upd_ne nb) fun j t hj e1 o1 z => nw ⟨j, t, e1, o1, z⟩
  rw [List.set_set] at S3
  have e4 : σ.set i (some (.ref x)) = σ := by
    refine List.ext_getElem? fun j => ?_
    by_cases hj : i = j
    · subst hj
      rw [List.getElem?_set_self (by rw [← S.len]; exact hi), ea]
    · rw [List.getElem?_set_ne hj]
  rwa [e4] at S3
end
def putFD (f : Str) (v : D) : List (Str × D) → List (Str × D)
  | [] => [(f, v)]
  | (g, x) :: r => if g = f then (g, v) :: r else (g, x) :: putFD f v r
theorem putFD_of {K : PySem.W.Frag} {pp : PP} {G : Hp} {f : Str} {v : V} {z : D} (h : Dat K pp G v z) : ∀ {fs : List (Str × V)} {ds : List (Str × D)}, fs.map (·.1) = ds.map (·.1) → DatL K pp G (fs.map (·.2)) (ds.map (·.2)) →
    (putF f v fs).map (·.1) = (putFD f z ds).map (·.1) ∧ DatL K pp G ((putF f v fs).map (·.2)) ((putFD f z ds).map (·.2))
  | [], [], _, _ => ⟨rfl, .cons h .nil⟩
  | [], d :: ds, e, _ => by simp at e
  | x :: fs, [], e, _ => by simp at e
  | (g, x) :: fs, (g', d) :: ds, e, l => by
    simp only [List.map_cons, List.cons.injEq] at e
    obtain ⟨e1, e2⟩ := e
    have e1' : g = g' := e1
    subst e1'
    cases l with
    | cons l1 l2 =>
      unfold putF putFD
      by_cases c : g = f
      · rw [if_pos c, if_pos c]
        exact ⟨by simp [e2], .cons h l2⟩
      · rw [if_neg c, if_neg c]
        obtain ⟨i1, i2⟩ := putFD_of h e2 l2
        exact ⟨by simp [i1], .cons l1 i2⟩
/-- self.f = e in an own __init__ -/
def sSelf (T0 : Addr) (j : Nat) (f : Str) (T : TDE) : TDS := fun E ρ pn => T ρ pn (fun d ρ1 pn1 => match ρ1[j]? with
  | some (.oo T1 fs) => T1 = T0 ∧ fs.length < 1000 ∧ E.nx (ρ1.set j (.oo T1 (putFD f d fs))) pn1
  | _ => False) E.xd
/-- self.f read in an own __init__ -/
def dSelf (T0 : Addr) (j : Nat) (f : Str) : TDE := fun ρ pn Q _ => match ρ[j]? with
  | some (.oo T1 fs) => T1 = T0 ∧ match fs.lookup f with
    | some d => Q d ρ pn
    | none => False
  | _ => False
section
variable {X : Cx} {C : Cfg} {W : WX} {a b c e o value : Expr} {es : List Expr} {f : Str} {pos pos' p apos cpos : Pos} {Ta Tb Tc T U : TDE} {Ts : TDA} {T0 : Addr}
theorem oo_np {lk : Lk} {σ : L2.St} {ρ : SL} {pn : Pn} {G H : Hp} {x : Addr} {ob : HO} (S : StR C lk σ ρ pn G H) (h : H x = some ob) (nl : ∀ xs, ob ≠ .lst xs) : C.pp.p ≠ some x ∧ (C.pp.p ≠ none → x ≠ C.pp.c) := by
  refine ⟨fun q => ?_, fun z e => ?_⟩
  · have P := (S.pen x q).2.2.ob
    rw [h] at P
    exact nl _ (Option.some.inj P)
  · cases q : C.pp.p with
    | none => exact z q
    | some p =>
      have P := (S.pen p q).2.2.ce
      rw [← e, h] at P
      exact nl _ (Option.some.inj P)
theorem pds_self {j : Nat} {x : Str} {px : Pos} (hK : C.K = X.K) (cl : Cls X.K T0) (na : NoAttr X.K T0 f) (hx : PE X (.Name x px) (tVar j)) (hv : PD X C W value T) (hs : swapsWith value (some (.Attribute (.Name x px) f pos')) pos.line X.env = pure false := by rfl) :
    PDS X C W (.Assign [.Attribute (.Name x px) f pos'] value pos) (sSelf T0 j f T) := by
  refine PS.imp (ps_fld hx hv hs) fun D σ H q => ?_
  obtain ⟨lk, G, ρ, pn, E, S, t, L⟩ := q
  refine ⟨lk, G, ρ, pn, _, E.xd, S, t, fun v d G1 H1 ρ1 pn1 S1 g1 dv t1 => ?_, L.xd σ⟩
  cases e1 : ρ1[j]? with
  | none => simp only [e1] at t1
  | some sv =>
    cases sv <;> first | (simp only [e1] at t1; done) | skip
    rename_i T1 ds
    simp only [e1] at t1
    obtain ⟨rfl, hl, t1⟩ := t1
    obtain ⟨y, dx, fs, ey, hy, hd, gy, ⟨r, am⟩, hk, ly⟩ := S1.slot j _ e1
    have ym : y ∈ C.mu := by rw [am]; exact List.mem_cons_self
    obtain ⟨n1, n2⟩ := oo_np S1 hy (by intro xs z; cases z)
    have hl2 : fs.length < 1000 := by
      have := congrArg List.length hk
      simp only [List.length_map] at this
      omega
    refine ⟨.ref y, ey, y, T1, dx, fs, rfl, hy, cl, na, hl2, ?_⟩
    obtain ⟨k1, k2⟩ := putFD_of (f := f) dv hk ly
    have nd : dx ≠ y := fun z => by
      rw [z, hy] at hd
      cases hd
    have S2 := setO_mu (sv' := .oo T1 (putFD f d ds)) S1 e1 rfl ey hy ym n1 (by intro i z; cases z) n2 (.ins T1 dx (putF f v fs)) fun H' e ke => ⟨y, dx, _, rfl, e, by rw [ke dx nd]; exact hd, gy, ⟨r, am⟩, k1, k2⟩
    exact L.nx _ _ _ _ _ S2 g1.same t1
theorem pd_self {j : Nat} {x : Str} {px : Pos} (cl : Cls X.K T0) (na : NoAttr X.K T0 f) (hx : PE X (.Name x px) (tVar j)) (hb : attributeBase (.Name x px) f X.env (eval (.Name x px) X.env) = eval (.Name x px) X.env := by rfl) : PD X C W (.Attribute (.Name x px) f pos) (dSelf T0 j f) := by
  refine PE.imp (pe_fld hx hb) fun σ H Q q => ?_
  obtain ⟨lk, G, ρ, pn, Qd, Qx, S, t, k, xl⟩ := q
  unfold dSelf at t
  cases e1 : ρ[j]? with
  | none => rw [e1] at t; exact t.elim
  | some sv =>
    cases sv <;> first | (rw [e1] at t; exact t.elim) | skip
    rename_i T1 ds
    rw [e1] at t
    obtain ⟨rfl, t⟩ := t
    obtain ⟨y, dx, fs, ey, hy, hd, gy, am, hk, ly⟩ := S.slot j _ e1
    cases z : ds.lookup f with
    | none => rw [z] at t; exact t.elim
    | some w =>
      rw [z] at t
      obtain ⟨v, h1, h2⟩ := look_of hk ly z
      exact ⟨.ref y, ey, y, T1, dx, fs, v, rfl, hy, cl, na, h1, k v w G H ρ pn S .refl h2 t⟩
/-! ### own truth -/
def rdTruB (C0 : Addr) (sp : SpD) : D → Pn → (Bool → Pn → Prop) → (Addr → List (Str × D) → Pn → Prop) → Prop := fun d pn Q Xx => ∃ fs, d = .obj C0 fs ∧ sp [d] pn (fun z pn' => ∃ b, z = .bl b ∧ Q b pn') Xx
def rdTruL (C0 : Addr) (sp : SpD) : D → Pn → (Bool → Pn → Prop) → (Addr → List (Str × D) → Pn → Prop) → Prop := fun d pn Q Xx => ∃ fs, d = .obj C0 fs ∧ sp [d] pn (fun z pn' => ∃ i : Int, z = .int i ∧ 0 ≤ i ∧ i < 2 ^ 63 ∧ Q (i != 0) pn') Xx
def dTruS (rD : D → Pn → (Bool → Pn → Prop) → (Addr → List (Str × D) → Pn → Prop) → Prop) (T : TDE) : TDT := fun ρ pn Q X => T ρ pn (fun d ρ1 pn1 => rD d pn1 (fun b pn2 => Q b ρ1 pn2) (fun c fs pn2 => X c fs ρ1 pn2)) X
/-- a truth that is asked of an own def -/
def TruS (X : Cx) (C : Cfg) (W : WX) (rD : D → Pn → (Bool → Pn → Prop) → (Addr → List (Str × D) → Pn → Prop) → Prop) : Prop :=
  ∀ (pins : List (Addr × Obj)) (s : Shared) (σ : L2.St) (H : Hp) (x : V) (v : Value) (Q : Bool → Hp → Prop) (lk : Lk) (G : Hp) (ρ : SL) (pn : Pn) (d : D) (Qd : Bool → Pn → Prop) (Qx : Addr → List (Str × D) → Pn → Prop), Inv X pins σ H s → RelV x v → StR C lk σ ρ pn G H → Dat C.K C.pp G x d → rD d pn Qd Qx →
  (∀ (b : Bool) (G' H' : Hp) (pn' : Pn), Ex C.K C.pp G H pn' G' H' → Qd b pn' → Q b H') →
  (∀ (c d : Addr) (fs : List (Str × V)) (ds : List (Str × D)) (G' H' : Hp) (pn' : Pn), Ex C.K C.pp G H pn' G' H' → G' d = some (.xd fs) → fs.map (·.1) = ds.map (·.1) → DatL C.K C.pp G' (fs.map (·.2)) (ds.map (·.2)) → Qx c ds pn' → W (.ref c) (some d) σ H') →
  wpAny (model X.prog X.w) X.A (truthy v) (TP X pins σ Q) X.xe s
theorem pdt_truS {rD : D → Pn → (Bool → Pn → Prop) → (Addr → List (Str × D) → Pn → Prop) → Prop} (hr : TruS X C W rD) (h : PD X C W e T) (he : ∀ whole, isTrue e X.env whole = (do let v ← whole; standAt e.pos; holding [v] (truthy v)) := by intro _; rfl) : PDT X C W e (dTruS rD T) := by
  refine ⟨fun pins s σ H Q I q => ?_⟩
  obtain ⟨lk, G, ρ, pn, Qd, Qx, S, t, k, xl⟩ := q
  show wpAny _ _ (isTrue e X.env _) _ _ _
  rw [he]
  refine wpAny_bind (thn (h.run pins s σ H (fun v H1 => ∃ (G1 : Hp) (ρ1 : SL) (pn1 : Pn) (d : D), StR C lk σ ρ1 pn1 G1 H1 ∧ Gr C.pp σ ρ G H ρ1 G1 H1 ∧ Dat C.K C.pp G1 v d ∧ rD d pn1 (fun b pn2 => Qd b ρ1 pn2) (fun c fs pn2 => Qx c fs ρ1 pn2)) I ⟨lk, G, ρ, pn, _, Qx, S, t, fun v d G1 H1 ρ1 pn1 S1 s1 dx t1 => ⟨G1, ρ1, pn1, d, S1, s1, dx, t1⟩, xl⟩) fun v s1 ⟨x, H1, I1, rx, G1, ρ1, pn1, d, S1, g1, dx, t1⟩ => ?_)
  refine wpAny_bind (wpAny_standAt ?_)
  refine wpAny_holding ?_
  exact hr pins s1 σ H1 x v Q lk G1 ρ1 pn1 d _ _ I1 rx S1 dx t1 (fun b G' H' pn' E q => k b G' H' ρ1 pn' (S1.step E) (g1.trans (.ex E)) q) fun c d fs ds' G' H' pn' E e1 e2 e3 q => xl c d fs ds' G' H' ρ1 pn' (S1.step E) e1 e2 e3 q
theorem tru_bool {C0 g : Addr} {n : Nat} {sp : SpD} (hK : C.K = X.K) (ob : Ow X.K C0 "__bool__" g) (F : FR X.prog X.w X.K X.mg X.base n g sp) (hr : Room n X.A) (hx : ∀ σ, PassesAt (L2.CX X.prog X.w) X σ (WE W σ)) : TruS X C W (rdTruB C0 sp) := by
  intro pins s σ H x v Q lk G ρ pn d Qd Qx I rx S dx ⟨fs, ed, q⟩ k1 k2
  subst ed
  have hsp : spD X.K sp [x] H (fun z H' => ∃ b, z = .bl b ∧ Q b H') (WE W σ) := by
    rw [← hK]
    exact ⟨C.pp, G, pn, _, _, Qx, S.ex0, .cons dx .nil, q, fun v d G' H' pn' E dz ⟨b, e, qz⟩ => by
      subst e
      cases dz
      exact ⟨b, rfl, k1 _ G' H' pn' E qz⟩, k2⟩
  obtain ⟨a, ddx, vs, rfl, ea, _⟩ := own_obj S dx
  cases (show v = Value.ref a from rx)
  obtain ⟨ox, od, J⟩ := inst_at I ea
  obtain ⟨m, hF⟩ := I.fr
  refine PySem.W.truthy_K hF I.ok.mod.kin J ob.at_ ob.fn (wpAny_mono (run_dA F hr I.env0 (hx σ) I (.cons rx .nil) hsp) (fun w s' z => ?_) fun _ _ x => x)
  obtain ⟨z', H', I', rz, b, ez, qz⟩ := z
  subst ez
  cases rz
  exact ⟨H', I', qz⟩
theorem tru_len {C0 g : Addr} {n : Nat} {sp : SpD} (hK : C.K = X.K) (nb : PySem.W.findIn X.K (.ref C0) "__bool__" = some none) (ob : Ow X.K C0 "__len__" g) (F : FR X.prog X.w X.K X.mg X.base n g sp) (hr : Room (n + 1) X.A) (hx : ∀ σ, PassesAt (L2.CX X.prog X.w) X σ (WE W σ)) : TruS X C W (rdTruL C0 sp) := by
  intro pins s σ H x v Q lk G ρ pn d Qd Qx I rx S dx ⟨fs, ed, q⟩ k1 k2
  subst ed
  have hsp : spD X.K sp [x] H (fun z H' => ∃ i : Int, z = .int i ∧ 0 ≤ i ∧ i < 2 ^ 63 ∧ Q (i != 0) H') (WE W σ) := by
    rw [← hK]
    exact ⟨C.pp, G, pn, _, _, Qx, S.ex0, .cons dx .nil, q, fun v d G' H' pn' E dz ⟨b, e, z1, z2, qz⟩ => by
      subst e
      cases dz
      exact ⟨b, rfl, z1, z2, k1 _ G' H' pn' E qz⟩, k2⟩
  obtain ⟨a, ddx, vs, rfl, ea, _⟩ := own_obj S dx
  cases (show v = Value.ref a from rx)
  obtain ⟨ox, od, J⟩ := inst_at I ea
  obtain ⟨m, hF⟩ := I.fr
  refine Tl.truthy_KL hF I.ok.mod.kin J nb ob.at_ ob.fn (wpAny_mono (run_dA F hr.in1 I.env0.in1 (hx σ) I (.cons rx .nil) hsp) (fun w s' z => ?_) fun _ _ x => x)
  obtain ⟨z', H', I', rz, i, ez, z1, z2, qz⟩ := z
  subst ez
  obtain ⟨t, e⟩ := (show ∃ t, w = Value.int i t from rz)
  cases e
  exact ⟨⟨z1, z2⟩, i, _, rfl, H', I'.tok _, qz⟩
/-! ### own subscripts -/
def rdGet (C0 : Addr) (sp : SpD) : RxD := fun ds pn Q Xx => ∃ fs e, ds = [.obj C0 fs, e] ∧ sp [.obj C0 fs, e] pn Q Xx
theorem pd_ixOwn {C0 g : Addr} {n : Nat} {sp : SpD} (hK : C.K = X.K) (ow : Ow X.K C0 "__getitem__" g) (F : FR X.prog X.w X.K X.mg X.base n g sp) (hr : Room (n + 1) X.A) (hx : ∀ σ, PassesAt (L2.CX X.prog X.w) X σ (WE W σ)) (ha : PD X C W a Ta) (hb : PD X C W b Tb)
    (hsl : ∀ v i : Value, subscripted b true v i = runValue (.builtin "lifetime.subscript" ⟨[v, i], []⟩) := by intro _ _; with_unfolding_all rfl) : PD X C W (.Subscript a b pos) (dStep (rdGet C0 sp) (dTwo Ta Tb)) := by
  refine ⟨fun pins s σ H Q I h => ?_⟩
  refine Subscript_ (binT ha hb I (R := fun x y H2 => tDL C W (rdGet C0 sp) σ [x, y] H2 Q) (two_of (step_of h)) fun v u s2 x y H2 I2 rx ry q => ?_)
  have hsp : spD X.K sp [x, y] H2 Q (WE W σ) := tDL.sp hK (q.imp fun ds pn Qd Qx ⟨fs, e, ed, q⟩ => by rw [ed]; exact q)
  obtain ⟨lk, G, ρ, pn, ds, Qd, Qx, S, l, ⟨fs, e, rfl, q⟩, k1, k2⟩ := q
  cases l with
  | cons dx l =>
    obtain ⟨x', ddx, vs, rfl, ea, _⟩ := own_obj S dx
    cases (show v = Value.ref x' from rx)
    obtain ⟨ox, od, J⟩ := inst_at I2 ea
    obtain ⟨m, hF⟩ := I2.fr
    exact PySem.W.sub_K hF I2.ok.mod.kin J ow.at_ ow.fi ow.fn (run_dA F hr.in1 I2.env0.in1 (hx σ) I2 (.cons rx (.cons ry .nil)) hsp) (hsl _ _)
/-! ### methods -/
def rdMeth (C0 : Addr) (m : Str) (sp : SpD) : RxD := fun ds pn Q Xx => ∃ fs es, ds = .obj C0 fs :: es ∧ fs.lookup m = none ∧ sp ds pn Q Xx
def dMeth (C0 : Addr) (m : Str) (sp : SpD) (T : TDE) (U : TDA) : TDE := fun ρ pn Q X => T ρ pn (fun d ρ1 pn1 => (∃ fs, d = .obj C0 fs ∧ fs.lookup m = none) ∧ U ρ1 pn1 (fun ds ρ2 pn2 => sp (d :: ds) pn2 (fun z pn3 => Q z ρ2 pn3) (fun c fs pn3 => X c fs ρ2 pn3)) X) X
theorem look_none {f : Str} : ∀ {fs : List (Str × V)} {ds : List (Str × D)}, fs.map (·.1) = ds.map (·.1) → ds.lookup f = none → fs.lookup f = none
  | [], _, _, _ => rfl
  | x :: fs, [], e, _ => by simp at e
  | (g, x) :: fs, (g', d) :: ds, e, h => by
    simp only [List.map_cons, List.cons.injEq] at e
    obtain ⟨e1, e2⟩ := e
    have e1' : g = g' := e1
    subst e1'
    by_cases c : (f == g) = true
    · have q2 : List.lookup f ((g, d) :: ds) = some d := by simp [List.lookup, c]
      rw [q2] at h
      cases h
    · have c' : (f == g) = false := by simpa using c
      have q1 : List.lookup f ((g, x) :: fs) = List.lookup f fs := by simp only [List.lookup, c']
      have q2 : List.lookup f ((g, d) :: ds) = List.lookup f ds := by simp only [List.lookup, c']
      rw [q2] at h
      rw [q1]
      exact look_none e2 h
theorem pd_meth {C0 g : Addr} {n : Nat} {m : Str} {sp : SpD} {pl : Sem Bool} (hK : C.K = X.K) (cl : Cls X.K C0) (ow : Ow X.K C0 m g) (F : FR X.prog X.w X.K X.mg X.base n g sp) (hr : Room n X.A) (hx : ∀ σ, PassesAt (L2.CX X.prog X.w) X σ (WE W σ)) (ho : PD X C W o Ta) (ha : PDA X C W (e :: es) Ts)
    (hst : starEach (e :: es) X.env = (false, eval e X.env) :: starEach es X.env := by rfl) (hpl : (backTo pos (starEach es X.env)).any (·.1) = false := by rfl)
    (ht : eval (.Call (.Attribute o m apos) (e :: es) [] pos) X.env = (do
      let ov ← eval o X.env
      standAt apos.atName
      let (f, first) ← holding [ov] (getMethod ov m pl)
      callWith pos f first (backTo pos (starEach (e :: es) X.env)) (backToKw pos (keywordEach [] X.env))) := by rfl) :
    PD X C W (.Call (.Attribute o m apos) (e :: es) [] pos) (dMeth C0 m sp Ta Ts) := by
  refine ⟨fun pins s σ H Q I h => ?_⟩
  obtain ⟨lk, G, ρ, pn, Qd, Qx, S, t, k, xl⟩ := h
  refine PySem.W.methodCall_KW (pl := pl) (thn (ho.run pins s σ H (fun x H1 => ∃ (G1 : Hp) (ρ1 : SL) (pn1 : Pn) (d : D), StR C lk σ ρ1 pn1 G1 H1 ∧ Gr C.pp σ ρ G H ρ1 G1 H1 ∧ Dat C.K C.pp G1 x d ∧ (∃ fs, d = .obj C0 fs ∧ fs.lookup m = none) ∧ Ts ρ1 pn1 (fun ds ρ2 pn2 => sp (d :: ds) pn2 (fun z pn3 => Qd z ρ2 pn3) (fun c fs pn3 => Qx c fs ρ2 pn3)) Qx) I
    ⟨lk, G, ρ, pn, _, Qx, S, t, fun v d G1 H1 ρ1 pn1 S1 s1 dx t1 => ⟨G1, ρ1, pn1, d, S1, s1, dx, t1.1, t1.2⟩, xl⟩) fun u s1 ⟨x, H1, I1, rx, G1, ρ1, pn1, d, S1, g1, dx, ⟨fs, ed, nl⟩, t1⟩ => ?_) ht
  subst ed
  obtain ⟨a, ddx, vs, rfl, ea, hk⟩ := own_obj S1 dx
  obtain rfl : u = Value.ref a := rx
  refine getmeth_ok I1 ea cl ow.meth (look_none hk nl) ?_
  refine PySem.W.callWith_K (first := [.ref a]) (h₀ := X.base) I.ok.mod.kin ow.kp (thn (ha.run pos pins s1 σ H1 (fun ws H2 => spD X.K sp (.ref a :: ws) H2 Q (WE W σ)) I1 ⟨lk, G1, ρ1, pn1, _, Qx, S1, t1, fun ws ds G2 H2 ρ2 pn2 S2 g2 l t2 => ?_, xl⟩) fun us s2 ⟨ws, H2, I2, r, q2⟩ => ⟨I2.kIn, ?_⟩) hst hpl
  · exact spD_of hK S2 (.cons (dx.keep g2.same) l) t2 (fun v d G' H' pn' E dv q => k v d G' H' ρ2 pn' (S2.step E) (g1.trans (g2.trans (.ex E))) dv q) (fun _ _ _ q => q) xl
  · exact run_dA (us := Value.ref a :: us) (ws := V.ref a :: ws) F hr I2.env0 (hx σ) I2 (.cons rfl r) q2
theorem pd_meth0 {C0 g : Addr} {n : Nat} {m : Str} {sp : SpD} {pl : Sem Bool} (hK : C.K = X.K) (cl : Cls X.K C0) (ow : Ow X.K C0 m g) (F : FR X.prog X.w X.K X.mg X.base n g sp) (hr : Room n X.A) (hx : ∀ σ, PassesAt (L2.CX X.prog X.w) X σ (WE W σ)) (ho : PD X C W o Ta)
    (ht : eval (.Call (.Attribute o m apos) [] [] pos) X.env = (do
      let ov ← eval o X.env
      standAt apos.atName
      let (f, first) ← holding [ov] (getMethod ov m pl)
      callWith pos f first (backTo pos (starEach [] X.env)) (backToKw pos (keywordEach [] X.env))) := by rfl) :
    PD X C W (.Call (.Attribute o m apos) [] [] pos) (dMeth C0 m sp Ta dNil) := by
  refine ⟨fun pins s σ H Q I h => ?_⟩
  obtain ⟨lk, G, ρ, pn, Qd, Qx, S, t, k, xl⟩ := h
  refine PySem.W.methodCall_KW (pl := pl) (thn (ho.run pins s σ H (fun x H1 => ∃ (G1 : Hp) (ρ1 : SL) (pn1 : Pn) (d : D), StR C lk σ ρ1 pn1 G1 H1 ∧ Gr C.pp σ ρ G H ρ1 G1 H1 ∧ Dat C.K C.pp G1 x d ∧ (∃ fs, d = .obj C0 fs ∧ fs.lookup m = none) ∧ dNil ρ1 pn1 (fun ds ρ2 pn2 => sp (d :: ds) pn2 (fun z pn3 => Qd z ρ2 pn3) (fun c fs pn3 => Qx c fs ρ2 pn3)) Qx) I
    ⟨lk, G, ρ, pn, _, Qx, S, t, fun v d G1 H1 ρ1 pn1 S1 s1 dx t1 => ⟨G1, ρ1, pn1, d, S1, s1, dx, t1.1, t1.2⟩, xl⟩) fun u s1 ⟨x, H1, I1, rx, G1, ρ1, pn1, d, S1, g1, dx, ⟨fs, ed, nl⟩, t1⟩ => ?_) ht
  subst ed
  obtain ⟨a, ddx, vs, rfl, ea, hk⟩ := own_obj S1 dx
  obtain rfl : u = Value.ref a := rx
  refine getmeth_ok I1 ea cl ow.meth (look_none hk nl) ?_
  have t2 : sp [.obj C0 fs] pn1 (fun z pn3 => Qd z ρ1 pn3) (fun c fs pn3 => Qx c fs ρ1 pn3) := t1
  refine PySem.W.callWith_K0 (first := [.ref a]) I1.kIn ow.kp (run_dA (us := [.ref a]) (ws := [.ref a]) F hr I1.env0 (hx σ) I1 (.cons rfl .nil) ?_)
  exact spD_of hK S1 (.cons dx .nil) t2 (fun v d G' H' pn' E dv q => k v d G' H' ρ1 pn' (S1.step E) (g1.trans (.ex E)) dv q) (fun _ _ _ q => q) xl
/-! ### makings -/
theorem run_makeA {CX : CXT} {pins : List (Addr × Obj)} {σ : L2.St} {H : Hp} {s : Shared} {Q : VK} {us : List Value} {vs : List V} {C0 g : Addr} {n : Nat} {sp : Sp} {E : XK} (M : Mk X.K C0 g) (F : FnR X.prog X.w X.K X.mg X.base CX n g sp) (hr : Room (n + 1) X.A) (hx : PassesAt CX X σ E) (I : Inv X pins σ H s) (r : Vals vs us)
    (h : ∀ x dx, H x = none → H dx = none → dx ≠ x → sp (V.ref x :: vs) (upd (upd H dx (.own x)) x (.ins C0 dx [])) (fun v H2 => v = .non ∧ Q (.ref x) H2) E) :
    wpAny (model X.prog X.w) X.A (call (.ref C0) us) (EP X pins σ Q) X.xe s := by
  have hq := h (s.heap.objs.size + 1) s.heap.objs.size (I.hok.fresh (Nat.le_succ _)) (I.hok.fresh (Nat.le_refl _)) (Nat.ne_of_lt (Nat.lt_succ_self _))
  have I2 := Inv.made (C := C0) I
  have r2 : Vals (V.ref (s.heap.objs.size + 1) :: vs) (Value.ref (s.heap.objs.size + 1) :: us) := .cons rfl r
  refine wpAny_call (make_map (f := g) I.kIn M.makes M.init (beq_iff_eq.mp M.fn) (codeAny_mono (F _ X.stack _ _ (Value.ref (s.heap.objs.size + 1) :: us) _ _ E (hr.make C0 us []) (I2.env0.make C0 us []) r2 hq) fun r s' hq' => ?_))
  cases r with
  | error e => exact hx pins _ _ e s' I2 hq'
  | ok fl =>
    cases fl with
    | ret u =>
      obtain ⟨v, H', I3, rv, ev, q3⟩ := I2.after hq'
      subst ev
      exact ⟨rv, ⟨V.ref (s.heap.objs.size + 1), H', I3, rfl, q3⟩⟩
    | next => exact False.elim hq'
    | brk => exact False.elim hq'
    | cont => exact False.elim hq'
/-- an __init__ reached by values, its promise by data -/
abbrev FRI (P : Program) (w : World) (K : PySem.W.Frag) (mg : Str → Option Value) (base : Heap) (k : Nat) (C0 g : Addr) (sp : SpI) : Prop := FnR P w K mg base (L2.CX P w) k g (spI K C0 sp)
theorem fri_of {P : Program} {w : World} {K : PySem.W.Frag} {mg : Str → Option Value} {base : Heap} {k : Nat} {f C0 : Addr} {fd : FuncData} {ps : List Str} {sp : SpI} (F : FnOk P w K mg base (L2.CX P w) k f fd ps (spI K C0 sp)) (b : Binds K fd ps []) : FRI P w K mg base k C0 f sp :=
  (F.raw b .nil).imp fun vs H Q E q => by rw [List.append_nil]; exact q
theorem pd_make {C0 g : Addr} {n : Nat} {x : Str} {sp : SpI} (M : Mk X.K C0 g) (F : FRI X.prog X.w X.K X.mg X.base n C0 g sp) (hK : C.K = X.K) (hr : Room (n + 1) X.A) (hg : Gl X x) (hm : X.mg x = some (.ref C0)) (hx : ∀ σ, PassesAt (L2.CX X.prog X.w) X σ (WE W σ)) (ha : PDA X C W (e :: es) Ts)
    (hdb : (x == ("__debug__" : Str)) = false := by decide) (he : starEach (e :: es) X.env = (false, eval e X.env) :: starEach es X.env := by rfl) (hpl : (backTo pos (starEach es X.env)).any (·.1) = false := by rfl) : PD X C W (.Call (.Name x p) (e :: es) [] pos) (dMake C0 sp Ts) := by
  refine ⟨fun pins s σ H Q I h => ?_⟩
  obtain ⟨lk, G, ρ, pn, Qd, Qx, S, t, k, xl⟩ := h
  refine wpAny_Call_Name_kw (ld_glob I hg hm ?_ hdb)
  refine PySem.W.callWith_K (h₀ := X.base) I.ok.mod.kin M.kp (thn (ha.run pos pins s σ H (fun vs H1 => ∀ x dx, H1 x = none → H1 dx = none → dx ≠ x → spI X.K C0 sp (V.ref x :: vs) (upd (upd H1 dx (.own x)) x (.ins C0 dx [])) (fun v H2 => v = .non ∧ Q (.ref x) H2) (WE W σ)) I
    ⟨lk, G, ρ, pn, _, Qx, S, t, fun vs ds G1 H1 ρ1 pn1 S1 g1 l t1 => ?_, xl⟩) fun us s1 ⟨vs, H1, I1, r, q⟩ => ⟨I1.kIn, ?_⟩) he hpl
  · exact fun x dx nx nd ne => make_D hK S1 l nx nd ne t1 (fun v d G' H' pn' E dv q => k v d G' H' ρ1 pn' (S1.step E) (g1.trans (.ex E)) dv q) xl
  · exact run_makeA M F hr (hx σ) I1 r q
theorem pd_make0 {C0 g : Addr} {n : Nat} {x : Str} {sp : SpI} (M : Mk X.K C0 g) (F : FRI X.prog X.w X.K X.mg X.base n C0 g sp) (hK : C.K = X.K) (hr : Room (n + 1) X.A) (hg : Gl X x) (hm : X.mg x = some (.ref C0)) (hx : ∀ σ, PassesAt (L2.CX X.prog X.w) X σ (WE W σ))
    (hdb : (x == ("__debug__" : Str)) = false := by decide) : PD X C W (.Call (.Name x p) [] [] pos) (dMake C0 sp dNil) := by
  refine ⟨fun pins s σ H Q I h => ?_⟩
  obtain ⟨lk, G, ρ, pn, Qd, Qx, S, t, k, xl⟩ := h
  refine wpAny_Call_Name_kw (ld_glob I hg hm ?_ hdb)
  refine PySem.W.callWith_K0 I.kIn M.kp (run_makeA (us := []) (vs := []) M F hr (hx σ) I .nil ?_)
  exact fun x dx nx nd ne => make_D hK S .nil nx nd ne t (fun v d G' H' pn' E dv q => k v d G' H' ρ pn' (S.step E) (.ex E) dv q) xl
/-! ### static methods, class methods of a class -/
/-- C.m is a staticmethod: its record at p, its def at g -/
structure SMet (K : PySem.W.Frag) (C0 : Addr) (m : Str) (p g : Addr) : Prop where
  rd : ClX.CRead K C0 (.type "type")
  at_ : PySem.W.findCls K (.ref C0) (.type "type") m = some (.get (.builtin "staticmethod.__get__") (.ref p) .none (.ref C0))
  rc : ∃ rest, PySem.W.recIn K p "staticmethod" = some (.ref g :: rest)
  kp : PySem.W.keepIn K (.ref g) = true
/-- a class as a value: at C0 -/
def dSM (C0 : Addr) (sp : SpD) (T : TDE) (U : TDA) : TDE := fun ρ pn Q X => T ρ pn (fun d ρ1 pn1 => d = .fn C0 ∧ U ρ1 pn1 (fun ds ρ2 pn2 => sp ds pn2 (fun z pn3 => Q z ρ2 pn3) (fun c fs pn3 => X c fs ρ2 pn3)) X) X
def dCM (C0 : Addr) (sp : SpD) (T : TDE) (U : TDA) : TDE := fun ρ pn Q X => T ρ pn (fun d ρ1 pn1 => d = .fn C0 ∧ U ρ1 pn1 (fun ds ρ2 pn2 => sp (.fn C0 :: ds) pn2 (fun z pn3 => Q z ρ2 pn3) (fun c fs pn3 => X c fs ρ2 pn3)) X) X
theorem fn_ref {K : PySem.W.Frag} {pp : PP} {G : Hp} {x : V} {C0 : Addr} (d : Dat K pp G x (.fn C0)) : x = .ref C0 := by
  cases d; rfl
theorem pd_smeth {C0 g pr : Addr} {n : Nat} {m : Str} {sp : SpD} {pl : Sem Bool} (hK : C.K = X.K) (sm : SMet X.K C0 m pr g) (F : FR X.prog X.w X.K X.mg X.base n g sp) (hr : Room n X.A) (hx : ∀ σ, PassesAt (L2.CX X.prog X.w) X σ (WE W σ)) (ho : PD X C W o Ta) (ha : PDA X C W (e :: es) Ts)
    (hst : starEach (e :: es) X.env = (false, eval e X.env) :: starEach es X.env := by rfl) (hpl : (backTo pos (starEach es X.env)).any (·.1) = false := by rfl)
    (ht : eval (.Call (.Attribute o m apos) (e :: es) [] pos) X.env = (do
      let ov ← eval o X.env
      standAt apos.atName
      let (f, first) ← holding [ov] (getMethod ov m pl)
      callWith pos f first (backTo pos (starEach (e :: es) X.env)) (backToKw pos (keywordEach [] X.env))) := by rfl) :
    PD X C W (.Call (.Attribute o m apos) (e :: es) [] pos) (dSM C0 sp Ta Ts) := by
  refine ⟨fun pins s σ H Q I h => ?_⟩
  obtain ⟨lk, G, ρ, pn, Qd, Qx, S, t, k, xl⟩ := h
  refine PySem.W.methodCall_KW (pl := pl) (thn (ho.run pins s σ H (fun x H1 => ∃ (G1 : Hp) (ρ1 : SL) (pn1 : Pn), x = .ref C0 ∧ StR C lk σ ρ1 pn1 G1 H1 ∧ Gr C.pp σ ρ G H ρ1 G1 H1 ∧ Ts ρ1 pn1 (fun ds ρ2 pn2 => sp ds pn2 (fun z pn3 => Qd z ρ2 pn3) (fun c fs pn3 => Qx c fs ρ2 pn3)) Qx) I
    ⟨lk, G, ρ, pn, _, Qx, S, t, fun v d G1 H1 ρ1 pn1 S1 s1 dx t1 => ⟨G1, ρ1, pn1, fn_ref (by rw [t1.1] at dx; exact dx), S1, s1, t1.2⟩, xl⟩) fun u s1 ⟨x, H1, I1, rx, G1, ρ1, pn1, ex, S1, g1, t1⟩ => ?_) ht
  subst ex
  obtain rfl : u = Value.ref C0 := rx
  obtain ⟨rest, hp⟩ := sm.rc
  refine PySem.W.method_cls I1.kIn sm.rd.ga (PySem.W.cls_bind I1.kIn sm.rd.rd sm.at_ (wpAny_call (PySem.W.sm_get (s := { s1 with toks := s1.toks + 1 }) I1.kIn hp (PySem.W.handed_on rfl ?_))))
  have I2 := I1.tok (s1.toks + 1)
  refine PySem.W.callWith_K (first := []) (h₀ := X.base) I.ok.mod.kin sm.kp (thn (ha.run pos pins _ σ H1 (fun ws H2 => spD X.K sp ws H2 Q (WE W σ)) I2 ⟨lk, G1, ρ1, pn1, _, Qx, S1, t1, fun ws ds G2 H2 ρ2 pn2 S2 g2 l t2 => ?_, xl⟩) fun us s2 ⟨ws, H2, I2, r, q2⟩ => ⟨I2.kIn, ?_⟩) hst hpl
  · exact spD_of hK S2 l t2 (fun v d G' H' pn' E dv q => k v d G' H' ρ2 pn' (S2.step E) (g1.trans (g2.trans (.ex E))) dv q) (fun _ _ _ q => q) xl
  · exact run_dA F hr I2.env0 (hx σ) I2 r q2
theorem pd_cmeth {C0 g pr : Addr} {n : Nat} {m : Str} {sp : SpD} {pl : Sem Bool} (hK : C.K = X.K) (rd : ClX.CRead X.K C0 (.type "type")) (cm : ClX.CMet X.K C0 (.type "type") m pr g) (hc : (X.K.lookup C0).isSome = true) (F : FR X.prog X.w X.K X.mg X.base n g sp) (hr : Room n X.A) (hx : ∀ σ, PassesAt (L2.CX X.prog X.w) X σ (WE W σ)) (ho : PD X C W o Ta) (ha : PDA X C W (e :: es) Ts)
    (hst : starEach (e :: es) X.env = (false, eval e X.env) :: starEach es X.env := by rfl) (hpl : (backTo pos (starEach es X.env)).any (·.1) = false := by rfl)
    (ht : eval (.Call (.Attribute o m apos) (e :: es) [] pos) X.env = (do
      let ov ← eval o X.env
      standAt apos.atName
      let (f, first) ← holding [ov] (getMethod ov m pl)
      callWith pos f first (backTo pos (starEach (e :: es) X.env)) (backToKw pos (keywordEach [] X.env))) := by rfl) :
    PD X C W (.Call (.Attribute o m apos) (e :: es) [] pos) (dCM C0 sp Ta Ts) := by
  refine ⟨fun pins s σ H Q I h => ?_⟩
  obtain ⟨lk, G, ρ, pn, Qd, Qx, S, t, k, xl⟩ := h
  refine PySem.W.methodCall_KW (pl := pl) (thn (ho.run pins s σ H (fun x H1 => ∃ (G1 : Hp) (ρ1 : SL) (pn1 : Pn), x = .ref C0 ∧ StR C lk σ ρ1 pn1 G1 H1 ∧ Gr C.pp σ ρ G H ρ1 G1 H1 ∧ Ts ρ1 pn1 (fun ds ρ2 pn2 => sp (.fn C0 :: ds) pn2 (fun z pn3 => Qd z ρ2 pn3) (fun c fs pn3 => Qx c fs ρ2 pn3)) Qx) I
    ⟨lk, G, ρ, pn, _, Qx, S, t, fun v d G1 H1 ρ1 pn1 S1 s1 dx t1 => ⟨G1, ρ1, pn1, fn_ref (by rw [t1.1] at dx; exact dx), S1, s1, t1.2⟩, xl⟩) fun u s1 ⟨x, H1, I1, rx, G1, ρ1, pn1, ex, S1, g1, t1⟩ => ?_) ht
  subst ex
  obtain rfl : u = Value.ref C0 := rx
  refine ClX.getmethcm_ok I1 rd cm fun s2 I2 => ?_
  refine ClX.callwith_cm I2 (ClX.base_none I1 (Nat.le_refl _)) cm.fi (thn (ha.run pos _ s2 σ H1 (fun ws H2 => spD X.K sp (.ref C0 :: ws) H2 Q (WE W σ)) I2 ⟨lk, G1, ρ1, pn1, _, Qx, S1, t1, fun ws ds G2 H2 ρ2 pn2 S2 g2 l t2 => ?_, xl⟩) fun us s3 ⟨vs, H2, I3, rv, q2⟩ => ⟨⟨ClX.pin_at I3, I3.kIn⟩, ?_⟩) hst hpl
  · exact spD_of hK S2 (.cons (.fn (by rw [hK]; exact hc)) l) t2 (fun v d G' H' pn' E dv q => k v d G' H' ρ2 pn' (S2.step E) (g1.trans (g2.trans (.ex E))) dv q) (fun _ _ _ q => q) xl
  · have z : wpAny (model X.prog X.w) X.A (call (.ref s1.heap.objs.size) us) (EP X ((s1.heap.objs.size, PySem.W.methodObj (.ref g) (.ref C0)) :: pins) σ Q) X.xe s3 := by
      refine wpAny_call (PySem.W.method_call (ClX.pin_at I3) ?_)
      exact run_dA_code (us := Value.ref C0 :: us) (ws := V.ref C0 :: vs) F hr I3.env0 (hx σ) I3 (.cons rfl rv) q2
    exact thn z fun _ _ y => ClX.unpinE y
end
end Td
end
section
set_option maxRecDepth 100000
set_option maxHeartbeats 4000000
/-! f( **d) and f(k = v, ..) where the def takes **d. -/
namespace Tl
open PySem PyProof.Rows L2
section
variable {prog : Program} {w : World} {A : Around} {E : Value → Shared → Prop} {s : Shared}
theorem wp_nsSet_new {d : Addr} {kvs : List (Key × Value)} {x : Str} {v : Value} {Q : Unit → Shared → Prop} (hm : s.heap.DictOf (mixKind prog w) d kvs) (hn : Sum.inr x ∉ kvs.map (·.1))
    (hQ : ∀ h', h'.DictOf (mixKind prog w) d (kvs ++ [(.inr x, v)]) → Heap.SameBut d s.heap h' → Q () { s with heap := h', toks := s.toks + 1 }) : wpAny (model prog w) A (nsSet d x v) Q E s := by
  obtain ⟨o, es, ep, ho, hc, hd, hk, hp, hno⟩ := hm
  intro Γ p hΓ
  simp only [nsSet, strHash, Sem.wp_bind', Sem.wp_cmd_ask, Sem.wp_pure', Sem.wp_cmd_mkText]
  rw [Sem.wp_loadPart_of _ Γ _ p { s with toks := s.toks + 1 } (o := o) _ ho]
  have hany : es.any (·.refKey) = false := by
    rw [Array.any_eq_false']
    intro e he
    obtain ⟨k, h1, _⟩ := hk e he
    rcases keyIs_shape h1 with ⟨i, t, _, e2⟩ | ⟨y, t, _, e2⟩ <;> simp [DictEntry.refKey, e2]
  have hi : es.findIdx? (·.key.isStr x) = none := by
    rw [Array.findIdx?_eq_none_iff]
    intro e he
    obtain ⟨j, hj, rfl⟩ := Array.mem_iff_getElem.mp he
    have hlen := hp.length
    have hj2 : j < kvs.length := by rw [← hlen]; simpa using hj
    obtain ⟨hkey, _⟩ := hp.get? (e := es[j]) (i := j) (by simp [hj]) (List.getElem?_eq_getElem hj2)
    have hmem : kvs[j].1 ∈ kvs.map (·.1) := List.mem_map.mpr ⟨_, List.getElem_mem hj2, rfl⟩
    rcases keyIs_shape hkey with ⟨i, t, _, e2⟩ | ⟨y, t, e1, e2⟩
    · rw [e2]; rfl
    · rw [e2]
      by_cases hy : x = y
      · exact absurd (by rw [hy, ← e1]; exact hmem) hn
      · cases q : (Value.str y t).isStr x with
        | false => rfl
        | true =>
          have e : Value.isStr (Value.str y t) y = true := by simp [Value.isStr]
          exact absurd (Value.isStr_inj _ _ _ q e) hy
  simp only [hd, aRefKeyMayBeTheName_eq, aRefKeyMayBeTheNameByArray, hany, Bool.and_false, Bool.false_eq_true, if_false, Sem.wp_cmd_updatePart]
  refine ⟨by rw [ho]; rfl, hQ _ ?_ (Heap.SameBut.update ..)⟩
  obtain ⟨c, dd, dt, sl⟩ := o
  have hd' : dt = .dict es ep := hd
  subst hd'
  have hkey : (mixKind prog w).is (.inr x) (.str x s.toks) = true := mixKind_str prog w x s.toks
  refine ⟨_, _, ep + 1, Heap.get?_update_self _ ho (by simp only [Obj.putName_eq, Obj.putNameByArray, hi]; rfl), ?_, by simp only [Obj.putName_eq, Obj.putNameByArray, hi]; rfl, hk.push hkey v, ?_, ?_⟩
  · simp only [Obj.putName_eq, Obj.putNameByArray, hi]
    exact hc
  · have := hp.append hkey ((mixKind prog w).hash (.inr x)) v
    simpa using this
  · rw [List.map_append, List.nodup_append]
    refine ⟨hno, by simp, ?_⟩
    intro a ha b hb
    simp only [List.map_cons, List.map_nil, List.mem_singleton] at hb
    subst hb
    exact fun e => hn (e ▸ ha)
variable {K : Type} [DecidableEq K] {knd : KeyKind prog w K}
theorem wp_dictPut_new {d : Addr} {kvs : List (K × Value)} {k : K} {key v : Value} {Q : Unit → Shared → Prop} (hkey : knd.is k key = true) (hm : s.heap.DictOf knd d kvs) (hn : k ∉ kvs.map (·.1))
    (hQ : ∀ h', h'.DictOf knd d (kvs ++ [(k, v)]) → Heap.SameBut d s.heap h' → Q () { s with heap := h' }) (hsz : kvs.length ≤ sizeLine) : wpAny (model prog w) A (dictPut d (knd.hash k) key v) Q E s := by
  obtain ⟨o, es, ep, ho, hc, hd, hk, hp, hno⟩ := hm
  have hes : es.size ≤ sizeLine := by
    have e1 := hp.length
    have e2 : es.toList.length = es.size := by simp
    omega
  unfold dictPut
  refine wpAny_bind (wpAny_dictFind_of hkey ho hd hk ?_)
  have hidx : (es.findIdx? fun e => knd.is k e.key) = kvs.findIdx? fun kv => decide (kv.1 = k) := by
    rw [← hp.findIdx k]; obtain ⟨l⟩ := es; simp
  have hi : (es.findIdx? fun e => knd.is k e.key) = none := by
    rw [hidx, List.findIdx?_eq_none_iff]
    intro kv hkv
    exact decide_eq_false fun e => hn (List.mem_map.mpr ⟨kv, hkv, e⟩)
  rw [hi]
  refine wpAny_updateDictKeys (hz := hes) ho hd (hQ _ ⟨_, _, ep + 1, Heap.get?_update_self _ ho (Obj.isFreed_of_dict (Obj.data_mapDictKeys hd _)), hc.mapDictKeys _, Obj.data_mapDictKeys hd _, hk.push hkey _, ?_, ?_⟩ (Heap.SameBut.update ..))
  · have := hp.append hkey (knd.hash k) v
    obtain ⟨l⟩ := es
    simpa using this
  · rw [List.map_append, List.nodup_append]
    refine ⟨hno, by simp, ?_⟩
    intro a ha b hb
    simp only [List.map_cons, List.map_nil, List.mem_singleton] at hb
    subst hb
    exact fun e => hn (e ▸ ha)
theorem wp_merge {d p : Addr} {vs : List (Key × Value)} {Q : Unit → Shared → Prop} (hd : s.heap.DictOf (mixKind prog w) d []) (hp : s.heap.DictOf (mixKind prog w) p vs) (ne : d ≠ p) (hsm : (p == sysModules) = false) (hz : vs.length ≤ sizeLine)
    (hQ : ∀ h', h'.DictOf (mixKind prog w) d vs → Heap.SameBut d s.heap h' → Q () { s with heap := h' }) : wpAny (model prog w) A (mergeMapping d (.ref p) true) Q E s := by
  obtain ⟨od, esd, epd, hod, hcd, hdd, hkd, hpd, hnd⟩ := id hd
  obtain ⟨oo, eso, epo, hoo, hco, hdo', hko, hpo, hno⟩ := id hp
  have hlen : vs.length = eso.size := by rw [← hpo.length]; simp
  have he0 : esd = #[] := by
    have e := hpd.length
    simpa using e
  unfold mergeMapping
  refine wpAny_bind (wpAny_isInstance hp.typeIs isSubtype_dict_dict ?_)
  simp only [if_true]
  refine wpAny_bind (wpAny_specialOf hp.typeIs F.slot_dict_iter.lookup (wpAny_bind (wpAny_pure ?_)))
  simp only [beq_self_eq_true]
  rw [if_neg (by rw [hsm]; exact Bool.false_ne_true)]
  refine wpAny_bind (wpAny_dictEntries hod hdd ?_)
  rw [he0]
  simp only [Array.isEmpty_empty, if_true]
  have val : ∀ e ∈ eso, ∀ a, e.key ≠ .ref a := fun e he a q => by
    obtain ⟨k, h1, _⟩ := hko e he
    rw [q] at h1
    rcases keyIs_shape h1 with ⟨i, t, _, e2⟩ | ⟨y, t, _, e2⟩ <;> cases e2
  refine wpAny_bind (wpAny_dictEntries hoo hdo' ?_)
  refine wpAny_bind ?_
  refine PySem.MeetsSeq2.wpAny_forIn_array _ (fun rest _ s' => s' = s ∧ ∀ e ∈ rest, e ∈ eso) _ ?_ ?_ _ _ ⟨rfl, fun e he => Array.mem_toList_iff.mp he⟩
  · rintro e rest b s' ⟨rfl, hr⟩
    have h1 := val e (hr e List.mem_cons_self)
    have h2 : ∀ q ∈ rest, q ∈ eso := fun q hq => hr q (List.mem_cons_of_mem _ hq)
    cases q : e.key <;> first | exact absurd q (h1 _) | exact wpAny_pure ⟨rfl, h2⟩
  rintro b s' ⟨rfl, _⟩
  refine wpAny_bind (wpAny_dictEntries hoo hdo' ?_)
  refine wpAny_bind (wpAny_dictEpoch hoo hdo' ?_)
  refine wpAny_bind ?_
  refine wpAny_forIn_list _
      (fun rest _ s2 => ∃ h' i, s2 = { s' with heap := h' } ∧ rest = List.range' i (eso.size - i) ∧ i ≤ eso.size ∧ h'.DictOf (mixKind prog w) d (vs.take i) ∧ h'.get? p = some oo ∧ Heap.SameBut d s'.heap h')
      _ ?_ ?_ _ _ ⟨s'.heap, 0, rfl, by simp [List.range_eq_range'], Nat.zero_le _, by simpa using hd, hoo, Heap.SameBut.refl _ _⟩
  · rintro x rest b2 s2 ⟨h', i, rfl, hr, hi, hd', hoo', hs'⟩
    have hlt : i < eso.size := by
      rcases Nat.lt_or_ge i eso.size with h | h
      · exact h
      · rw [Nat.sub_eq_zero_of_le h] at hr; simp at hr
    obtain ⟨rfl, hrest⟩ : x = i ∧ rest = List.range' (i + 1) (eso.size - (i + 1)) := by
      have e : eso.size - i = (eso.size - (i + 1)) + 1 := by omega
      rw [e, List.range'_succ] at hr
      injection hr with h1 h2
      exact ⟨h1, h2⟩
    refine wpAny_bind (wpAny_dictEntries hoo' hdo' ?_)
    rw [Array.getElem?_eq_getElem hlt]
    obtain ⟨kv, hkv⟩ : ∃ kv, vs[x]? = some kv := ⟨vs[x]'(by rw [hlen]; exact hlt), List.getElem?_eq_getElem _⟩
    obtain ⟨k, v⟩ := kv
    obtain ⟨hkey, hval⟩ := hpo.get? (e := eso[x]) (by simp [hlt]) hkv
    obtain ⟨k', hkey', hhash⟩ := hko eso[x] (Array.getElem_mem hlt)
    obtain rfl : k' = k := (mixKind prog w).inj _ _ _ hkey' hkey
    have fresh : k' ∉ (vs.take x).map (·.1) := fun hm => by
      have hxv : x < vs.length := by omega
      have e2 : vs[x] = (k', v) := by
        rw [List.getElem?_eq_getElem hxv] at hkv
        exact Option.some.inj hkv
      have e3 : vs = vs.take x ++ (k', v) :: vs.drop (x + 1) := by
        rw [← e2, ← List.drop_eq_getElem_cons hxv, List.take_append_drop]
      have hno2 := hno
      rw [e3, List.map_append, List.nodup_append] at hno2
      exact hno2.2.2 k' hm k' (by simp) rfl
    dsimp only
    refine wpAny_bind (wpAny_holding ?_)
    obtain ⟨od2, es2, ep2, hod2, hcd2, hdd2, hkd2, hpd2, hnd2⟩ := id hd'
    simp only [hhash, hval]
    have hi0 : (es2.findIdx? fun e => (mixKind prog w).is k' e.key) = none := by
      have hidx : (es2.findIdx? fun e => (mixKind prog w).is k' e.key) = (vs.take x).findIdx? fun kv => decide (kv.1 = k') := by
        rw [← hpd2.findIdx k']; obtain ⟨l⟩ := es2; simp
      rw [hidx, List.findIdx?_eq_none_iff]
      intro kv hkv
      exact decide_eq_false fun e => fresh (List.mem_map.mpr ⟨kv, hkv, e⟩)
    refine wpAny_bind (wpAny_dictFind_of hkey hod2 hdd2 hkd2 ?_)
    rw [hi0]
    simp only [Option.isSome_none, Bool.false_eq_true, if_false]
    have hmx : (vs.take x).length ≤ sizeLine := by
      rw [List.length_take]
      omega
    refine wp_dictPut_new hkey hd' fresh (fun h'' hd'' hs'' => ?_) hmx
    have hoo'' : h''.get? p = some oo := (hs''.2 p (Ne.symm ne)).trans hoo'
    refine wpAny_bind (wpAny_dictEpoch hoo'' hdo' ?_)
    rw [if_neg (by simp)]
    refine wpAny_pure ⟨h'', x + 1, rfl, hrest, hlt, ?_, hoo'', hs'.trans hs''⟩
    rw [List.take_add_one, hkv]
    exact hd''
  · rintro b2 s2 ⟨h', i, rfl, hr, hi, hd', hoo', hs'⟩
    have hin : i = eso.size := by
      rcases Nat.lt_or_ge i eso.size with h | h
      · have e : eso.size - i = (eso.size - (i + 1)) + 1 := by omega
        rw [e, List.range'_succ] at hr; exact nomatch hr
      · exact Nat.le_antisymm hi h
    refine wpAny_pure (hQ h' ?_ hs')
    rw [hin, ← hlen, List.take_length] at hd'
    exact hd'
end
end Tl
end
section
set_option maxRecDepth 100000
set_option maxHeartbeats 4000000
/-! f( **d): the arguments; the def that takes **d: what it binds. -/
namespace Tl
open PySem PyProof.Rows L2
def kwK {α : Type} (kw : List (Str × α)) : List (Key × α) := kw.map fun p => (Sum.inr p.1, p.2)
abbrev emptyD : Obj := { cls := .type "dict", data := .dict #[] }
section
variable {prog : Program} {w : World} {A : Around} {E : Value → Shared → Prop} {s : Shared}
theorem wp_keywordsIn {f : Value} {d : Addr} {kw : List (Str × Value)} {Q : List (Str × Value) → Shared → Prop} (hd : s.heap.DictOf (mixKind prog w) d (kwK kw)) (h : Q kw s) : wpAny (model prog w) A (keywordsIn f d) Q E s := by
  obtain ⟨o, es, ep, ho, hc, hdd, hk, hp, hno⟩ := hd
  unfold keywordsIn
  refine wpAny_bind (wpAny_dictEntries ho hdd ?_)
  refine wpAny_bind ?_
  refine PySem.MeetsSeq2.wpAny_forIn_array _ (fun rest acc s' => s' = s ∧ ∃ more, Pairs (mixKind prog w) rest (kwK more) ∧ acc ++ more = kw) _ ?_ ?_ _ _ ⟨rfl, kw, hp, rfl⟩
  · rintro e rest acc s' ⟨rfl, more, hpm, hacc⟩
    cases more with
    | nil => cases hpm
    | cons m more =>
      cases hpm with
      | cons h1 h2 h3 =>
        have h1' : keyIs (Sum.inr m.1) e.key = true := h1
        rcases keyIs_shape h1' with ⟨i, t, e1, _⟩ | ⟨y, t, e1, e2⟩
        · cases e1
        · cases e1
          rw [e2]
          refine wpAny_pure ⟨rfl, more, h3, ?_⟩
          rw [h2, List.append_assoc]
          exact hacc
  · rintro acc s' ⟨rfl, more, hpm, hacc⟩
    cases more with
    | nil =>
      rw [List.append_nil] at hacc
      subst hacc
      exact wpAny_pure h
    | cons m more => cases hpm
/-- the arguments of f( **x) -/
theorem wp_evalKw {f : Value} {x : Sem Value} {Q : Args → Shared → Prop}
    (h : wpAny (model prog w) A x (fun v s1 => s1.heap.get? s.heap.objs.size = some emptyD ∧ ∃ (p : Addr) (kw : List (Str × Value)), v = .ref p ∧ s1.heap.DictOf (mixKind prog w) p (kwK kw) ∧ s.heap.objs.size ≠ p ∧ (p == sysModules) = false ∧ kw.length ≤ sizeLine ∧
      ∀ h', Heap.SameBut s.heap.objs.size s1.heap h' → (∃ o, h'.get? s.heap.objs.size = some o ∧ ∀ v, o.data ≠ .cell v) → Q ⟨[], kw⟩ { s1 with heap := h' }) E { s with heap := s.heap.push emptyD }) :
    wpAny (model prog w) A (evalArgs f true [] [(Option.none, x)]) Q E s := by
  unfold evalArgs
  refine wpAny_bind (wpAny_pure (wpAny_bind (wpAny_pure ?_)))
  refine wpAny_holding ?_
  rw [if_neg (by simp)]
  refine wpAny_bind ?_
  unfold mergedKeywords
  refine wpAny_bind (wpAny_alloc (wpAny_bind (wpAny_holding ?_)))
  refine wpAny_bind ?_
  rw [List.forIn_cons]
  dsimp only
  refine wpAny_bind (wpAny_bind ?_)
  rw [if_pos (show ([] : List (Str × Sem Value)).isEmpty = true from rfl)]
  refine wpAny_pure (wpAny_bind ?_)
  refine wpAny_mono h (fun v s1 hv => ?_) fun _ _ z => z
  obtain ⟨hd, p, kw, rfl, hp, ne, hsm, hz, hq⟩ := hv
  have hdd : s1.heap.DictOf (mixKind prog w) s.heap.objs.size [] := ⟨_, #[], 0, hd, ⟨rfl, rfl, rfl⟩, rfl, fun e he => by simp at he, .nil, by simp⟩
  refine wpAny_bind (wpAny_onRaise (wpAny_holding (wpAny_tryCatch (wpAny_onRaise ?_))))
  refine wp_merge hdd hp ne hsm (by simpa [kwK] using hz) fun h' hd' hs' => ?_
  refine wpAny_pure ?_
  dsimp only
  rw [List.forIn_nil]
  refine wpAny_pure ?_
  rw [if_pos (show ([] : List (Str × Sem Value)).isEmpty = true from rfl)]
  refine wpAny_pure (wpAny_pure ?_)
  refine wpAny_bind (wpAny_pure (wpAny_bind (wpAny_holding (wp_keywordsIn hd' (wpAny_pure ?_)))))
  obtain ⟨o, es, ep, ho, _, hdt, _⟩ := id hd'
  exact hq h' hs' ⟨o, ho, fun v z => by rw [hdt] at z; cases z⟩
theorem callWith_any {f : Value} {first : List Value} {pos : Pos} {Q : Value → Shared → Prop} {P : Heap → Prop} {args : List (Bool × Sem Value)} {kws : List (Option Str × Sem Value)} (hst : (args.any (·.1) || kws.any (·.1.isNone)) = true)
    (hk : ∀ h, P h → ∃ k, (k = Keeper.frame ∨ k = Keeper.machine ∨ k = Keeper.boundFrame) ∧ PySem.W.Looks (model prog w) h (keeperOf f) k)
    (h : wpAny (model prog w) A (evalArgs f true args kws) (fun a s₁ => P s₁.heap ∧ wpAny (model prog w) A (call f (first ++ a.pos) a.kw) Q E s₁) E s) : wpAny (model prog w) A (callWith pos f first args kws) Q E s := by
  unfold callWith
  refine wpAny_bind (wpAny_holding (wpAny_mono h (fun a s₁ h₁ => wpAny_bind (wpAny_standAt ?_)) fun _ _ x => x))
  obtain ⟨k, hk', L⟩ := hk _ h₁.1
  simp only [hst]
  refine wpAny_bind (L.here ?_)
  have tail : ∀ {t : Sem Value}, wpAny (model prog w) A t Q E s₁ → wpAny (model prog w) A (t >>= fun r => holding [r] point >>= fun _ => pure r) Q E s₁ :=
    fun ht => wpAny_bind (wpAny_mono ht (fun r s₂ hr => wpAny_bind (wpAny_holding (wpAny_point (wpAny_pure hr)))) fun _ _ x => x)
  have marked (mk : Value) : wpAny (model prog w) A (callMarked mk f (first ++ a.pos) a.kw) Q E s₁ := by unfold callMarked; exact Calls.wpAny_keep h₁.2
  rcases hk' with rfl | rfl | rfl <;> dsimp only <;> first | exact tail (marked _) | exact tail (wpAny_operating h₁.2)
/-- what a def with one parameter and **d binds -/
theorem wp_bindKw {fd : FuncData} {p1 pv : Str} {u : Value} {kw : List (Str × Value)} {Q : List (Str × Value) → Shared → Prop} {a1 av : Arg} (h0 : fd.params.posonlyargs = []) (h1 : fd.params.args = [a1]) (e1 : a1.arg = p1) (h2 : fd.params.kwonlyargs = []) (h3 : fd.params.vararg = Option.none) (h4 : fd.params.kwarg = some av) (e2 : av.arg = pv)
    (hd : fd.defaults = .none) (nd : (kw.map (·.1)).Nodup) (ns : p1 ∉ kw.map (·.1)) (hz : kw.length ≤ sizeLine)
    (hq : ∀ h', h'.DictOf (mixKind prog w) s.heap.objs.size (kwK kw) → (∀ b o, s.heap.get? b = some o → h'.get? b = some o) → Q [(p1, u), (pv, .ref s.heap.objs.size)] { s with heap := h', toks := s.toks + kw.length }) :
    wpAny (model prog w) A (bindArgs fd ⟨[u], kw⟩) Q E s := by
  unfold bindArgs
  simp only [h0, h1, h2, h3, h4, hd, e1, e2, List.map_nil, List.map_cons, List.nil_append]
  refine wpAny_bind ?_
  refine wpAny_forIn_list _ (fun rest b s' => s' = s ∧ b.1 = [(p1, u)] ∧ b.2 ++ rest = kw) _ ?_ ?_ _ _ ⟨rfl, rfl, rfl⟩
  · intro xv rest b s2 hI
    obtain ⟨es, hb1, hb2⟩ := hI
    subst es
    obtain ⟨x, v⟩ := xv
    have hx : x ∈ kw.map (·.1) := by rw [← hb2]; simp
    have hne : ([p1].contains x || ([] : List Str).contains x) = false := by
      simp only [List.contains_cons, List.contains_nil, Bool.or_false]
      cases q : (x == p1) with
      | false => rfl
      | true => exact absurd (by rw [← beq_iff_eq.mp q]; exact hx) ns
    simp only [hne, Bool.false_eq_true, if_false, Option.isSome_some, if_true]
    exact wpAny_pure ⟨rfl, hb1, by rw [List.append_assoc]; exact hb2⟩
  rintro ⟨sl, ext⟩ s' ⟨rfl, hb1, hb2⟩
  dsimp only at hb1 hb2
  rw [List.append_nil] at hb2
  subst hb1 hb2
  dsimp only
  have lk : List.lookup p1 [(p1, u)] = some u := by simp [List.lookup]
  show wpAny _ _ ((pure Option.none : Sem (Option (Array Value))) >>= _) _ _ _
  refine wpAny_bind (wpAny_pure ?_)
  simp only [List.length_cons, List.length_nil, Nat.zero_add, gt_iff_lt, Nat.lt_irrefl, decide_false, Bool.false_and, Bool.false_eq_true, if_false, Option.getD_none, List.filter_nil, List.drop_nil, Nat.sub_zero, List.take_succ_cons, List.take_zero, List.filter_cons, lk, Option.isNone_some, List.isEmpty_nil, Bool.not_true, List.drop_succ_cons, List.zip_nil_left, List.zip_nil_right, List.forIn_nil, pure_bind, List.append_nil, List.filterMap_cons, List.filterMap_nil, Option.map_some]
  rw [if_neg (by omega)]
  refine wpAny_bind (wpAny_alloc ?_)
  refine wpAny_bind ?_
  have push : ∀ b o, s'.heap.get? b = some o → (s'.heap.push emptyD).get? b = some o := fun b o e => Heap.get?_push_of_some _ e
  refine wpAny_forIn_list _ (fun rest _ s2 => ∃ h' done, s2 = { s' with heap := h', toks := s'.toks + done.length } ∧ done ++ rest = ext ∧ h'.DictOf (mixKind prog w) s'.heap.objs.size (kwK done) ∧ Heap.SameBut s'.heap.objs.size (s'.heap.push emptyD) h') _ ?_ ?_ _ _
    ⟨s'.heap.push emptyD, [], rfl, rfl, Heap.DictOf.new s'.heap, Heap.SameBut.refl _ _⟩
  · rintro ⟨x, v⟩ rest b s2 ⟨h', done, rfl, hdn, hdd, hsb⟩
    have hx : Sum.inr x ∉ (kwK done).map (·.1) := fun hm => by
      obtain ⟨q, hq1, hq2⟩ := List.mem_map.mp hm
      obtain ⟨q0, hq3, hq4⟩ := List.mem_map.mp hq1
      subst hq4
      have e : q0.1 = x := Sum.inr.inj hq2
      rw [← hdn, List.map_append, List.nodup_append] at nd
      exact nd.2.2 q0.1 (List.mem_map.mpr ⟨q0, hq3, rfl⟩) x (by simp) e
    refine wpAny_bind (wp_nsSet_new hdd hx fun h'' hd'' hs'' => wpAny_pure ⟨h'', done ++ [(x, v)], ?_, by rw [List.append_assoc]; exact hdn, ?_, hsb.trans hs''⟩)
    · rw [List.length_append]
      rfl
    · unfold kwK
      rw [List.map_append]
      exact hd''
  · rintro b s2 ⟨h', done, rfl, hdn, hdd, hsb⟩
    rw [List.append_nil] at hdn
    subst hdn
    refine wpAny_pure (hq h' hdd fun b o e => ?_)
    have ne : b ≠ s'.heap.objs.size := Nat.ne_of_lt (Heap.lt_size e)
    rw [hsb.2 b ne]
    exact push b o e
end
end Tl
end
section
set_option maxRecDepth 100000
set_option maxHeartbeats 4000000
/-! The data layer: makings by keywords and by **d. -/
namespace Td
open PySem PySem.Spec PyProof.Rows L2 Lw Tl StX
theorem env0_grown {P : Program} {w : World} {K : PySem.W.Frag} {mg : Str → Option Value} {base : Heap} {A : Around} {outer : List Env} {s : Shared} {H : Hp} {u : HO} {h' : Heap} {t' : Nat} (e0 : Env0 P w K mg base A outer s H) (kp : ∀ b x, s.heap.get? b = some x → h'.get? b = some x)
    (new : ObjOk P w (upd H s.heap.objs.size u) h' s.heap.objs.size u) : Env0 P w K mg base A outer { s with heap := h', toks := t' } (upd H s.heap.objs.size u) := by
  refine ⟨e0.frames, e0.mod, fun b x e => ⟨kp b x (e0.bs b x e).1, ?_⟩, Nat.le_trans e0.bsz (Nat.le_of_lt new.lt), Heap.FunFrames.of_keeps (fun b x e _ => ⟨x, kp b x e, rfl⟩) e0.funs, fun b hb => ?_, e0.hok.laid kp (Nat.le_refl _) new, e0.bare⟩
  · rw [upd_ne (Nat.ne_of_lt (Heap.lt_size (e0.bs b x e).1))]
    exact (e0.bs b x e).2
  · obtain ⟨_, x, hx, _⟩ := e0.funs.mem hb
    rw [upd_ne (Nat.ne_of_lt (Heap.lt_size hx))]
    exact e0.frf b hb
/-- the frame of an __init__ told of what stood before its dict of keywords was laid -/
theorem StR.shift {K : PySem.W.Frag} {pp : PP} {x dx : Addr} {G H G2 H2 G' H' : Hp} {pn2 pn' : Pn} (e : Ex K pp G H pn2 G2 H2) (hx : H x ≠ none) (hd : H dx ≠ none) (S' : StR (cfI K pp x dx G2 H2) [] [] [] pn' G' H') : StR (cfI K pp x dx G H) [] [] [] pn' G' H' := by
  refine ⟨S'.sub, fun a o h => S'.g0 a o (e.same a o h), fun a h => ?_, fun a o h m => ?_, fun a h => S'.live a (e.live a h), (fun p hp => by cases hp), fun a ha => ?_, S'.pen, rfl, (fun i sv h => by simp at h), fun i j s t a h => by simp at h⟩
  · rcases S'.new a h with z | z
    · rcases e.new a z with y | y
      · exact .inl y
      · exact .inr y
    · right
      cases q : H a with
      | none => exact q
      | some u => exact absurd z (e.live a (by show H a ≠ none; rw [q]; simp))
  · have np : pp.p ≠ some a := fun z => m (by show a ∈ x :: dx :: pp.p.toList; rw [z]; simp)
    exact S'.keep a o (e.at h np) m
  · obtain ⟨z1, z2, z3⟩ := S'.muG a ha
    refine ⟨z1, z2, ?_⟩
    rcases List.mem_cons.mp ha with y | y
    · rw [y]; exact hx
    · rcases List.mem_cons.mp y with y | y
      · rw [y]; exact hd
      · exact (e.muG a y).2.2
theorem kwK_keys {α β : Type} : ∀ {a : List (Str × α)} {b : List (Str × β)}, a.map (·.1) = b.map (·.1) → (kwK a).map (·.1) = (kwK b).map (·.1)
  | [], [], _ => rfl
  | [], _ :: _, e => by simp at e
  | _ :: _, [], e => by simp at e
  | p :: a, q :: b, e => by
    simp only [List.map_cons, List.cons.injEq] at e
    have := kwK_keys e.2
    simp only [kwK, List.map_cons, List.map_map] at this ⊢
    rw [e.1, this]
theorem kwK_vals {α : Type} (a : List (Str × α)) : (kwK a).map (·.2) = a.map (·.2) := by
  simp [kwK]
abbrev spIK (K : PySem.W.Frag) (C0 : Addr) (sp : SpI) (v : V) (kv : List (Str × V)) (H : Hp) (Q : VK) (E : XK) : Prop := ∃ (x dx : Addr) (pp : PP) (G : Hp) (pn : Pn) (dk : List (Str × D)) (Qd : List (Str × D) → Pn → Prop) (Qx : Addr → List (Str × D) → Pn → Prop),
  v = .ref x ∧ H x = some (.ins C0 dx []) ∧ H dx = some (.own x) ∧ G x = none ∧ G dx = none ∧ Ex K pp G H pn G H ∧ kv.map (·.1) = dk.map (·.1) ∧ DatL K pp G (kv.map (·.2)) (dk.map (·.2)) ∧ (dk.map (·.1)).Nodup ∧ ("self" : Str) ∉ dk.map (·.1) ∧ dk.length ≤ sizeLine ∧ sp [.dic (kwK dk)] pn Qd Qx ∧
  (∀ (fs : List (Str × V)) (dfs : List (Str × D)) (G' H' : Hp) (pn' : Pn), StR (cfI K pp x dx G H) [] [] [] pn' G' H' → H' x = some (.ins C0 dx fs) → H' dx = some (.own x) → fs.map (·.1) = dfs.map (·.1) → DatL K pp G' (fs.map (·.2)) (dfs.map (·.2)) → Qd dfs pn' → Q .non H') ∧
  (∀ (c d : Addr) (fs : List (Str × V)) (ds : List (Str × D)) (G' H' : Hp) (pn' : Pn), StR (cfI K pp x dx G H) [] [] [] pn' G' H' → G' d = some (.xd fs) → fs.map (·.1) = ds.map (·.1) → DatL K pp G' (fs.map (·.2)) (ds.map (·.2)) → Qx c ds pn' → E (.ref c) (some d) H')
/-- an __init__(self, **d), reached by keywords -/
def FRK (P : Program) (w : World) (K : PySem.W.Frag) (mg : Str → Option Value) (base : Heap) (k : Nat) (C0 f : Addr) (sp : SpI) : Prop :=
  ∀ (A : Around) (outer : List Env) (s : Shared) (H : Hp) (u : Value) (v : V) (kw : List (Str × Value)) (kv : List (Str × V)) (Q : VK) (E : XK), Room k A → Env0 P w K mg base A outer s H → RelV v u → KV kv kw → spIK K C0 sp v kv H Q E →
    codeAny (model P w) A (.call (.ref f) ⟨[u], kw⟩) (CR (L2.CX P w) outer P w H s Q E) s
theorem kv_kwK : ∀ {kv : List (Str × V)} {kw : List (Str × Value)}, KV kv kw → KV (kwK kv) (kwK kw)
  | _, _, .nil => .nil
  | _, _, .cons h t => .cons ⟨congrArg Sum.inr h.1, h.2⟩ (kv_kwK t)
section
variable {P : Program} {w : World} {K : PySem.W.Frag} {mg : Str → Option Value} {base : Heap} {qual nm : Str} {params : Arguments} {body : List Stmt} {scope : Scope} {kws : List (Str × V)} {f : Addr} {fd : FuncData} {N : List Str} {k : Nat} {T : TDS}
theorem fn_IK {C0 : Addr} {pv : Str} {a1 av : Arg} (F : FunD K nm qual params body scope [] kws f fd) (h0 : params.posonlyargs = []) (h1 : params.args = [a1]) (e1 : a1.arg = "self") (h2 : params.kwonlyargs = []) (h3 : params.vararg = none) (h4 : params.kwarg = some av) (e2 : av.arg = pv)
    (S : FnScope N ["self", pv] scope) (hN : 0 < N.length)
    (hb : ∀ (cdv : Value) (A : Around) (outer : List Env) (s : Shared) (H : Hp) (E : XK) (pp : PP) (x dx : Addr) (G0 H0 : Hp), (cfI K pp x dx G0 H0).pc → Room k (A.deeper (envOfC qual scope s.heap.objs.size f cdv)) → Takes (BX P w K mg base N qual scope f cdv A outer s H E) (WD E) →
      PDSs (BX P w K mg base N qual scope f cdv A outer s H E) (cfI K pp x dx G0 H0) (WD E) body T) : FRK P w K mg base (k + 1) C0 f (bodyI C0 N 1 T) := by
  intro A outer s H u v kw kv Q E hr e0 rv rk hsp
  obtain ⟨x, dx, pp, G, pn, dk, Qd, Qx, rfl, hx, hd, hg, hg2, ex, ek, l, nd, ns, hz, ⟨z, t⟩, k1, k2⟩ := hsp
  obtain ⟨oc, od, dV, kV, doc, pm, an, cdv, ct, osl, rfl, lk, hcd, hD, hKw⟩ := F.ex
  have hdV : dV = .none := by
    rcases hD with ⟨_, e⟩ | ⟨e, _⟩
    · exact e
    · exact absurd rfl e
  subst hdV
  have kk : kw.map (·.1) = dk.map (·.1) := by rw [← rk.keys, ek]
  have hn : H s.heap.objs.size = none := e0.hok.fresh (Nat.le_refl _)
  refine run_bnd lk hcd S hr e0 (G := fun vs H2 => ∃ p, H p = none ∧ vs = [.ref x, .ref p] ∧ H2 = upd H p (.dK (kwK kv))) (fun A' Ex' Q' h => ?_) fun s2 H2 vs ⟨p, hp, ev, eH⟩ hr' => ?_
  · have hl : kw.length ≤ sizeLine := by
      have := congrArg List.length kk
      simp only [List.length_map] at this
      omega
    refine wp_bindKw (fd := PySem.W.fnOf nm qual params body scope .none kV doc pm an cdv ct) h0 h1 e1 h2 h3 h4 e2 rfl (by rw [kk]; exact nd) (by rw [kk]; exact ns) hl fun h' hdd kp => ?_
    have big := env0_big e0
    have new : ObjOk P w (upd H s.heap.objs.size (.dK (kwK kv))) h' s.heap.objs.size (.dK (kwK kv)) := by
      refine ⟨?_, ?_, kwK kw, kv_kwK rk, hdd⟩
      · have e : (kwK kv).length = kv.length := by simp [kwK]
        have e' : kv.length = kw.length := rk.length
        rw [e, e']
        exact hl
      · simpa using (Nat.ne_of_gt big)
    have un : Un (frs outer) [] H (upd H s.heap.objs.size (.dK (kwK kv))) s.heap h' := Un.laid kp (Nat.le_refl _) hn
    exact h _ _ [.ref x, .ref s.heap.objs.size] [u, .ref s.heap.objs.size] (env0_grown e0 kp new) un rfl (fun e s' => cxUp outer s H _ _ E e s' un kp rfl) (.cons rv (.cons rfl .nil)) rfl ⟨_, hn, rfl, rfl⟩
  · subst ev eH
    have eg : Ex K pp G H pn (upd G p (.dK (kwK kv))) (upd H p (.dK (kwK kv))) := StR.exG ex hp
    have ex2 : Ex K pp (upd G p (.dK (kwK kv))) (upd H p (.dK (kwK kv))) pn (upd G p (.dK (kwK kv))) (upd H p (.dK (kwK kv))) := StR.ex0 eg
    have gp : G p = none := by
      cases q : G p with
      | none => rfl
      | some u => exact absurd hp (ex.sub p u q).live
    have nx : x ≠ p := fun z => by rw [z, hp] at hx; cases hx
    have nd2 : dx ≠ p := fun z => by rw [z, hp] at hd; cases hd
    have sm : Same G (upd G p (.dK (kwK kv))) := Same.new gp
    have dd : DatL K pp (upd G p (.dK (kwK kv))) [.ref p] [.dic (kwK dk)] := .cons (.dic upd_same (kwK_keys ek) (by rw [kwK_vals, kwK_vals]; exact l.keep sm)) .nil
    have S1 := stR_startI (C0 := C0) (N := N) hN ex2 dd (by rw [upd_ne nx]; exact hx) (by rw [upd_ne nd2]; exact hd) (by rw [upd_ne nx]; exact hg) (by rw [upd_ne nd2]; exact hg2)
    refine ⟨_, hb cdv A outer s2 _ E pp x dx (upd G p (.dK (kwK kv))) (upd H p (.dK (kwK kv))) (pc_of ex2) hr' (takes_of rfl rfl rfl rfl), ?_⟩
    have sh : ∀ {G' H' : Hp} {pn' : Pn}, StR (cfI K pp x dx (upd G p (.dK (kwK kv))) (upd H p (.dK (kwK kv)))) [] [] [] pn' G' H' → StR (cfI K pp x dx G H) [] [] [] pn' G' H' := fun S' => StR.shift eg (by rw [hx]; simp) (by rw [hd]; simp) S'
    refine ⟨[], _, _, pn, _, S1, t, ⟨fun σ' ρ' pn' G' H' S' _ q => ?_, (fun _ _ _ _ _ _ _ q => q.elim), (fun _ _ _ _ _ _ _ q => q.elim), (fun _ _ _ _ _ _ _ _ _ q => q.elim), fun σ c d fs ds G' H' ρ' pn' S' e1 e2 e3 q => k2 c d fs ds G' H' pn' (sh S'.forget) e1 e2 e3 q⟩⟩
    have q2 : endI C0 Qd ρ' pn' := q
    clear q
    unfold endI at q2
    cases e0 : ρ'[0]? with
    | none => rw [e0] at q2; exact q2.elim
    | some sv =>
      rw [e0] at q2
      cases sv <;> first | exact q2.elim | skip
      rename_i C1 dfs
      obtain ⟨rfl, q3⟩ := q2
      obtain ⟨a, dx', fs, ea, ha, hd', ga, ⟨r, am⟩, hk, l2⟩ := S'.slot 0 _ e0
      have am' : x :: dx :: pp.p.toList = a :: dx' :: r := am
      simp only [List.cons.injEq] at am'
      obtain ⟨rfl, rfl, _⟩ := am'
      exact k1 fs dfs G' H' pn' (sh S'.forget) ha hd' hk l2 q3
end
/-- an __init__(self, **d): what its making wants of the keywords -/
def kwOk (dk : List (Str × D)) : Prop := (dk.map (·.1)).Nodup ∧ ("self" : Str) ∉ dk.map (·.1) ∧ dk.length ≤ sizeLine
/-- a class of the text is made by keywords -/
theorem make_DK {X : Cx} {C : Cfg} {W : WX} {σ : L2.St} {lk : Lk} {G1 H1 : Hp} {ρ1 : SL} {pn1 : Pn} {C0 x dx : Addr} {kv : List (Str × V)} {dk : List (Str × D)} {sp : SpI} {Qd : QD} {Qx : XD} {Q : VK} (hK : C.K = X.K) (S1 : StR C lk σ ρ1 pn1 G1 H1) (ek : kv.map (·.1) = dk.map (·.1)) (l : DatL C.K C.pp G1 (kv.map (·.2)) (dk.map (·.2))) (ok : kwOk dk) (nx : H1 x = none) (nd : H1 dx = none) (ne : dx ≠ x)
    (t : sp [.dic (kwK dk)] pn1 (fun fs pn2 => Qd (.obj C0 fs) ρ1 pn2) (fun c fs pn2 => Qx c fs ρ1 pn2))
    (k : ∀ (v : V) (d : D) (G' H' : Hp) (pn' : Pn), Ex C.K C.pp G1 H1 pn' G' H' → Dat C.K C.pp G' v d → Qd d ρ1 pn' → Q v H') (xl : XL C W lk σ Qx) :
    spIK X.K C0 sp (.ref x) kv (upd (upd H1 dx (.own x)) x (.ins C0 dx [])) (fun v H2 => v = .non ∧ Q (.ref x) H2) (WE W σ) := by
  rw [← hK]
  have xd := S1.exH (o := .own x) nd
  have S2 := S1.step xd
  have nx2 : upd H1 dx (.own x) x = none := by rw [upd_ne ne.symm]; exact nx
  have x2 := S2.exH (o := .ins C0 dx []) nx2
  have ex : Ex C.K C.pp G1 H1 pn1 G1 (upd (upd H1 dx (.own x)) x (.ins C0 dx [])) := xd.trans x2
  have gx : G1 x = none := by
    cases q : G1 x with
    | none => rfl
    | some u => exact absurd nx (S1.sub x u q).live
  have gdx : G1 dx = none := by
    cases q : G1 dx with
    | none => rfl
    | some u => exact absurd nd (S1.sub dx u q).live
  have npx : C.pp.p ≠ some x := fun z => by
    have P := (S1.pen x z).2.2.ob
    rw [P] at nx
    cases nx
  -- from __init__'s frame to the caller's
  have back : ∀ {G' H' : Hp} {pn' : Pn}, StR (cfI C.K C.pp x dx G1 (upd (upd H1 dx (.own x)) x (.ins C0 dx []))) [] [] [] pn' G' H' → Ex C.K C.pp G1 H1 pn' G' H' := fun {G' H' pn'} S' => by
    have live : ∀ a, H1 a ≠ none → upd (upd H1 dx (.own x)) x (.ins C0 dx []) a ≠ none := ex.live
    refine ⟨S'.sub, S'.g0, fun a e => ?_, fun a o e m => ?_, fun a e => S'.live a (live a e), (fun p hp => by cases hp), fun a ha => ?_, fun p hp => ?_, rfl, (fun i sv h => by simp at h), fun i j s t a h => by simp at h⟩
    · rcases S'.new a e with z | z
      · exact .inl z
      · refine .inr ?_
        cases q : H1 a with
        | none => exact q
        | some u => exact absurd z (live a (by rw [q]; simp))
    · have e' : H1 a = some o := e
      have na : a ≠ x := fun z => by rw [z, nx] at e'; cases e'
      have nd' : a ≠ dx := fun z => by rw [z, nd] at e'; cases e'
      obtain ⟨k1, k2⟩ := S'.keep a o (by show upd (upd H1 dx (.own x)) x (.ins C0 dx []) a = some o; rw [upd_ne na, upd_ne nd']; exact e') (fun z => by
        rcases List.mem_cons.mp z with z | z
        · exact na z
        · rcases List.mem_cons.mp z with z | z
          · exact nd' z
          · exact m z)
      exact ⟨k1, k2⟩
    · obtain ⟨z1, z2, z3⟩ := S'.muG a (List.mem_cons_of_mem _ (List.mem_cons_of_mem _ ha))
      exact ⟨z1, z2, (ex.muG a ha).2.2⟩
    · obtain ⟨z0, z1, z2⟩ := S'.pen p hp
      exact ⟨(ex.pen p hp).1, z1, z2⟩
  refine ⟨x, dx, C.pp, G1, pn1, dk, _, _, rfl, upd_same, by rw [upd_ne ne]; exact upd_same, gx, gdx, StR.ex0 (S1.step ex), ek, l, ok.1, ok.2.1, ok.2.2, t, fun fs dfs G' H' pn' S' hx hd hk l2 q => ⟨rfl, ?_⟩, fun c d fs ds G' H' pn' S' e1 e2 e3 q => xl c d fs ds G' H' ρ1 pn' (S1.step (back S')) e1 e2 e3 q⟩
  have B := back S'
  have gx' : G' x = none := (S'.muG x List.mem_cons_self).1
  -- the instance, then its dict, are data
  have own0 : ¬ OwnAt ([] : L2.St) ([] : SL) x := fun ⟨i, sv, e, _⟩ => by simp at e
  have F1 := StR.freezeA (C := exC C.K C.pp G1 H1) (lk := []) (σ := []) (ρ := []) B hx gx' nx own0
  have gd' : upd G' x (.ins C0 dx fs) dx = none := by
    rw [upd_ne ne]
    exact (S'.muG dx (List.mem_cons_of_mem _ List.mem_cons_self)).1
  have own1 : ¬ OwnAt ([] : L2.St) ([] : SL) dx := fun ⟨i, sv, e, _⟩ => by simp at e
  have F2 := StR.freezeA (C := exC C.K C.pp G1 H1) (lk := []) (σ := []) (ρ := []) F1 hd gd' nd own1
  have s1 : Same G' (upd G' x (.ins C0 dx fs)) := Same.new gx'
  have s2 : Same (upd G' x (.ins C0 dx fs)) (upd (upd G' x (.ins C0 dx fs)) dx (.own x)) := Same.new gd'
  exact k (.ref x) (.obj C0 dfs) _ H' pn' F2 (.obj (by rw [upd_ne ne.symm]; exact upd_same) upd_same hk (l2.keep (s1.trans s2))) q
theorem run_makeKW {pins : List (Addr × Obj)} {X : Cx} {σ : L2.St} {H : Hp} {s : Shared} {Q : VK} {kw : List (Str × Value)} {kv : List (Str × V)} {C0 g : Addr} {n : Nat} {sp : SpI} {E : XK} (M : Mk X.K C0 g) (F : FRK X.prog X.w X.K X.mg X.base n C0 g sp) (hr : Room (n + 1) X.A) (hx : PassesAt (L2.CX X.prog X.w) X σ E) (I : Inv X pins σ H s) (r : KV kv kw)
    (h : ∀ x dx, H x = none → H dx = none → dx ≠ x → spIK X.K C0 sp (V.ref x) kv (upd (upd H dx (.own x)) x (.ins C0 dx [])) (fun v H2 => v = .non ∧ Q (.ref x) H2) E) :
    wpAny (model X.prog X.w) X.A (call (.ref C0) [] kw) (EP X pins σ Q) X.xe s := by
  have hq := h (s.heap.objs.size + 1) s.heap.objs.size (I.hok.fresh (Nat.le_succ _)) (I.hok.fresh (Nat.le_refl _)) (Nat.ne_of_lt (Nat.lt_succ_self _))
  have I2 := Inv.made (C := C0) I
  refine wpAny_call (make_map (f := g) I.kIn M.makes M.init (beq_iff_eq.mp M.fn) (codeAny_mono (F _ X.stack _ _ (Value.ref (s.heap.objs.size + 1)) (V.ref (s.heap.objs.size + 1)) kw kv _ E (hr.make C0 [] kw) (I2.env0.make C0 [] kw) rfl r hq) fun r s' hq' => ?_))
  cases r with
  | error e => exact hx pins _ _ e s' I2 hq'
  | ok fl =>
    cases fl with
    | ret u =>
      obtain ⟨v, H', I3, rv, ev, q3⟩ := I2.after hq'
      subst ev
      exact ⟨rv, ⟨V.ref (s.heap.objs.size + 1), H', I3, rfl, q3⟩⟩
    | next => exact False.elim hq'
    | brk => exact False.elim hq'
    | cont => exact False.elim hq'
/-- the names of a dict whose keys are texts -/
def D.names : List (Key × D) → Option (List (Str × D))
  | [] => some []
  | (.inr x, d) :: r => match D.names r with
    | some l => some ((x, d) :: l)
    | none => none
  | _ => none
theorem names_kwK : ∀ {ds : List (Key × D)} {dk : List (Str × D)}, D.names ds = some dk → ds = kwK dk
  | [], dk, h => by cases h; rfl
  | (.inl i, d) :: r, dk, h => by cases h
  | (.inr x, d) :: r, dk, h => by
    unfold D.names at h
    cases q : D.names r with
    | none => rw [q] at h; cases h
    | some l =>
      rw [q] at h
      cases h
      rw [names_kwK q]
      rfl
theorem kwK_of : ∀ {kvs : List (Key × V)} {dk : List (Str × D)}, kvs.map (·.1) = (kwK dk).map (·.1) → ∃ kv : List (Str × V), kvs = kwK kv ∧ kv.map (·.1) = dk.map (·.1)
  | [], [], _ => ⟨[], rfl, rfl⟩
  | [], _ :: _, e => by simp [kwK] at e
  | _ :: _, [], e => by simp [kwK] at e
  | (k, v) :: r, (x, d) :: l, e => by
    have e1 : k = Sum.inr x ∧ r.map (·.1) = (kwK l).map (·.1) := by simpa [kwK] using e
    obtain ⟨kv, h1, h2⟩ := kwK_of e1.2
    exact ⟨(x, v) :: kv, by rw [e1.1, h1]; rfl, by simp [h2]⟩
theorem kv_of_kwK : ∀ {kv : List (Str × V)} {vs : List (Key × Value)}, KV (kwK kv) vs → ∃ kw : List (Str × Value), vs = kwK kw ∧ KV kv kw
  | [], _, h => by cases h; exact ⟨[], rfl, .nil⟩
  | (x, v) :: r, vs, h => by
    cases h with
    | cons a b =>
      rename_i q vs'
      obtain ⟨kw, h1, h2⟩ := kv_of_kwK b
      obtain ⟨q1, q2⟩ := q
      have e : Sum.inr x = q1 := a.1
      subst e
      exact ⟨(x, q2) :: kw, by rw [h1]; rfl, .cons ⟨rfl, a.2⟩ h2⟩
def dMakeS (C0 : Addr) (sp : SpI) (T : TDE) : TDE := fun ρ pn Q Xx => T ρ pn (fun d ρ1 pn1 => ∃ ds dk, d = .dic ds ∧ D.names ds = some dk ∧ kwOk dk ∧ sp [.dic ds] pn1 (fun fs pn2 => Q (.obj C0 fs) ρ1 pn2) (fun c fs pn2 => Xx c fs ρ1 pn2)) Xx
section
variable {X : Cx} {C : Cfg} {W : WX} {e : Expr} {p pos kpos : Pos} {T : TDE} {C0 g : Addr} {n : Nat} {x : Str} {sp : SpI}
/-- C( **e) -/
theorem pd_makeS (M : Mk X.K C0 g) (F : FRK X.prog X.w X.K X.mg X.base n C0 g sp) (hK : C.K = X.K) (hr : Room (n + 1) X.A) (hg : Gl X x) (hm : X.mg x = some (.ref C0)) (hx : ∀ σ, PassesAt (L2.CX X.prog X.w) X σ (WE W σ)) (he : PD X C W e T)
    (hdb : (x == ("__debug__" : Str)) = false := by decide) (hk : keywordEach [⟨none, e, kpos⟩] X.env = [(none, eval e X.env)] := by rfl) : PD X C W (.Call (.Name x p) [] [⟨none, e, kpos⟩] pos) (dMakeS C0 sp T) := by
  refine ⟨fun pins s σ H Q I h => ?_⟩
  obtain ⟨lk, G, ρ, pn, Qd, Qx, S, t, k, xl⟩ := h
  refine wpAny_Call_Name_kw (ld_glob I hg hm ?_ hdb)
  show wpAny _ _ (callWith pos (.ref C0) [] [] (backToKw pos (keywordEach [⟨none, e, kpos⟩] X.env))) _ _ _
  rw [hk]
  refine callWith_any (P := fun h => X.K.In h) rfl (fun h Xi => ?_) ?_
  · obtain ⟨kk, a, b⟩ := PySem.W.looks_keep (M := model X.prog X.w) M.kp Xi
    exact ⟨kk, a.elim .inl fun z => .inr (.inl z), b⟩
  refine wp_evalKw ?_
  have ip : Inv X ((s.heap.objs.size, emptyD) :: pins) σ H { s with heap := s.heap.push emptyD } := ClX.pin_new (t' := s.toks) I (fun _ _ z => Heap.get?_push_of_some _ z) (Nat.le_refl _) (Heap.get?_push_size s.heap rfl) (fun v z => nomatch z)
  refine wpAny_bind (thn (he.run _ _ σ H (fun v H1 => ∃ (G1 : Hp) (ρ1 : SL) (pn1 : Pn) (a : Addr) (ds : List (Key × D)) (dk : List (Str × D)), v = .ref a ∧ StR C lk σ ρ1 pn1 G1 H1 ∧ Gr C.pp σ ρ G H ρ1 G1 H1 ∧ Dat C.K C.pp G1 (.ref a) (.dic ds) ∧ D.names ds = some dk ∧ kwOk dk ∧ sp [.dic ds] pn1 (fun fs pn2 => Qd (.obj C0 fs) ρ1 pn2) (fun c fs pn2 => Qx c fs ρ1 pn2)) ip
    ⟨lk, G, ρ, pn, _, Qx, S, t, fun v d G1 H1 ρ1 pn1 S1 g1 dv ⟨ds, dk, ed, e1, e2, e3⟩ => ?_, xl⟩) fun u s1 ⟨v, H1, I1, ru, G1, ρ1, pn1, a, ds, dk, ev, S1, g1, dv, e1, e2, t1⟩ => ?_)
  · subst ed
    cases dv with
    | dic h1 h2 h3 => exact ⟨G1, ρ1, pn1, _, ds, dk, rfl, S1, g1, .dic h1 h2 h3, e1, e2, e3⟩
  subst ev
  cases (show u = Value.ref a from ru)
  refine wpAny_bind (wpAny_standAt (wpAny_pure ?_))
  cases dv with
  | dic h1 h2 h3 =>
    rename_i kvs
    have eds := names_kwK e1
    subst eds
    obtain ⟨kv, ek1, ek2⟩ := kwK_of h2
    subst ek1
    obtain ⟨hz, hsm, vs, rkv, hdd⟩ := dk_rd I1.hok (S1.sub _ _ h1).rd
    obtain ⟨kw, evs, rkw⟩ := kv_of_kwK rkv
    subst evs
    have un := ClX.pin_un I1
    refine ⟨ClX.pin_at I1, a, kw, rfl, hdd, fun z => ?_, hsm, ?_, fun h' hsb ho => ?_⟩
    · have z' : H1 s.heap.objs.size = none := un
      rw [z] at z'
      exact (S1.sub _ _ h1).live z'
    · have : kw.length = kv.length := rkw.length.symm
      have e : (kwK kv).length = kv.length := by simp [kwK]
      omega
    · have f := I.fpOk (H' := H1) (Nat.le_refl _) un
      have I2 : Inv X pins σ H1 { s1 with heap := h' } := (ClX.unpin I1).turned (t' := s1.toks) (fun b o nb q => by rw [hsb.2 b nb]; exact q) f.1 f.2.1 f.2.2.2.1 f.2.2.2.2.1 f.2.2.2.2.2
      refine ⟨I2.kIn, ?_⟩
      refine run_makeKW M F hr (hx σ) I2 rkw fun x dx nx nd ne => ?_
      exact make_DK hK S1 ek2 (by rw [kwK_vals, kwK_vals] at h3; exact h3) e2 nx nd ne t1 (fun v d G' H' pn' E dv q => k v d G' H' ρ1 pn' (S1.step E) (g1.trans (.ex E)) dv q) xl
end
end Td
end
section
set_option maxRecDepth 100000
set_option maxHeartbeats 4000000
/-! The data layer: a class whose __iter__ gives iter(self.f), f a tuple: walks over its instances. -/
namespace Td
open PySem PySem.Spec PyProof.Rows L2 Lw
/-- a tuple's iterator, at its begin -/
def ItT (t it : Addr) : HO := .ext fun h => h.IsTupleIter it t 0
section
variable {X : Cx}
theorem itT_ok {P : Program} {w : World} {H : Hp} {h : Heap} {t it : Addr} (e : h.IsTupleIter it t 0) : ObjOk P w H h it (ItT t it) := by
  refine ⟨e, ?_, fun h1 h2 q k => q.at fun o e => k o e⟩
  obtain ⟨o, e, _⟩ := e
  exact ⟨o, e⟩
/-- iter(t), t a tuple -/
def rIterT (K : PySem.W.Frag) (n : Nat) : List V → Hp → VK → Prop := fun xs H Q => ∃ (t : Addr) (zs : List V), xs = [.ref t] ∧ SqT K H t zs ∧ ∀ it, H it = none → n ≤ it → Q (.ref it) (upd H it (ItT t it))
theorem call_iterT : CallR X (.builtin "iter") (rIterT X.K X.s_0.heap.objs.size) := by
  intro pins s σ H xs us Q I r h
  obtain ⟨t, zs, rfl, hq, q⟩ := h
  obtain ⟨u, rfl, ru⟩ := r.one
  cases (show u = Value.ref t from ru)
  obtain ⟨its, rv, p, hz⟩ := I.tuple hq
  refine Calls.call_function_entry (by decide +kernel) (by decide +kernel) PySem.W.kdk_entry_iter (PySem.W.kdk_args_iter _) ?_
  unfold Builtin.«iter»
  refine wpAny_bind (m := someArgs "iter" 1 2 _) (wpAny_of_eq (a := [Value.ref t]) (by first | rfl | kernel_rfl!) ?_)
  show wpAny _ _ (pyIter (.ref t) >>= _) _ _ _
  refine wpAny_bind (wpAny_pyIter_tuple (show s.heap.IsTuple t its.toArray from p) ?_)
  refine wpAny_pure ⟨_, rfl, ?_⟩
  exact ⟨.ref s.heap.objs.size, _, I.laid (t' := s.toks) (fun b u e => Heap.get?_push_of_some _ e) (Nat.le_refl _) (itT_ok ⟨_, Heap.get?_push_size _ rfl, rfl, rfl⟩), rfl, q _ (I.hok.fresh (Nat.le_refl _)) I.sz⟩
end
/-- a def's run, its arguments bound as they stand -/
theorem run_plain {P : Program} {w : World} {K : PySem.W.Frag} {mg : Str → Option Value} {base : Heap} {CX : CXT} {qual nm : Str} {params : Arguments} {body : List Stmt} {scope : Scope} {f : Addr} {fd : FuncData} {N ps : List Str} {k : Nat} {A : Around} {outer : List Env} {s : Shared} {H : Hp} {us : List Value} {vs : List V} {Q : VK} {E : XK}
    (F : FunD K nm qual params body scope [] [] f fd) (S : FnScope N ps scope) (b : Binds K fd ps []) (hr : Room (k + 1) A) (e0 : Env0 P w K mg base A outer s H) (r : Vals vs us) (hl : vs.length = ps.length)
    (hb : ∀ cdv, Room k (A.deeper (envOfC qual scope s.heap.objs.size f cdv)) → ∃ t, PSs (cxOf CX P w K mg base N qual scope f cdv A outer s H E) body t ∧ t { nx := fun _ H' => Q .non H', rt := Q } (start N vs) H) :
    codeAny (model P w) A (.call (.ref f) ⟨us, []⟩) (CR CX outer P w H s Q E) s := by
  obtain ⟨oc, od, dV, kV, doc, pm, an, cdv, ct, osl, rfl, lk, hcd, _, _⟩ := F.ex
  have KX : K.In s.heap := e0.mod.kin.keeps fun b o e => (e0.bs b o e).1
  have hlu : us.length = ps.length := by rw [← r.length]; exact hl
  have bt := b s us KX (by simpa using hlu)
  rw [List.append_nil] at bt
  have kd : ∀ y ∈ ps.zip us, scope.names.lookup y.1 = some .local ∨ (scope.names.lookup y.1 = some .cell ∧ ((cellsFrom (s.heap.objs.size + 1) scope.names []).lookup y.1).isSome = true) := fun y hy =>
    (S.par y.1 (List.of_mem_zip hy).1).imp id fun q => ⟨q, PySem.W.cellsFrom_some _ _ _ (.inl q)⟩
  refine codeAny_call_function hr.depth (KX _ _ lk) rfl S.co S.gen rfl (PySem.W.codeRec_of KX hcd) (bt _ _ _ _ ?_)
  refine wpAny_newFunctionEnv_cells S.kind kd fun env he s1 x => ?_
  subst he
  refine ⟨(e0.mod.nolimit.keeps fun b o e => (e0.bs b o e).1).keeps x.toInCall.keep, codeAny_func ?_⟩
  obtain ⟨t, ht, hq⟩ := hb cdv (hr.deeper _)
  have I := inv_start (CX := CX) (qual := qual) (f := f) (cd := cdv) (E := E) S hr.hd e0 hl r x
  refine wpAny_mono (ht.run [] s1 _ _ _ I hq) (fun fl s' hs => ?_) fun e s' hs => hs
  cases fl with
  | ret u => exact let ⟨v, σ', H', J, rv, q⟩ := hs; ⟨v, H', J.os, J.bare, J.base, J.hok, rv, q⟩
  | next => exact let ⟨σ', H', J, q⟩ := hs; ⟨.non, H', J.os, J.bare, J.base, J.hok, rfl, q⟩
  | brk => exact let ⟨_, _, _, q⟩ := hs; False.elim q
  | cont => exact let ⟨_, _, _, q⟩ := hs; False.elim q
/-- an own __iter__: return iter(self.f) -/
def FIt (P : Program) (w : World) (K : PySem.W.Frag) (mg : Str → Option Value) (base : Heap) (k : Nat) (C0 g : Addr) (fl : Str) : Prop :=
  ∀ (A : Around) (outer : List Env) (s : Shared) (H : Hp) (a dx t : Addr) (fs : List (Str × V)) (xs : List V), Room k A → Env0 P w K mg base A outer s H → H a = some (.ins C0 dx fs) → fs.lookup fl = some (.ref t) → SqT K H t xs →
    codeAny (model P w) A (.call (.ref g) ⟨[.ref a], []⟩) (CR (L2.CX P w) outer P w H s (fun v H' => ∃ it, v = .ref it ∧ s.heap.objs.size ≤ it ∧ H it = none ∧ H' = upd H it (ItT t it)) (fun _ _ _ => False)) s
theorem fit_of {P : Program} {w : World} {K : PySem.W.Frag} {mg : Str → Option Value} {base : Heap} {qual nm : Str} {params : Arguments} {scope : Scope} {g C0 : Addr} {fd : FuncData} {k : Nat} {fl : Str} {e : Expr} {pos : Pos}
    (F : FunD K nm qual params [.Return (some e) pos] scope [] [] g fd) (S : FnScope [("self" : Str)] [("self" : Str)] scope) (b : Binds K fd [("self" : Str)] [])
    (he : ∀ (X : Cx), X.K = K → X.mg = mg → X.N = [("self" : Str)] → X.env.scope = scope → (∀ x, X.fn x = true) → PE X e (fun σ H Q => ∃ a dx t fs xs, σ = [some (.ref a)] ∧ H a = some (.ins C0 dx fs) ∧ fs.lookup fl = some (.ref t) ∧ SqT K H t xs ∧ ∀ it, H it = none → X.s_0.heap.objs.size ≤ it → Q (.ref it) (upd H it (ItT t it)))) : FIt P w K mg base (k + 1) C0 g fl := by
  intro A outer s H a dx t fs xs hr e0 ea el ht
  refine run_plain (vs := [.ref a]) F S b hr e0 (.cons rfl .nil) rfl fun cdv _ => ?_
  refine ⟨_, pss_one (ps_ret (he _ rfl rfl rfl rfl fun _ => rfl)), ?_⟩
  exact ⟨a, dx, t, fs, xs, rfl, ea, el, ht, fun it hn hz => ⟨it, rfl, hz, hn, rfl⟩⟩
/-- an instance's items -/
def dOwnIt (C0 : Addr) (fl : Str) (T : TDE) : TDI := fun ρ pn Q X => T ρ pn (fun d ρ1 pn1 => match d with
  | .obj C1 fs => C1 = C0 ∧ (match fs.lookup fl with
    | some (.tup ds) => Q ds ρ1 pn1
    | _ => False)
  | _ => False) X
section
variable {X : Cx} {C : Cfg} {W : WX} {tg e : Expr} {T : TDE} {C0 g : Addr} {n : Nat} {fl : Str}
theorem pdi_own (hK : C.K = X.K) (o : Ow X.K C0 "__iter__" g) (F : FIt X.prog X.w X.K X.mg X.base n C0 g fl) (hr : Room n X.A) (he : PD X C W e T) : PDI X C W tg e (dOwnIt C0 fl T) := by
  refine ⟨fun pins s σ H R I h => ?_⟩
  obtain ⟨lk, G, ρ, pn, Qd, Qx, S, t, k, xl⟩ := h
  refine thn (he.run pins s σ H (fun v H1 => ∃ (G1 : Hp) (ρ1 : SL) (pn1 : Pn) (fs : List (Str × D)) (ds : List D), StR C lk σ ρ1 pn1 G1 H1 ∧ Gr C.pp σ ρ G H ρ1 G1 H1 ∧ Dat C.K C.pp G1 v (.obj C0 fs) ∧ fs.lookup fl = some (.tup ds) ∧ Qd ds ρ1 pn1) I ⟨lk, G, ρ, pn, _, Qx, S, t, fun v d G1 H1 ρ1 pn1 S1 g1 dv t1 => ?_, xl⟩) fun v s1 ⟨x, H1, I1, r1, G1, ρ1, pn1, fs, ds, S1, g1, dv, el, t1⟩ => ?_
  · cases d <;> first | exact t1.elim | skip
    rename_i C1 fs
    obtain ⟨rfl, t2⟩ := t1
    cases z : fs.lookup fl with
    | none => rw [z] at t2; exact t2.elim
    | some w =>
      rw [z] at t2
      cases w <;> first | exact t2.elim | skip
      exact ⟨G1, ρ1, pn1, fs, _, S1, g1, dv, z, t2⟩
  · cases dv with
    | obj h1 h2 h3 h4 =>
      rename_i a dx vs
      cases (show v = Value.ref a from r1)
      have ea := (S1.sub _ _ h1).ex (fun _ z => by cases z)
      obtain ⟨tv, l1, l2⟩ := look_of h3 h4 el
      cases l2 with
      | tup q1 q2 =>
        rename_i ta xs
        have et := (S1.sub _ _ q1).ex (fun _ z => by cases z)
        obtain ⟨ox, od, J⟩ := inst_at I1 ea
        obtain ⟨m, hF⟩ := I1.fr
        have sq : SqT X.K H1 ta xs := SqT.of et
        refine PySem.W.owit_iter hF I1.ok.mod.kin J o.at_ o.fn (wpAny_call (codeAny_mono (F X.A X.stack s1 H1 a dx ta vs xs hr I1.env0 ea l1 sq) fun r s2 hq => ?_))
        cases r with
        | error er =>
          obtain ⟨_, _, _, _, _, _, _, _, _, _, _, _, z⟩ := hq
          exact z.elim
        | ok fw =>
          cases fw with
          | next => exact hq.elim
          | brk => exact hq.elim
          | cont => exact hq.elim
          | ret u =>
            obtain ⟨v2, H2, I2, r2, it, ev, hz, hn, eH⟩ := I1.after hq
            subst ev eH
            cases (show u = Value.ref it from r2)
            have ob := I2.hok it _ upd_same
            have hit : s2.heap.IsTupleIter it ta 0 := ob.1
            refine wpAny_specialOf hit.typeIs PySem.F.slot_tuple_iterator_next.lookup ?_
            have e1 : ItX.dropH (upd H1 it (ItT ta it)) it = H1 := ItX.dropH_upd hn
            have I3 := ItX.inv_drop I2 (show upd H1 it (ItT ta it) it = some (.ext fun h => h.IsTupleIter it ta 0) from upd_same)
            have f3 := ItX.inv_fp I2 (show upd H1 it (ItT ta it) it = some (ItT ta it) from upd_same) (Nat.le_trans I1.sz hz)
            rw [e1] at I3 f3
            refine ⟨it, [it], _, Itt X.K ta, H1, rfl, I3, turn_tuple ta it, hit, fun b hb => ?_, ?_⟩
            · have eb : b = it := by simpa using hb
              rw [eb]
              exact f3
            · rw [← hK]
              exact k _ _ G1 H1 ρ1 pn1 S1 g1 (itD_tup q1 q2) t1
end
end Td
end
section
set_option maxRecDepth 100000
set_option maxHeartbeats 4000000
/-! The data layer: walks over a dict's keys; the dict is locked meanwhile. -/
namespace Td
open PySem PySem.Spec PyProof.Rows L2 Lw
section
variable {C : Cfg} {lk : Lk} {σ : L2.St} {ρ : SL} {pn : Pn} {G H : Hp} {a : Addr} {od : Obj} {kvs : List (Key × V)}
theorem StR.lockD (S : StR C lk σ ρ pn G H) (h : H a = some (.dK kvs)) (g : G a = some (.dK kvs)) : StR C ((a, od, kvs) :: lk) σ ρ pn G (upd H a (.frz od (.dK kvs))) := by
  have nf : ∀ o u, H a ≠ some (.frz o u) := fun o u e => by rw [h] at e; cases e
  have nl : a ∉ lk.map (·.1) := fun hm => by
    obtain ⟨p, hp, e⟩ := List.mem_map.mp hm
    have q := (S.lkG p hp).2.1
    rw [e] at q
    exact nf _ _ q
  have nmu : a ∉ C.mu := fun hm => by
    have q := (S.muG a hm).1
    rw [g] at q
    cases q
  have rd : ∀ {o : HO}, Rd H a o → o = .dK kvs := fun {o} r => by
    rcases r with r | ⟨u, r⟩
    · rw [h] at r; exact (Option.some.inj r).symm
    · exact absurd r (nf _ _)
  refine ⟨fun b u e => ?_, S.g0, S.new, fun b u e m => ?_, fun b e => ?_, fun p hp => ?_, fun b hb => ?_, fun p hp => ?_, S.len, fun i sv e => ?_, S.apart⟩
  · by_cases hb : b = a
    · subst hb
      rw [g] at e
      cases e
      exact .inr ⟨⟨kvs, rfl⟩, .inr ⟨od, upd_same⟩⟩
    · exact (S.sub b u e).elim (fun q => .inl (by rw [upd_ne hb]; exact q)) fun ⟨k, r⟩ => .inr ⟨k, r.elim (fun r => .inl (by rw [upd_ne hb]; exact r)) fun ⟨w, r⟩ => .inr ⟨w, by rw [upd_ne hb]; exact r⟩⟩
  · obtain ⟨k1, k2⟩ := S.keep b u e m
    by_cases hb : b = a
    · subst hb
      have := rd k1
      subst this
      exact ⟨.inr ⟨od, upd_same⟩, fun l => absurd List.mem_cons_self l⟩
    · exact ⟨k1.elim (fun r => .inl (by rw [upd_ne hb]; exact r)) fun ⟨w, r⟩ => .inr ⟨w, by rw [upd_ne hb]; exact r⟩, fun l => by rw [upd_ne hb]; exact k2 fun z => l (List.mem_cons_of_mem _ z)⟩
  · by_cases hb : b = a
    · rw [hb, upd_same]; simp
    · rw [upd_ne hb]; exact S.live b e
  · rcases List.mem_cons.mp hp with z | z
    · subst z
      refine ⟨g, upd_same, fun o u e => ?_⟩
      have := rd (S.keep a _ e nmu).1
      cases this
    · obtain ⟨z1, z2, z3⟩ := S.lkG p z
      refine ⟨z1, ?_, z3⟩
      rw [upd_ne fun q => nl (List.mem_map.mpr ⟨p, z, q⟩)]
      exact z2
  · obtain ⟨z1, z2, z3⟩ := S.muG b hb
    refine ⟨z1, ?_, z3⟩
    rw [upd_ne fun q => nmu (by rw [← q]; exact hb)]
    exact z2
  · obtain ⟨z0, z1, P⟩ := S.pen p hp
    have n1 : p ≠ a := fun z => by rw [z, g] at z1; cases z1
    have n2 : C.pp.c ≠ a := fun z => by
      have q := P.ce
      rw [z, h] at q
      cases q
    exact ⟨z0, z1, ⟨by rw [upd_ne n1]; exact P.ob, by rw [upd_ne n2]; exact P.ce, P.i0, P.r0, P.l63⟩⟩
  · have q := S.slot i sv e
    have ng : ∀ {b : Addr}, G b = none → b ≠ a := fun e z => by rw [z, g] at e; cases e
    cases sv with
    | un => trivial
    | fz d => exact q
    | ol ds => obtain ⟨b, xs, e, q, r, rr⟩ := q; exact ⟨b, xs, e, by rw [upd_ne (ng r)]; exact q, r, rr⟩
    | od ds => obtain ⟨b, xs, e, q, r, rr⟩ := q; exact ⟨b, xs, e, by rw [upd_ne (ng r)]; exact q, r, rr⟩
    | oo T ds =>
      obtain ⟨b, dx, fs, e, q, q2, r, rr⟩ := q
      exact ⟨b, dx, fs, e, by rw [upd_ne (ng r)]; exact q, by rw [upd_ne fun z => by rw [z, h] at q2; cases q2]; exact q2, r, rr⟩
theorem StR.unlockD (S : StR C ((a, od, kvs) :: lk) σ ρ pn G H) (nl : a ∉ lk.map (·.1)) (h3 : ∀ o u, C.H0 a ≠ some (.frz o u)) : StR C lk σ ρ pn G (upd H a (.dK kvs)) := by
  obtain ⟨g, h, _⟩ := S.lkG _ List.mem_cons_self
  have nmu : a ∉ C.mu := fun hm => by
    have q := (S.muG a hm).1
    rw [g] at q
    cases q
  refine ⟨fun b u e => ?_, S.g0, S.new, fun b u e m => ?_, fun b e => ?_, fun p hp => ?_, fun b hb => ?_, fun p hp => ?_, S.len, fun i sv e => ?_, S.apart⟩
  · by_cases hb : b = a
    · subst hb
      rw [g] at e
      cases e
      exact .inl upd_same
    · exact (S.sub b u e).elim (fun q => .inl (by rw [upd_ne hb]; exact q)) fun ⟨k, r⟩ => .inr ⟨k, r.elim (fun r => .inl (by rw [upd_ne hb]; exact r)) fun ⟨w, r⟩ => .inr ⟨w, by rw [upd_ne hb]; exact r⟩⟩
  · obtain ⟨k1, k2⟩ := S.keep b u e m
    by_cases hb : b = a
    · subst hb
      have eu : u = .dK kvs := by
        rcases k1 with r | ⟨w, r⟩
        · rw [h] at r
          have := Option.some.inj r
          exact absurd (by rw [e, ← this]) (h3 od (.dK kvs))
        · rw [h] at r
          cases r
          rfl
      subst eu
      exact ⟨.inl upd_same, fun _ => upd_same⟩
    · exact ⟨k1.elim (fun r => .inl (by rw [upd_ne hb]; exact r)) fun ⟨w, r⟩ => .inr ⟨w, by rw [upd_ne hb]; exact r⟩, fun l => by
        rw [upd_ne hb]
        refine k2 fun z => ?_
        rcases List.mem_cons.mp z with z | z
        · exact hb z
        · exact l z⟩
  · by_cases hb : b = a
    · rw [hb, upd_same]; simp
    · rw [upd_ne hb]; exact S.live b e
  · obtain ⟨z1, z2, z3⟩ := S.lkG p (List.mem_cons_of_mem _ hp)
    refine ⟨z1, ?_, z3⟩
    rw [upd_ne fun q => nl (List.mem_map.mpr ⟨p, hp, q⟩)]
    exact z2
  · obtain ⟨z1, z2, z3⟩ := S.muG b hb
    refine ⟨z1, ?_, z3⟩
    rw [upd_ne fun q => nmu (by rw [← q]; exact hb)]
    exact z2
  · obtain ⟨z0, z1, P⟩ := S.pen p hp
    have n1 : p ≠ a := fun z => by rw [z, g] at z1; cases z1
    have n2 : C.pp.c ≠ a := fun z => by
      have q := P.ce
      rw [z, h] at q
      cases q
    exact ⟨z0, z1, ⟨by rw [upd_ne n1]; exact P.ob, by rw [upd_ne n2]; exact P.ce, P.i0, P.r0, P.l63⟩⟩
  · have q := S.slot i sv e
    have ng : ∀ {b : Addr}, G b = none → b ≠ a := fun e z => by rw [z, g] at e; cases e
    cases sv with
    | un => trivial
    | fz d => exact q
    | ol ds => obtain ⟨b, xs, e, q, r, rr⟩ := q; exact ⟨b, xs, e, by rw [upd_ne (ng r)]; exact q, r, rr⟩
    | od ds => obtain ⟨b, xs, e, q, r, rr⟩ := q; exact ⟨b, xs, e, by rw [upd_ne (ng r)]; exact q, r, rr⟩
    | oo T ds =>
      obtain ⟨b, dx, fs, e, q, q2, r, rr⟩ := q
      exact ⟨b, dx, fs, e, by rw [upd_ne (ng r)]; exact q, by rw [upd_ne fun z => by rw [z, h] at q2; cases q2]; exact q2, r, rr⟩
theorem StR.nofrz (S : StR C lk σ ρ pn G H) (h : H a = some (.dK kvs)) (g : G a = some (.dK kvs)) : ∀ o u, C.H0 a ≠ some (.frz o u) := fun o u e => by
  have nmu : a ∉ C.mu := fun hm => by
    have q := (S.muG a hm).1
    rw [g] at q
    cases q
  rcases (S.keep a _ e nmu).1 with r | ⟨w, r⟩ <;> rw [h] at r <;> cases r
/-- what is locked already is known to be so -/
theorem StR.lockOld (S : StR C lk σ ρ pn G H) (h : H a = some (.frz od (.dK kvs))) (g : G a = some (.dK kvs)) (nl : a ∉ lk.map (·.1)) : StR C ((a, od, kvs) :: lk) σ ρ pn G H := by
  have nmu : a ∉ C.mu := fun hm => by
    have q := (S.muG a hm).1
    rw [g] at q
    cases q
  refine ⟨S.sub, S.g0, S.new, fun b u e m => ?_, S.live, fun p hp => ?_, S.muG, S.pen, S.len, S.slot, S.apart⟩
  · obtain ⟨k1, k2⟩ := S.keep b u e m
    exact ⟨k1, fun l => k2 fun z => l (List.mem_cons_of_mem _ z)⟩
  · rcases List.mem_cons.mp hp with z | z
    · subst z
      refine ⟨g, h, fun o u e => ?_⟩
      have q := (S.keep a _ e nmu).2 nl
      rw [h] at q
      cases q
      exact ⟨rfl, rfl⟩
    · exact S.lkG p z
theorem StR.old (S : StR C lk σ ρ pn G H) (h : H a = some (.frz od (.dK kvs))) (g : G a = some (.dK kvs)) (nl : a ∉ lk.map (·.1)) : ∀ o, C.H0 a = some o → o = .frz od (.dK kvs) := fun o e => by
  have nmu : a ∉ C.mu := fun hm => by
    have q := (S.muG a hm).1
    rw [g] at q
    cases q
  have q := (S.keep a _ e nmu).2 nl
  rw [h] at q
  exact (Option.some.inj q).symm
theorem StR.unlockOld (S : StR C ((a, od, kvs) :: lk) σ ρ pn G H) (f : ∀ o, C.H0 a = some o → o = .frz od (.dK kvs)) : StR C lk σ ρ pn G H := by
  obtain ⟨g, h, _⟩ := S.lkG _ List.mem_cons_self
  refine ⟨S.sub, S.g0, S.new, fun b u e m => ?_, S.live, fun p hp => S.lkG p (List.mem_cons_of_mem _ hp), S.muG, S.pen, S.len, S.slot, S.apart⟩
  obtain ⟨k1, k2⟩ := S.keep b u e m
  refine ⟨k1, fun l => ?_⟩
  by_cases hb : b = a
  · subst hb
    rw [f u e]
    exact h
  · refine k2 fun z => ?_
    rcases List.mem_cons.mp z with z | z
    · exact hb z
    · exact l z
theorem lk_fresh (S : StR C lk σ ρ pn G H) (h : H a = some (.dK kvs)) : a ∉ lk.map (·.1) := fun hm => by
  obtain ⟨p, hp, e⟩ := List.mem_map.mp hm
  have q := (S.lkG p hp).2.1
  rw [e, h] at q
  cases q
end
def keyD : Key → D
  | .inl i => .int i
  | .inr x => .str x
theorem keyD_dat {K : PySem.W.Frag} {pp : PP} {G : Hp} : ∀ k : Key, Dat K pp G (kV k) (keyD k)
  | .inl i => .int i
  | .inr x => .str x
theorem itD_keys {K : PySem.W.Frag} {pp : PP} {lk : Lk} {G : Hp} {a : Addr} {od : Obj} {kvs : List (Key × V)} {ds : List (Key × D)} (m : (a, od, kvs) ∈ lk) (e : kvs.map (·.1) = ds.map (·.1)) : ItD K pp lk G (Itk a od kvs) (ds.map fun p => keyD p.1) := by
  have hl : kvs.length = ds.length := by
    have := congrArg List.length e
    simpa using this
  refine ⟨fun i G1 H1 pn x s l hi => ⟨l _ m, ?_⟩, fun i G1 H1 pn v H' d x s l e1 y => ?_, fun G1 H1 pn x s l => ⟨l _ m, by simp [hl]⟩⟩
  · simp at hi
    omega
  · obtain ⟨rfl, k, w, h1, rfl⟩ := y
    refine ⟨G1, x, ?_⟩
    have h2 : (ds.map (·.1))[i]? = some k := by rw [← e, List.getElem?_map, h1]; rfl
    rw [List.getElem?_map] at e1 h2
    cases q : ds[i]? with
    | none => rw [q] at h2; cases h2
    | some p =>
      rw [q] at e1 h2
      cases h2
      cases e1
      exact keyD_dat _
/-- the keys of the dict in a slot -/
def dKeysN (i : Nat) : TDI := fun ρ pn Q _ => match ρ[i]? with
  | some (.fz (.dic ds)) => Q (ds.map fun p => keyD p.1) ρ pn
  | some (.od ds) => Q (ds.map fun p => keyD p.1) (ρ.set i (.fz (.dic ds))) pn
  | _ => False
theorem Gr.unlock {pp : PP} {σ : L2.St} {ρ ρ' : SL} {G G' H H' : Hp} {a : Addr} {od : Obj} {kvs : List (Key × V)} (h : H a = some (.dK kvs)) (g : Gr pp σ ρ G (upd H a (.frz od (.dK kvs))) ρ' G' H') : Gr pp σ ρ G H ρ' G' (upd H' a (.dK kvs)) := by
  have live : ∀ b, H b ≠ none → upd H a (.frz od (.dK kvs)) b ≠ none := fun b e => by
    by_cases hb : b = a
    · rw [hb, upd_same]; simp
    · rw [upd_ne hb]; exact e
  refine ⟨g.same, fun b e => ?_, fun b o e n => ?_, fun b e => ?_, g.ow⟩
  · rcases g.new b e with z | z | z
    · exact .inl z
    · refine .inr (.inl ?_)
      cases q : H b with
      | none => rfl
      | some u => exact absurd z (live b (by rw [q]; simp))
    · exact .inr (.inr z)
  · by_cases hb : b = a
    · subst hb
      rw [h] at e
      cases e
      exact upd_same
    · rw [upd_ne hb]
      exact g.bu b o (by rw [upd_ne hb]; exact e) n
  · by_cases hb : b = a
    · rw [hb, upd_same]; simp
    · rw [upd_ne hb]; exact g.live b (live b e)
/-- the source of a walk: a locked dict in a slot -/
theorem keys_ti {C : Cfg} {i : Nat} {σ : L2.St} {H : Hp} {a : Addr} {od : Obj} {kvs : List (Key × V)} (ea : σ[i]? = some (some (.ref a))) (lk : Lk) (G : Hp) (ρ : SL) (pn : Pn) (Qd : List D → SL → Pn → Prop) (Qx : XD) (R : It → Hp → Prop) (m : (a, od, kvs) ∈ lk)
    (S : StR C lk σ ρ pn G H) (t : dKeysN i ρ pn Qd Qx) (k : ∀ (J : It) (items : List D) (G' H' : Hp) (ρ' : SL) (pn' : Pn), StR C lk σ ρ' pn' G' H' → Gr C.pp σ ρ G H ρ' G' H' → ItD C.K C.pp lk G' J items → Qd items ρ' pn' → R J H') : iKeys (tVar i) σ H R := by
  obtain ⟨g, h, _⟩ := S.lkG _ m
  refine ⟨.ref a, ea, a, od, rfl, .inl ⟨kvs, h, ?_⟩⟩
  unfold dKeysN at t
  cases e : ρ[i]? with
  | none => rw [e] at t; exact t.elim
  | some sv =>
    rw [e] at t
    cases sv with
    | un => exact t.elim
    | ol _ => exact t.elim
    | oo _ _ => exact t.elim
    | od ds =>
      obtain ⟨b, kv, eb, hb, gb, _⟩ := S.slot i _ e
      rw [ea] at eb
      cases eb
      rw [h] at hb
      cases hb
    | fz d =>
      cases d <;> first | exact t.elim | skip
      rename_i ds
      obtain ⟨y, ey, hy⟩ := S.slot i _ e
      rw [ea] at ey
      cases ey
      cases hy with
      | dic h1 h2 h3 =>
        rw [g] at h1
        cases h1
        exact k _ _ G H ρ pn S .refl (itD_keys m h2) t
/-- a comprehension over a dict in a slot, the dict locked meanwhile (or already) -/
theorem lcK_of {C : Cfg} {W : WX} {i : Nat} {own : List (Str × Nat)} {is : List Nat} {g : TDG} {TT : TDT} {TE : TDE} {σ : L2.St} {H : Hp} {Q : VK} (hv : ∀ i ∈ is, i ∈ own.map (·.2)) (q : tD C W (dLc (dKeysN i) (own.map (·.2)) g TT TE) σ H Q) :
    tLockE (tLc (iKeys (tVar i)) (tG C is g) (tT C W0 TT) (tD C W0 TE) (own.map (·.2))) σ H Q ∨ tLc (iKeys (tVar i)) (tG C is g) (tT C W0 TT) (tD C W0 TE) (own.map (·.2)) σ H Q := by
  obtain ⟨lk, G, ρ, pn, Qd, Qx, S, t, k, xl⟩ := q
  have fz : ∃ (G1 : Hp) (ρ1 : SL) (ds : List (Key × D)), StR C lk σ ρ1 pn G1 H ∧ Gr C.pp σ ρ G H ρ1 G1 H ∧ ρ1[i]? = some (.fz (.dic ds)) ∧ lcW (own.map (·.2)) g TT TE (ds.map fun p => keyD p.1) [] (wipeD ρ1 (own.map (·.2))) pn fun acc ρ2 pn2 => Qd (.lst acc) (wipeD ρ2 (own.map (·.2))) pn2 := by
    unfold dLc dKeysN at t
    cases e : ρ[i]? with
    | none => rw [e] at t; exact t.elim
    | some sv =>
      rw [e] at t
      cases sv with
      | un => exact t.elim
      | ol _ => exact t.elim
      | oo _ _ => exact t.elim
      | od ds =>
        obtain ⟨y, G', ey, s, hy, S'⟩ := S.freezeD e
        exact ⟨G', _, ds, S', .froze (sv := .un) s.1 s.2, List.getElem?_set_self (List.getElem?_eq_some_iff.mp e).1, t⟩
      | fz d =>
        cases d <;> first | exact t.elim | skip
        exact ⟨G, ρ, _, S, .refl, e, t⟩
  clear t
  obtain ⟨G1, ρ1, ds, S1, g1, e1, t1⟩ := fz
  have t2 : dKeysN i ρ1 pn (fun items ρ1 pn1 => lcW (own.map (·.2)) g TT TE items [] (wipeD ρ1 (own.map (·.2))) pn1 fun acc ρ2 pn2 => Qd (.lst acc) (wipeD ρ2 (own.map (·.2))) pn2) X0 := by
    unfold dKeysN
    rw [e1]
    exact t1
  obtain ⟨y, ey, hy⟩ := S1.slot i _ e1
  cases hy with
  | dic ha hk hl =>
    rename_i a kvs
    have fin : ∀ (v : V) (xs : List V) (ds' : List D) (b : Addr) (G' H' : Hp) (ρ' : SL) (pn' : Pn), StR C lk σ ρ' pn' G' H' → Gr C.pp σ ρ1 G1 H ρ' G' H' → H b = none → H' b = some (.lst xs) → G' b = none → C.H0 b = none → ¬ OwnAt σ ρ' b → DatL C.K C.pp G' xs ds' → Qd (.lst ds') ρ' pn' → Q (.ref b) H' := fun v xs ds' b G' H' ρ' pn' S' g' hb eb gb n0 nw l q =>
      k (.ref b) (.lst ds') (upd G' b (.lst xs)) H' ρ' pn' (S'.freezeA eb gb n0 nw) (g1.trans (Gr.freezeA g' gb hb)) (.lst upd_same (l.keep (Same.new gb))) q
    rcases (S1.sub _ _ ha).rd with h | ⟨od, h⟩
    · left
      refine ⟨a, .dK kvs, h, trivial, fun od => ?_⟩
      have nz := S1.nofrz h ha
      have nl := lk_fresh S1 h
      refine lc_runG (W := W0) (PL := fun l => (a, od, kvs) ∈ l) (I := dKeysN i) (fun l G' ρ' pn' Qd' Qx' R m S' t' k' _ => keys_ti ey l G' ρ' pn' Qd' Qx' R m S' t' k') hv ⟨(a, od, kvs) :: lk, G1, ρ1, pn, (fun sv ρ pn => match sv with | .ol acc => Qd (.lst acc) ρ pn | _ => False), X0, List.mem_cons_self, S1.lockD h ha, t2, fun b xs ds' G' H' ρ' pn' S' g' hb eb gb n0 nw nc np l q => ?_, xl0⟩
      have hb2 : b ≠ a := fun z => by rw [z, upd_same] at hb; cases hb
      refine ⟨(S'.lkG _ List.mem_cons_self).2.1, ?_⟩
      exact fin .non xs ds' b G' (upd H' a (.dK kvs)) ρ' pn' (S'.unlockD nl nz) (Gr.unlock h g') (by rw [upd_ne hb2] at hb; exact hb) (by rw [upd_ne hb2]; exact eb) gb n0 nw l q
    · right
      by_cases nl : a ∈ lk.map (·.1)
      · obtain ⟨p, hp, ep⟩ := List.mem_map.mp nl
        obtain ⟨p1, od', kvs'⟩ := p
        have ep' : p1 = a := ep
        subst ep'
        have q := (S1.lkG _ hp).2.1
        rw [h] at q
        cases q
        refine lc_runG (W := W0) (PL := fun l => l = lk) (I := dKeysN i) (fun l G' ρ' pn' Qd' Qx' R m S' t' k' _ => by subst m; exact keys_ti ey l G' ρ' pn' Qd' Qx' R hp S' t' k') hv ⟨lk, G1, ρ1, pn, (fun sv ρ pn => match sv with | .ol acc => Qd (.lst acc) ρ pn | _ => False), X0, rfl, S1, t2, fun b xs ds' G' H' ρ' pn' S' g' hb eb gb n0 nw nc np l q => ?_, xl0⟩
        exact fin .non xs ds' b G' H' ρ' pn' S' g' hb eb gb n0 nw l q
      · refine lc_runG (W := W0) (PL := fun l => (a, od, kvs) ∈ l) (I := dKeysN i) (fun l G' ρ' pn' Qd' Qx' R m S' t' k' _ => keys_ti ey l G' ρ' pn' Qd' Qx' R m S' t' k') hv ⟨(a, od, kvs) :: lk, G1, ρ1, pn, (fun sv ρ pn => match sv with | .ol acc => Qd (.lst acc) ρ pn | _ => False), X0, List.mem_cons_self, S1.lockOld h ha nl, t2, fun b xs ds' G' H' ρ' pn' S' g' hb eb gb n0 nw nc np l q => ?_, xl0⟩
        exact fin .non xs ds' b G' H' ρ' pn' (S'.unlockOld (S1.old h ha nl)) g' hb eb gb n0 nw l q
section
variable {X : Cx} {C : Cfg} {W : WX} {pos px : Pos} {x : Str} {elt tg : Expr} {ifs : List Expr} {scope : Scope} {own : List (Str × Nat)} {is : List Nat} {g : TDG} {TT : TDT} {TE : TDE} {i : Nat}
theorem pd_lcK (hc : X.calm = true) (hN : X.N.Nodup) (hv : ∀ i ∈ is, i ∈ own.map (·.2)) (hx : PE X (.Name x px) (tVar i)) (ok : BlkOk X.N X.env.scope scope own)
    (hg : ∀ (s : Shared) (H : Hp) (Cc : Addr) (cl : List (Str × Addr)) (fp : List Addr), PDG (X.blk s H scope (compEnvC scope cl Cc X.env) fp) C is tg g) (ht : ∀ (s : Shared) (H : Hp) (Cc : Addr) (cl : List (Str × Addr)) (fp : List Addr), PDTs (X.blk s H scope (compEnvC scope cl Cc X.env) fp) C W0 ifs TT)
    (he : ∀ (s : Shared) (H : Hp) (Cc : Addr) (cl : List (Str × Addr)) (fp : List Addr), PD (X.blk s H scope (compEnvC scope cl Cc X.env) fp) C W0 elt TE) (hs : ∀ y, foldedSetIterable (.Name x px) X.env y = pure y := by intro _; rfl) :
    PD X C W (.ListComp elt [⟨tg, .Name x px, ifs, 0⟩] scope pos) (dLc (dKeysN i) (own.map (·.2)) g TT TE) := by
  have h := pe_lc (pos := pos) hc hN (pi_keys hx) ok hg ht he hs
  refine ⟨fun pins s σ H Q I q => ?_⟩
  rcases lcK_of hv q with q | q
  · exact (pe_lock h).run pins s σ H Q I q
  · exact h.run pins s σ H Q I q
end
end Td
end
section
set_option maxRecDepth 100000
set_option maxHeartbeats 4000000
/-! The data layer: for over a dict's keys; the dict is locked meanwhile, and an exception that leaves the walk unlocks it. -/
namespace Td
open PySem PySem.Spec PyProof.Rows L2 Lw
theorem takes_unlock {X : Cx} {W : WX} {a : Addr} {od : Obj} {u : HO} (tk : Takes X W) (hn : ∀ o' u', X.H_0 a ≠ some (.frz o' u')) : Takes X (fun c d σ H' => H' a = some (.frz od u) ∧ W c d σ (upd H' a u)) := fun v s' ⟨b, B, sI, pins, σ, H, cls, d, e, I, nb, up, sky, na, os, ag, w1, w2⟩ =>
  tk v s' ⟨b, B, sI, pins, σ, upd H a u, cls, d, e, I.unlock w1 hn, nb, up, sky, by rw [upd_ne fun z => by rw [z, w1] at na; cases na]; exact na, os, ag, w2⟩
section
variable {X : Cx} {C : Cfg} {W : WX} {pos px : Pos} {x : Str} {tg : Expr} {body : List Stmt} {g : TDG} {is : List Nat} {T : TDS} {i : Nat}
theorem for_runG {ti : TI} {PL : Lk → Prop} {I : TDI} {σ : L2.St} {H : Hp} {D : Ends}
    (hti : ∀ (lk : Lk) (G : Hp) (ρ : SL) (pn : Pn) (Qd : List Td.D → SL → Pn → Prop) (Qx : XD) (R : It → Hp → Prop), PL lk → StR C lk σ ρ pn G H → I ρ pn Qd Qx → (∀ (J : It) (items : List Td.D) (G' H' : Hp) (ρ' : SL) (pn' : Pn), StR C lk σ ρ' pn' G' H' → Gr C.pp σ ρ G H ρ' G' H' → ItD C.K C.pp lk G' J items → Qd items ρ' pn' → R J H') → XL C W lk σ Qx → ti σ H R)
    (q : ∃ (lk : Lk) (G : Hp) (ρ : SL) (pn : Pn) (E : DE), PL lk ∧ StR C lk σ ρ pn G H ∧ dFor I g T E ρ pn ∧ Lnk C W lk G D E) : tFor ti (tG C is g) (tS C W T) D σ H := by
  obtain ⟨lk, G, ρ, pn, E, pl, S, t, L⟩ := q
  refine hti lk G ρ pn _ _ _ pl S t (fun J items G1 H1 ρ1 pn1 S1 g1 it q => ?_) (L.xd σ)
  refine ⟨fun i m σ H => m = items.length - i ∧ i ≤ items.length ∧ ∃ (G2 : Hp) (ρ2 : SL) (pn2 : Pn), StR C lk σ ρ2 pn2 G2 H ∧ Same G1 G2 ∧ forW g T E (items.drop i) ρ2 pn2, ⟨items.length, by simp, Nat.zero_le _, G1, ρ1, pn1, S1, fun _ _ h => h, q⟩, ?_⟩
  rintro i m σ H ⟨rfl, hi2, G2, ρ2, pn2, S2, s2, w⟩
  have lkk : ∀ p ∈ lk, H p.1 = some (.frz p.2.1 (.dK p.2.2)) := fun p hp => (S2.lkG p hp).2.1
  by_cases hlt : i < items.length
  · rw [List.drop_eq_getElem_cons hlt] at w
    refine .inr ⟨it.go i G2 H pn2 S2.ex0 s2 lkk hlt, fun σ' H' => ∃ (G3 : Hp) (ρ3 : SL) (pn3 : Pn), StR C lk σ' ρ3 pn3 G3 H' ∧ Same G1 G3 ∧ forW g T E (items.drop (i + 1)) ρ3 pn3,
      fun σ' H' ⟨G3, ρ3, pn3, S3, s3, w3⟩ => ⟨items.length - (i + 1), by omega, rfl, hlt, G3, ρ3, pn3, S3, s3, w3⟩, fun x H' y => ?_⟩
    obtain ⟨G', ex, dx⟩ := it.yld i G2 H pn2 x H' items[i] S2.ex0 s2 lkk (List.getElem?_eq_getElem hlt) y
    have S3 := S2.step ex
    refine ⟨lk, G', ρ2, pn2, items[i], _, S3, dx, w, fun σ' ρ' _ _ S4 w4 => ⟨lk, G', ρ', pn2, _, S4, w4, ?_⟩⟩
    have s3 := s2.trans ex.same
    exact ⟨fun σ' ρ' pn' G' H' S' s e => ⟨G', ρ', pn', S', s3.trans s, e⟩, fun σ' ρ' pn' G' H' S' s e => L.nx σ' ρ' pn' G' H' S' (g1.same.trans (s3.trans s)) e, fun σ' ρ' pn' G' H' S' s e => ⟨G', ρ', pn', S', s3.trans s, e⟩, L.rt, L.xd⟩
  · have e : i = items.length := by omega
    subst e
    rw [List.drop_length] at w
    exact .inl ⟨it.stop G2 H pn2 S2.ex0 s2 lkk, L.nx σ ρ2 pn2 G2 H S2 (g1.same.trans s2) w⟩
/-- for x in d: .., d a dict in a slot -/
theorem pds_forK (hp : PassesOwn (model X.prog X.w) X.A X.env X.xe) (hc : X.calm = true) (tk : Takes X W) (hx : PE X (.Name x px) (tVar i)) (hg : PDG X C is tg g) (hb : ∀ W' : WX, Takes X W' → PDSs X C W' body T)
    (hs : ∀ y, foldedSetIterable (.Name x px) X.env y = pure y := by intro _; rfl) : PDS X C W (.For tg (.Name x px) body [] pos) (dFor (dKeysN i) g T) := by
  refine ⟨fun pins s σ H D I q => ?_⟩
  obtain ⟨lk, G, ρ, pn, E, S, t, L⟩ := q
  have fz : ∃ (G1 : Hp) (ρ1 : SL) (ds : List (Key × Td.D)), StR C lk σ ρ1 pn G1 H ∧ Same G G1 ∧ ρ1[i]? = some (.fz (.dic ds)) ∧ forW g T E (ds.map fun p => keyD p.1) ρ1 pn := by
    unfold dFor dKeysN at t
    cases e : ρ[i]? with
    | none => rw [e] at t; exact t.elim
    | some sv =>
      rw [e] at t
      cases sv with
      | un => exact t.elim
      | ol _ => exact t.elim
      | oo _ _ => exact t.elim
      | od ds =>
        obtain ⟨y, G', ey, s, hy, S'⟩ := S.freezeD e
        exact ⟨G', _, ds, S', s.1, List.getElem?_set_self (List.getElem?_eq_some_iff.mp e).1, t⟩
      | fz d =>
        cases d <;> first | exact t.elim | skip
        exact ⟨G, ρ, _, S, sameRefl, e, t⟩
  clear t
  obtain ⟨G1, ρ1, ds, S1, g1, e1, t1⟩ := fz
  have t2 : dFor (dKeysN i) g T E ρ1 pn := by
    unfold dFor dKeysN
    rw [e1]
    exact t1
  have L1 := L.mono g1
  obtain ⟨y, ey, hy⟩ := S1.slot i _ e1
  cases hy with
  | dic ha hk hl =>
    rename_i a kvs
    rcases (S1.sub _ _ ha).rd with h | ⟨od, h⟩
    · obtain ⟨od, I1⟩ := I.lock h (show Mut (some (.dK kvs)) from trivial)
      have hn := I.nofrz h (show Mut (some (.dK kvs)) from trivial)
      have nz := S1.nofrz h ha
      have nl := lk_fresh S1 h
      have tk' := takes_unlock (od := od) (u := .dK kvs) tk hn
      have P := ps_for (pos := pos) hp hc (pi_keys hx) hg (hb _ tk') hs
      have lnk : Lnk C (fun c d σ H' => H' a = some (.frz od (.dK kvs)) ∧ W c d σ (upd H' a (.dK kvs))) ((a, od, kvs) :: lk) G1
          ⟨fun σ' H' => H' a = some (.frz od (.dK kvs)) ∧ D.nx σ' (upd H' a (.dK kvs)), fun v H' => H' a = some (.frz od (.dK kvs)) ∧ D.rt v (upd H' a (.dK kvs)), fun σ' H' => H' a = some (.frz od (.dK kvs)) ∧ D.bk σ' (upd H' a (.dK kvs)), fun σ' H' => H' a = some (.frz od (.dK kvs)) ∧ D.ct σ' (upd H' a (.dK kvs))⟩ E :=
        ⟨fun σ' ρ' pn' G' H' S' s e => ⟨(S'.lkG _ List.mem_cons_self).2.1, L1.nx σ' ρ' pn' G' _ (S'.unlockD nl nz) s e⟩, fun σ' ρ' pn' G' H' S' s e => ⟨(S'.lkG _ List.mem_cons_self).2.1, L1.bk σ' ρ' pn' G' _ (S'.unlockD nl nz) s e⟩, fun σ' ρ' pn' G' H' S' s e => ⟨(S'.lkG _ List.mem_cons_self).2.1, L1.ct σ' ρ' pn' G' _ (S'.unlockD nl nz) s e⟩,
          fun v d σ' ρ' pn' G' H' S' dv e => ⟨(S'.lkG _ List.mem_cons_self).2.1, L1.rt v d σ' ρ' pn' G' _ (S'.unlockD nl nz) dv e⟩, fun σ' c d fs ds' G' H' ρ' pn' S' e1 e2 e3 q => ⟨(S'.lkG _ List.mem_cons_self).2.1, L1.xd σ' c d fs ds' G' _ ρ' pn' (S'.unlockD nl nz) e1 e2 e3 q⟩⟩
      refine thn (P.run pins s σ _ _ I1 (for_runG (PL := fun l => (a, od, kvs) ∈ l) (I := dKeysN i) (fun l G' ρ' pn' Qd' Qx' R m S' t' k' _ => keys_ti ey l G' ρ' pn' Qd' Qx' R m S' t' k') ⟨(a, od, kvs) :: lk, G1, ρ1, pn, E, List.mem_cons_self, S1.lockD h ha, t2, lnk⟩)) fun f s1 q => ?_
      cases f with
      | next => obtain ⟨σ', H', I2, e, q⟩ := q; exact ⟨σ', _, I2.unlock e hn, q⟩
      | brk => obtain ⟨σ', H', I2, e, q⟩ := q; exact ⟨σ', _, I2.unlock e hn, q⟩
      | cont => obtain ⟨σ', H', I2, e, q⟩ := q; exact ⟨σ', _, I2.unlock e hn, q⟩
      | ret v => obtain ⟨x, σ', H', I2, r, e, q⟩ := q; exact ⟨x, σ', _, I2.unlock e hn, r, q⟩
    · have P := ps_for (pos := pos) hp hc (pi_keys hx) hg (hb _ tk) hs
      by_cases nl : a ∈ lk.map (·.1)
      · obtain ⟨p, hp', ep⟩ := List.mem_map.mp nl
        obtain ⟨p1, od', kvs'⟩ := p
        have ep' : p1 = a := ep
        subst ep'
        have q := (S1.lkG _ hp').2.1
        rw [h] at q
        cases q
        exact P.run pins s σ H D I (for_runG (PL := fun l => l = lk) (I := dKeysN i) (fun l G' ρ' pn' Qd' Qx' R m S' t' k' _ => by subst m; exact keys_ti ey l G' ρ' pn' Qd' Qx' R hp' S' t' k') ⟨lk, G1, ρ1, pn, E, rfl, S1, t2, L1⟩)
      · have old := S1.old h ha nl
        have lnk : Lnk C W ((a, od, kvs) :: lk) G1 D E :=
          ⟨fun σ' ρ' pn' G' H' S' s e => L1.nx σ' ρ' pn' G' _ (S'.unlockOld old) s e, fun σ' ρ' pn' G' H' S' s e => L1.bk σ' ρ' pn' G' _ (S'.unlockOld old) s e, fun σ' ρ' pn' G' H' S' s e => L1.ct σ' ρ' pn' G' _ (S'.unlockOld old) s e,
            fun v d σ' ρ' pn' G' H' S' dv e => L1.rt v d σ' ρ' pn' G' _ (S'.unlockOld old) dv e, fun σ' c d fs ds' G' H' ρ' pn' S' e1 e2 e3 q => L1.xd σ' c d fs ds' G' _ ρ' pn' (S'.unlockOld old) e1 e2 e3 q⟩
        exact P.run pins s σ H D I (for_runG (PL := fun l => (a, od, kvs) ∈ l) (I := dKeysN i) (fun l G' ρ' pn' Qd' Qx' R m S' t' k' _ => keys_ti ey l G' ρ' pn' Qd' Qx' R m S' t' k') ⟨(a, od, kvs) :: lk, G1, ρ1, pn, E, List.mem_cons_self, S1.lockOld h ha nl, t2, lnk⟩)
end
end Td
end
section
set_option maxRecDepth 100000
set_option maxHeartbeats 4000000
/-! The data layer: comprehensions of dicts; calls by keywords. -/
namespace Td
open PySem PySem.Spec PyProof.Rows L2 Lw
/-- the turns of a comprehension of a dict -/
def dcW (vs : List Nat) (g : TDG) (TT : TDT) (TK TE : TDE) : List D → List (Key × D) → SL → Pn → (List (Key × D) → SL → Pn → Prop) → Prop
  | [], acc, ρ, pn, Q => Q acc ρ pn
  | d :: r, acc, ρ, pn, Q => g d ρ fun ρ1 => TT ρ1 pn (fun b ρ2 pn2 => if b = true then TK ρ2 pn2 (fun kd ρ3 pn3 => TE ρ3 pn3 (fun e ρ4 pn4 => acc.length < sizeLine ∧ match kd.key with
    | some k => dcW vs g TT TK TE r (putD acc k e) (wipeD ρ4 vs) pn4 Q
    | none => False) X0) X0 else dcW vs g TT TK TE r acc (wipeD ρ2 vs) pn2 Q) X0
def dDc (I : TDI) (vs : List Nat) (g : TDG) (TT : TDT) (TK TE : TDE) : TDE := fun ρ pn Q X => I ρ pn (fun items ρ1 pn1 => dcW vs g TT TK TE items [] (wipeD ρ1 vs) pn1 fun acc ρ2 pn2 => Q (.dic acc) (wipeD ρ2 vs) pn2) X
section
variable {C : Cfg} {W : WX} {X : Cx}
/-- the reading of a comprehension, of a dict, its source read in any way -/
theorem dc_runG {ti : TI} {PL : Lk → Prop} {I : TDI} {own : List (Str × Nat)} {is : List Nat} {g : TDG} {TT : TDT} {TK TE : TDE} {σ : L2.St} {H : Hp} {Q : VK}
    (hti : ∀ (lk : Lk) (G : Hp) (ρ : SL) (pn : Pn) (Qd : List D → SL → Pn → Prop) (Qx : XD) (R : It → Hp → Prop), PL lk → StR C lk σ ρ pn G H → I ρ pn Qd Qx → (∀ (J : It) (items : List D) (G' H' : Hp) (ρ' : SL) (pn' : Pn), StR C lk σ ρ' pn' G' H' → Gr C.pp σ ρ G H ρ' G' H' → ItD C.K C.pp lk G' J items → Qd items ρ' pn' → R J H') → XL C W lk σ Qx → ti σ H R)
    (hv : ∀ i ∈ is, i ∈ own.map (·.2))
    (q : ∃ (lk : Lk) (G : Hp) (ρ : SL) (pn : Pn) (Qd : SV → SL → Pn → Prop) (Qx : XD), PL lk ∧ StR C lk σ ρ pn G H ∧ (I ρ pn (fun items ρ1 pn1 => dcW (own.map (·.2)) g TT TK TE items [] (wipeD ρ1 (own.map (·.2))) pn1 fun acc ρ2 pn2 => Qd (.od acc) (wipeD ρ2 (own.map (·.2))) pn2) Qx) ∧
      (∀ (a : Addr) (xs : List (Key × V)) (ds : List (Key × D)) (G' H' : Hp) (ρ' : SL) (pn' : Pn), StR C lk σ ρ' pn' G' H' → Gr C.pp σ ρ G H ρ' G' H' → H a = none → H' a = some (.dK xs) → G' a = none → C.H0 a = none → ¬ OwnAt σ ρ' a → (C.pp.p ≠ none → a ≠ C.pp.c) → C.pp.p ≠ some a → xs.map (·.1) = ds.map (·.1) → DatL C.K C.pp G' (xs.map (·.2)) (ds.map (·.2)) → Qd (.od ds) ρ' pn' → Q (.ref a) H') ∧ XL C W lk σ Qx) :
    tDc ti (tG C is g) (tT C W0 TT) (tD C W0 TK) (tD C W0 TE) (own.map (·.2)) σ H Q := by
  generalize hvs : own.map (·.2) = vs at *
  obtain ⟨lk, G, ρ, pn, Qd, Qx, pl, S, t, k, xl⟩ := q
  refine hti lk G ρ pn _ Qx _ pl S t (fun J items G1 H1 ρ1 pn1 S1 g1 it q A hA => ?_) xl
  have n0 : C.H0 A = none := by
    cases z : C.H0 A with
    | none => rfl
    | some u => exact absurd hA (S1.live A (by rw [z]; simp))
  have np : C.pp.p ≠ some A := fun z => by
    have P := (S1.pen A z).2.2
    rw [P.ob] at hA
    cases hA
  have nc : C.pp.p ≠ none → A ≠ C.pp.c := fun z e => by
    cases y : C.pp.p with
    | none => exact z y
    | some p =>
      have P := (S1.pen p y).2.2.ce
      rw [← e, hA] at P
      cases P
  have S1w := S1.wipe vs
  have now : ¬ OwnAt (L2.wipe σ vs) (wipeD ρ1 vs) A := fun ⟨i, sv, e, o, z⟩ => (S1w.placed e o z).1 hA
  refine ⟨fun i m H => m = items.length - i ∧ i ≤ items.length ∧ ∃ (G2 : Hp) (ρ2 : SL) (pn2 : Pn) (xs : List (Key × V)) (acc : List (Key × D)), StR C lk (L2.wipe σ vs) ρ2 pn2 G2 H ∧ Gr C.pp (L2.wipe σ vs) (wipeD ρ1 vs) G1 H1 ρ2 G2 H ∧ H A = some (.dK xs) ∧ G2 A = none ∧ (xs.map (·.1) = acc.map (·.1) ∧ DatL C.K C.pp G2 (xs.map (·.2)) (acc.map (·.2))) ∧
    dcW vs g TT TK TE (items.drop i) acc ρ2 pn2 fun acc ρ2 pn2 => Qd (.od acc) (wipeD ρ2 vs) pn2, ⟨items.length, by simp, Nat.zero_le _, G1, _, pn1, [], [], S1w.step (S1w.exH hA), .ex (S1w.exH hA), upd_same, ?_, ⟨rfl, .nil⟩, q⟩, ?_⟩
  · cases z : G1 A with
    | none => rfl
    | some u => exact absurd hA (S1.sub A u z).live
  rintro i m H2 ⟨rfl, hi, G2, ρ2, pn2, xs, acc, S2, g2, eA, gA, la, w⟩
  have lkk : ∀ p ∈ lk, H2 p.1 = some (.frz p.2.1 (.dK p.2.2)) := fun p hp => (S2.lkG p hp).2.1
  have wn : ∀ i ∈ vs, ∀ sv, (wipeD ρ2 vs)[i]? = some sv → sv = .un := fun i hi sv e => by
    rw [wipeD_get, if_pos hi] at e
    cases y : ρ2[i]? with
    | none => rw [y] at e; cases e
    | some t => rw [y] at e; cases e; rfl
  by_cases hlt : i < items.length
  · rw [List.drop_eq_getElem_cons hlt] at w
    refine .inr ⟨it.go i G2 H2 pn2 S2.ex0 g2.same lkk hlt, fun H' => ∃ (G3 : Hp) (ρ3 : SL) (pn3 : Pn) (xs : List (Key × V)) (acc : List (Key × D)), StR C lk (L2.wipe σ vs) ρ3 pn3 G3 H' ∧ Gr C.pp (L2.wipe σ vs) (wipeD ρ1 vs) G1 H1 ρ3 G3 H' ∧ H' A = some (.dK xs) ∧ G3 A = none ∧ (xs.map (·.1) = acc.map (·.1) ∧ DatL C.K C.pp G3 (xs.map (·.2)) (acc.map (·.2))) ∧
      dcW vs g TT TK TE (items.drop (i + 1)) acc ρ3 pn3 fun acc ρ2 pn2 => Qd (.od acc) (wipeD ρ2 vs) pn2, fun H' ⟨G3, ρ3, pn3, xs3, acc3, r⟩ => ⟨items.length - (i + 1), by omega, rfl, hlt, G3, ρ3, pn3, xs3, acc3, r⟩, fun x H' y => ?_⟩
    obtain ⟨G', ex, dx⟩ := it.yld i G2 H2 pn2 x H' items[i] S2.ex0 g2.same lkk (List.getElem?_eq_getElem hlt) y
    have S3 := S2.step ex
    have g3 : Gr C.pp (L2.wipe σ vs) (wipeD ρ1 vs) G1 H1 ρ2 G' H' := Gr.trans g2 (.ex ex)
    have eA3 : H' A = some (.dK xs) := ex.bu A _ eA np
    have gA3 : G' A = none := by
      cases z : G' A with
      | none => rfl
      | some u =>
        rcases ex.new A (by rw [z]; simp) with y | y
        · exact absurd gA y
        · have y' : H2 A = none := y
          rw [eA] at y'
          cases y'
    refine ⟨lk, G', ρ2, pn2, items[i], _, S3, dx, w, fun σ2 ρ3 b ko S4 w4 => ?_⟩
    have bv : ButAt vs (L2.wipe σ vs) σ2 := ⟨b.1, fun j hj => b.2 j fun z => hj (hv j z)⟩
    have ee := wipe_but bv
    have oo : ∀ a, OwnAt σ2 ρ3 a → OwnAt (L2.wipe σ vs) ρ2 a := fun a ⟨j, sv, e, o, z⟩ => by
      obtain ⟨n1, n2⟩ := ko j sv e o
      exact ⟨j, sv, n2, o, by rw [← b.2 j n1]; exact z⟩
    refine ⟨ee, lk, G', ρ3, pn2, _, X0, S4, w4, fun bb G5 H5 ρ5 pn5 S5 g5 w5 => ?_, xl0⟩
    have g5' : GrO C.pp (OwnAt (L2.wipe σ vs) (wipeD ρ1 vs)) G1 H1 (OwnAt σ2 ρ5) G5 H5 := GrO.trans g3 oo g5
    have eA5 : H5 A = some (.dK xs) := g5.bu A _ eA3 np
    have nA : ∀ {ρx : SL}, (∀ a, OwnAt σ2 ρx a → OwnAt σ2 ρ3 a) → ¬ OwnAt σ2 ρx A := fun f z => now (g2.ow A (oo A (f A z)))
    have ga : ∀ {Gx Hx Gy Hy : Hp} {ρx ρy : SL}, GrO C.pp (OwnAt σ2 ρx) Gx Hx (OwnAt σ2 ρy) Gy Hy → Gx A = none → Hx A = some (.dK xs) → (∀ a, OwnAt σ2 ρx a → OwnAt σ2 ρ3 a) → Gy A = none := fun {Gx Hx Gy Hy ρx ρy} gg h1 h2 f => by
      cases z : Gy A with
      | none => rfl
      | some u =>
        rcases gg.new A (by rw [z]; simp) with y | y | y
        · exact absurd h1 y
        · rw [h2] at y
          cases y
        · exact absurd y (nA f)
    have gA5 : G5 A = none := ga g5 gA3 eA3 (fun _ h => h)
    cases bb with
    | false =>
      have S6 := S5.wipe vs
      rw [ee] at S6
      exact ⟨G5, _, pn5, xs, acc, S6, ⟨g5'.same, g5'.new, g5'.bu, g5'.live, fun a h => g5'.ow a (ownAt_wipe (by rw [ee]; exact h))⟩, eA5, gA5, ⟨la.1, (la.2.keep ex.same).keep g5.same⟩, w5⟩
    | true =>
      refine ⟨lk, G5, ρ5, pn5, _, X0, S5, w5, fun y kd G6 H6 ρ6 pn6 S6 g6 dk w6 => ⟨lk, G6, ρ6, pn6, _, X0, S6, w6, fun v d G7 H7 ρ7 pn7 S7 g7 dv w7 => ?_, xl0⟩, xl0⟩
      have g67 : Gr C.pp σ2 ρ5 G5 H5 ρ7 G7 H7 := Gr.trans g6 g7
      have g6' : GrO C.pp (OwnAt (L2.wipe σ vs) (wipeD ρ1 vs)) G1 H1 (OwnAt σ2 ρ7) G7 H7 := GrO.trans g5' (fun _ h => h) g67
      have eA6 : H7 A = some (.dK xs) := g67.bu A _ eA5 np
      have gA6 : G7 A = none := ga g67 gA5 eA5 g5.ow
      have la6 : DatL C.K C.pp G7 (xs.map (·.2)) (acc.map (·.2)) := ((la.2.keep ex.same).keep g5.same).keep g67.same
      have nA6 : ¬ OwnAt σ2 ρ7 A := nA fun a h => g5.ow a (g67.ow a h)
      obtain ⟨w71, w72⟩ := w7
      cases ek : kd.key with
      | none => rw [ek] at w72; exact w72.elim
      | some kk =>
        rw [ek] at w72
        have ey := key_of dk ek
        have hl : xs.length = acc.length := by
          have := congrArg List.length la.1
          simpa using this
        obtain ⟨p1, p2⟩ := put_of (k := kk) dv la.1 la6
        have S8 := (S7.updA (o' := .dK (putK xs kk v)) eA6 gA6 n0 (by intro i z; cases z) (by intro a b z; cases z) nA6 nc).wipe vs
        rw [ee] at S8
        refine ⟨xs, kk, ey, eA6, by rw [hl]; exact w71, G7, _, pn7, putK xs kk v, putD acc kk d, S8, ⟨g6'.same, g6'.new, (Gr.updA (σ := σ) (ρ := ρ1) (ρ' := ρ1) (G' := G7) ⟨g6'.same, fun a h => (g6'.new a h).imp id (.imp id ownAt_wipe), g6'.bu, g6'.live, fun _ h => h⟩ hA).bu, (Gr.updA (σ := σ) (ρ := ρ1) (ρ' := ρ1) (G' := G7) ⟨g6'.same, fun a h => (g6'.new a h).imp id (.imp id ownAt_wipe), g6'.bu, g6'.live, fun _ h => h⟩ hA).live, fun a h => g6'.ow a (ownAt_wipe (by rw [ee]; exact h))⟩, upd_same, gA6, ⟨p1, p2⟩, w72⟩
  · have e : i = items.length := by omega
    subst e
    rw [List.drop_length] at w
    have S6 := S2.wipe vs
    rw [wipe_but (σ2 := L2.wipe σ vs) .refl] at S6
    have S7 := S6.unwipe wn
    have on : ∀ a, OwnAt σ (wipeD ρ2 vs) a → OwnAt (L2.wipe σ vs) (wipeD ρ1 vs) a := fun a ⟨j, sv, e, o, z⟩ => by
      obtain ⟨n1, n2⟩ := wiped_not e o
      exact g2.ow a ⟨j, sv, n2, o, by rw [wipe_get, if_neg n1]; exact z⟩
    refine .inl ⟨it.stop G2 H2 pn2 S2.ex0 g2.same lkk, k A xs acc G2 H2 _ pn2 S7 ?_ ?_ eA gA n0 (fun z => now (on A z)) nc np la.1 la.2 w⟩
    · exact Gr.trans g1 ⟨g2.same, fun a h => (g2.new a h).imp id (.imp id ownAt_wipe), g2.bu, g2.live, fun a h => ownAt_wipe (on a h)⟩
    · cases z : H A with
      | none => rfl
      | some u => exact absurd hA (g1.live A (by rw [z]; simp))
end
/-- a comprehension over a dict in a slot, the dict locked meanwhile (or already) -/
theorem dcK_of {C : Cfg} {W : WX} {i : Nat} {own : List (Str × Nat)} {is : List Nat} {g : TDG} {TT : TDT} {TK TE : TDE} {σ : L2.St} {H : Hp} {Q : VK} (hv : ∀ i ∈ is, i ∈ own.map (·.2)) (q : tD C W (dDc (dKeysN i) (own.map (·.2)) g TT TK TE) σ H Q) :
    tLockE (tDc (iKeys (tVar i)) (tG C is g) (tT C W0 TT) (tD C W0 TK) (tD C W0 TE) (own.map (·.2))) σ H Q ∨ tDc (iKeys (tVar i)) (tG C is g) (tT C W0 TT) (tD C W0 TK) (tD C W0 TE) (own.map (·.2)) σ H Q := by
  obtain ⟨lk, G, ρ, pn, Qd, Qx, S, t, k, xl⟩ := q
  have fz : ∃ (G1 : Hp) (ρ1 : SL) (ds : List (Key × D)), StR C lk σ ρ1 pn G1 H ∧ Gr C.pp σ ρ G H ρ1 G1 H ∧ ρ1[i]? = some (.fz (.dic ds)) ∧ dcW (own.map (·.2)) g TT TK TE (ds.map fun p => keyD p.1) [] (wipeD ρ1 (own.map (·.2))) pn fun acc ρ2 pn2 => Qd (.dic acc) (wipeD ρ2 (own.map (·.2))) pn2 := by
    unfold dDc dKeysN at t
    cases e : ρ[i]? with
    | none => rw [e] at t; exact t.elim
    | some sv =>
      rw [e] at t
      cases sv with
      | un => exact t.elim
      | ol _ => exact t.elim
      | oo _ _ => exact t.elim
      | od ds =>
        obtain ⟨y, G', ey, s, hy, S'⟩ := S.freezeD e
        exact ⟨G', _, ds, S', .froze (sv := .un) s.1 s.2, List.getElem?_set_self (List.getElem?_eq_some_iff.mp e).1, t⟩
      | fz d =>
        cases d <;> first | exact t.elim | skip
        exact ⟨G, ρ, _, S, .refl, e, t⟩
  clear t
  obtain ⟨G1, ρ1, ds, S1, g1, e1, t1⟩ := fz
  have t2 : dKeysN i ρ1 pn (fun items ρ1 pn1 => dcW (own.map (·.2)) g TT TK TE items [] (wipeD ρ1 (own.map (·.2))) pn1 fun acc ρ2 pn2 => Qd (.dic acc) (wipeD ρ2 (own.map (·.2))) pn2) X0 := by
    unfold dKeysN
    rw [e1]
    exact t1
  obtain ⟨y, ey, hy⟩ := S1.slot i _ e1
  cases hy with
  | dic ha hk hl =>
    rename_i a kvs
    have fin : ∀ (v : V) (xs : List (Key × V)) (ds' : List (Key × D)) (b : Addr) (G' H' : Hp) (ρ' : SL) (pn' : Pn), StR C lk σ ρ' pn' G' H' → Gr C.pp σ ρ1 G1 H ρ' G' H' → H b = none → H' b = some (.dK xs) → G' b = none → C.H0 b = none → ¬ OwnAt σ ρ' b → xs.map (·.1) = ds'.map (·.1) → DatL C.K C.pp G' (xs.map (·.2)) (ds'.map (·.2)) → Qd (.dic ds') ρ' pn' → Q (.ref b) H' := fun v xs ds' b G' H' ρ' pn' S' g' hb eb gb n0 nw lk1 l q =>
      k (.ref b) (.dic ds') (upd G' b (.dK xs)) H' ρ' pn' (S'.freezeA eb gb n0 nw) (g1.trans (Gr.freezeA g' gb hb)) (.dic upd_same lk1 (l.keep (Same.new gb))) q
    rcases (S1.sub _ _ ha).rd with h | ⟨od, h⟩
    · left
      refine ⟨a, .dK kvs, h, trivial, fun od => ?_⟩
      have nz := S1.nofrz h ha
      have nl := lk_fresh S1 h
      refine dc_runG (W := W0) (PL := fun l => (a, od, kvs) ∈ l) (I := dKeysN i) (fun l G' ρ' pn' Qd' Qx' R m S' t' k' _ => keys_ti ey l G' ρ' pn' Qd' Qx' R m S' t' k') hv ⟨(a, od, kvs) :: lk, G1, ρ1, pn, (fun sv ρ pn => match sv with | .od acc => Qd (.dic acc) ρ pn | _ => False), X0, List.mem_cons_self, S1.lockD h ha, t2, fun b xs ds' G' H' ρ' pn' S' g' hb eb gb n0 nw nc np lk1 l q => ?_, xl0⟩
      have hb2 : b ≠ a := fun z => by rw [z, upd_same] at hb; cases hb
      refine ⟨(S'.lkG _ List.mem_cons_self).2.1, ?_⟩
      exact fin .non xs ds' b G' (upd H' a (.dK kvs)) ρ' pn' (S'.unlockD nl nz) (Gr.unlock h g') (by rw [upd_ne hb2] at hb; exact hb) (by rw [upd_ne hb2]; exact eb) gb n0 nw lk1 l q
    · right
      by_cases nl : a ∈ lk.map (·.1)
      · obtain ⟨p, hp, ep⟩ := List.mem_map.mp nl
        obtain ⟨p1, od', kvs'⟩ := p
        have ep' : p1 = a := ep
        subst ep'
        have q := (S1.lkG _ hp).2.1
        rw [h] at q
        cases q
        refine dc_runG (W := W0) (PL := fun l => l = lk) (I := dKeysN i) (fun l G' ρ' pn' Qd' Qx' R m S' t' k' _ => by subst m; exact keys_ti ey l G' ρ' pn' Qd' Qx' R hp S' t' k') hv ⟨lk, G1, ρ1, pn, (fun sv ρ pn => match sv with | .od acc => Qd (.dic acc) ρ pn | _ => False), X0, rfl, S1, t2, fun b xs ds' G' H' ρ' pn' S' g' hb eb gb n0 nw nc np lk1 l q => ?_, xl0⟩
        exact fin .non xs ds' b G' H' ρ' pn' S' g' hb eb gb n0 nw lk1 l q
      · refine dc_runG (W := W0) (PL := fun l => (a, od, kvs) ∈ l) (I := dKeysN i) (fun l G' ρ' pn' Qd' Qx' R m S' t' k' _ => keys_ti ey l G' ρ' pn' Qd' Qx' R m S' t' k') hv ⟨(a, od, kvs) :: lk, G1, ρ1, pn, (fun sv ρ pn => match sv with | .od acc => Qd (.dic acc) ρ pn | _ => False), X0, List.mem_cons_self, S1.lockOld h ha nl, t2, fun b xs ds' G' H' ρ' pn' S' g' hb eb gb n0 nw nc np lk1 l q => ?_, xl0⟩
        exact fin .non xs ds' b G' H' ρ' pn' (S'.unlockOld (S1.old h ha nl)) g' hb eb gb n0 nw lk1 l q
theorem dc_frozen {C : Cfg} {W : WX} {I : TDI} {own : List (Str × Nat)} {is : List Nat} {g : TDG} {TT : TDT} {TK TE : TDE} (hv : ∀ i ∈ is, i ∈ own.map (·.2)) {σ : L2.St} {H : Hp} {Q : VK} (q : tD C W (dDc I (own.map (·.2)) g TT TK TE) σ H Q) : tDc (tI C W I) (tG C is g) (tT C W0 TT) (tD C W0 TK) (tD C W0 TE) (own.map (·.2)) σ H Q := by
  obtain ⟨lk, G, ρ, pn, Qd, Qx, S, t, k, xl⟩ := q
  refine dc_runG (W := W) (PL := fun _ => True) (I := I) (fun lk G ρ pn Qd Qx R _ S t k xl => ⟨lk, G, ρ, pn, Qd, Qx, S, t, k, xl⟩) hv ⟨lk, G, ρ, pn, (fun sv ρ pn => match sv with | .od acc => Qd (.dic acc) ρ pn | _ => False), Qx, trivial, S, t, fun a xs ds G' H' ρ' pn' S' g' ha ea ga n0 nw nc np lk1 l q => ?_, xl⟩
  exact k (.ref a) (.dic ds) (upd G' a (.dK xs)) H' ρ' pn' (S'.freezeA ea ga n0 nw) (Gr.freezeA g' ga ha) (.dic upd_same lk1 (l.keep (Same.new ga))) q
section
variable {X : Cx} {C : Cfg} {W : WX} {pos px : Pos} {x : Str} {kx vx tg iter : Expr} {ifs : List Expr} {scope : Scope} {own : List (Str × Nat)} {is : List Nat} {g : TDG} {TT : TDT} {TK TE : TDE} {I : TDI} {i : Nat}
theorem pd_dc (hc : X.calm = true) (hN : X.N.Nodup) (hv : ∀ i ∈ is, i ∈ own.map (·.2)) (hi : PDI X C W tg iter I) (ok : BlkOk X.N X.env.scope scope own)
    (hg : ∀ (s : Shared) (H : Hp) (Cc : Addr) (cl : List (Str × Addr)) (fp : List Addr), PDG (X.blk s H scope (compEnvC scope cl Cc X.env) fp) C is tg g) (ht : ∀ (s : Shared) (H : Hp) (Cc : Addr) (cl : List (Str × Addr)) (fp : List Addr), PDTs (X.blk s H scope (compEnvC scope cl Cc X.env) fp) C W0 ifs TT)
    (hk : ∀ (s : Shared) (H : Hp) (Cc : Addr) (cl : List (Str × Addr)) (fp : List Addr), PD (X.blk s H scope (compEnvC scope cl Cc X.env) fp) C W0 kx TK)
    (he : ∀ (s : Shared) (H : Hp) (Cc : Addr) (cl : List (Str × Addr)) (fp : List Addr), PD (X.blk s H scope (compEnvC scope cl Cc X.env) fp) C W0 vx TE) (hs : ∀ x, foldedSetIterable iter X.env x = pure x := by intro _; rfl) :
    PD X C W (.DictComp kx vx [⟨tg, iter, ifs, 0⟩] scope pos) (dDc I (own.map (·.2)) g TT TK TE) :=
  PE.imp (pe_dc hc hN hi ok hg ht hk he hs) fun _ _ _ q => dc_frozen hv q
theorem pd_dcK (hc : X.calm = true) (hN : X.N.Nodup) (hv : ∀ i ∈ is, i ∈ own.map (·.2)) (hx : PE X (.Name x px) (tVar i)) (ok : BlkOk X.N X.env.scope scope own)
    (hg : ∀ (s : Shared) (H : Hp) (Cc : Addr) (cl : List (Str × Addr)) (fp : List Addr), PDG (X.blk s H scope (compEnvC scope cl Cc X.env) fp) C is tg g) (ht : ∀ (s : Shared) (H : Hp) (Cc : Addr) (cl : List (Str × Addr)) (fp : List Addr), PDTs (X.blk s H scope (compEnvC scope cl Cc X.env) fp) C W0 ifs TT)
    (hk : ∀ (s : Shared) (H : Hp) (Cc : Addr) (cl : List (Str × Addr)) (fp : List Addr), PD (X.blk s H scope (compEnvC scope cl Cc X.env) fp) C W0 kx TK)
    (he : ∀ (s : Shared) (H : Hp) (Cc : Addr) (cl : List (Str × Addr)) (fp : List Addr), PD (X.blk s H scope (compEnvC scope cl Cc X.env) fp) C W0 vx TE) (hs : ∀ y, foldedSetIterable (.Name x px) X.env y = pure y := by intro _; rfl) :
    PD X C W (.DictComp kx vx [⟨tg, .Name x px, ifs, 0⟩] scope pos) (dDc (dKeysN i) (own.map (·.2)) g TT TK TE) := by
  have h := pe_dc (pos := pos) hc hN (pi_keys hx) ok hg ht hk he hs
  refine ⟨fun pins s σ H Q I q => ?_⟩
  rcases dcK_of hv q with q | q
  · exact (pe_lock h).run pins s σ H Q I q
  · exact h.run pins s σ H Q I q
end
/-! ### keywords -/
/-- the values of keywords -/
abbrev PDK (X : Cx) (C : Cfg) (W : WX) (kws : List Keyword) (T : TDA) : Prop := PK X kws (tA C W T)
section
variable {X : Cx} {C : Cfg} {W : WX} {a e o : Expr} {es : List Expr} {kws : List Keyword} {pos p apos kpos : Pos} {Ta : TDE} {Ts Tk : TDA} {nm : Option Str}
theorem pdk_nil : PDK X C W [] dNil := by
  refine ⟨fun ps pins s σ H Q I q => pk_nil.run ps pins s σ H Q I ?_⟩
  obtain ⟨lk, G, ρ, pn, Qd, Qx, S, t, k, xl⟩ := q
  exact k [] [] G H ρ pn S .refl .nil t
theorem pdk_cons (ha : PD X C W a Ta) (hr : PDK X C W kws Ts) : PDK X C W (⟨nm, a, kpos⟩ :: kws) (dCons Ta Ts) := by
  refine ⟨fun ps pins s σ H Q I q => (pk_cons ha hr).run ps pins s σ H Q I ?_⟩
  obtain ⟨lk, G, ρ, pn, Qd, Qx, S, t, k, xl⟩ := q
  refine ⟨lk, G, ρ, pn, _, Qx, S, t, fun x d G1 H1 ρ1 pn1 S1 s1 dx t1 => ⟨lk, G1, ρ1, pn1, _, Qx, S1, t1, fun xs ds G2 H2 ρ2 pn2 S2 s2 dxs t2 => ?_, xl⟩, xl⟩
  exact k (x :: xs) (d :: ds) G2 H2 ρ2 pn2 S2 (s1.trans s2) (.cons (dx.keep s2.same) dxs) t2
/-- from a row, by places -/
def pickL {α : Type} (is : List Nat) (l : List α) : List α := is.filterMap fun i => l[i]?
theorem pick_vals {vs : List V} {us : List Value} (r : Vals vs us) : ∀ is : List Nat, Vals (pickL is vs) (pickL is us)
  | [] => .nil
  | i :: is => by
    have h := pick_vals r is
    unfold pickL at h ⊢
    cases q : vs[i]? with
    | none =>
      have q2 : us[i]? = none := by
        rw [List.getElem?_eq_none_iff] at q ⊢
        rw [← r.length]
        exact q
      rw [List.filterMap_cons, List.filterMap_cons, q, q2]
      exact h
    | some v =>
      obtain ⟨u, hu, ru⟩ := r.get q
      rw [List.filterMap_cons, List.filterMap_cons, q, hu]
      exact .cons ru h
theorem pick_dat {K : PySem.W.Frag} {pp : PP} {G : Hp} {vs : List V} {ds : List D} (r : DatL K pp G vs ds) : ∀ is : List Nat, DatL K pp G (pickL is vs) (pickL is ds)
  | [] => .nil
  | i :: is => by
    have h := pick_dat r is
    unfold pickL at h ⊢
    cases q : ds[i]? with
    | none =>
      have q2 : vs[i]? = none := by
        rw [List.getElem?_eq_none_iff] at q ⊢
        rw [r.length]
        exact q
      rw [List.filterMap_cons, List.filterMap_cons, q, q2]
      exact h
    | some v =>
      obtain ⟨u, hu, ru⟩ := r.get q
      rw [List.filterMap_cons, List.filterMap_cons, q, hu]
      exact .cons ru h
/-- a def reached by n values and keywords, its promise by data told of the row of all of them -/
def FKW (P : Program) (w : World) (K : PySem.W.Frag) (mg : Str → Option Value) (base : Heap) (k : Nat) (f : Addr) (n : Nat) (ks : List Str) (sp : SpD) : Prop :=
  ∀ (A : Around) (outer : List Env) (s : Shared) (H : Hp) (us ws : List Value) (vs zs : List V) (Q : VK) (E : XK), Room k A → Env0 P w K mg base A outer s H → Vals vs us → Vals zs ws → vs.length = n → zs.length = ks.length → spD K sp (vs ++ zs) H Q E →
    codeAny (model P w) A (.call (.ref f) ⟨us, ks.zip ws⟩) (CR (L2.CX P w) outer P w H s Q E) s
def spPick (is : List Nat) (sp : SpD) : SpD := fun ds pn Q X => sp (pickL is ds) pn Q X
theorem fkw_of {P : Program} {w : World} {K : PySem.W.Frag} {mg : Str → Option Value} {base : Heap} {k : Nat} {f : Addr} {fd : FuncData} {ps ks : List Str} {n : Nat} {sp : SpD} {is : List Nat} (F : FnOk P w K mg base (L2.CX P w) k f fd ps (spD K sp))
    (b : ∀ (s : Shared) (us ws : List Value), K.In s.heap → us.length = n → ws.length = ks.length → BindsTo s fd ⟨us, ks.zip ws⟩ (ps.zip (pickL is (us ++ ws)))) : FKW P w K mg base k f n ks (spPick is sp) := by
  intro A outer s H us ws vs zs Q E hr e0 r rz l1 l2 h
  obtain ⟨pp, G, pn, ds, Qd, Qx, ex, l, t, k1, k2⟩ := h
  have KX : K.In s.heap := e0.mod.kin.keeps fun b o e => (e0.bs b o e).1
  exact F.run A outer s H ⟨us, ks.zip ws⟩ (pickL is (us ++ ws)) (pickL is (vs ++ zs)) Q E hr e0 (b s us ws KX (by rw [← r.length]; exact l1) (by rw [← rz.length]; exact l2)) (pick_vals (r.append rz) is) ⟨pp, G, pn, pickL is ds, Qd, Qx, ex, pick_dat l is, t, k1, k2⟩
def dApp (U V : TDA) : TDA := fun ρ pn Q X => U ρ pn (fun ds ρ1 pn1 => V ρ1 pn1 (fun es ρ2 pn2 => Q (ds ++ es) ρ2 pn2) X) X
def dKwA (n m : Nat) (U V : TDA) : TDA := fun ρ pn Q X => U ρ pn (fun ds ρ1 pn1 => ds.length = n ∧ V ρ1 pn1 (fun es ρ2 pn2 => es.length = m ∧ Q (ds ++ es) ρ2 pn2) X) X
theorem len_of {C : Cfg} {W : WX} {n m : Nat} {U V : TDA} {σ : L2.St} {H : Hp} {Q : List L2.V → Hp → Prop} (q : tA C W (dKwA n m U V) σ H Q) : tA C W U σ H fun vs H1 => tA C W V σ H1 fun zs H2 => vs.length = n ∧ zs.length = m ∧ Q (vs ++ zs) H2 := by
  obtain ⟨lk, G, ρ, pn, Qd, Qx, S, t, k, xl⟩ := q
  refine ⟨lk, G, ρ, pn, _, Qx, S, t, fun vs ds G1 H1 ρ1 pn1 S1 g1 l t1 => ⟨lk, G1, ρ1, pn1, _, Qx, S1, t1.2, fun zs es G2 H2 ρ2 pn2 S2 g2 l2 t2 => ?_, xl⟩, xl⟩
  exact ⟨by rw [l.length]; exact t1.1, by rw [l2.length]; exact t2.1, k _ _ G2 H2 ρ2 pn2 S2 (g1.trans g2) ((l.keep g2.same).app l2) t2.2⟩
theorem run_kwA {pins : List (Addr × Obj)} {σ : L2.St} {H : Hp} {s : Shared} {Q : VK} {us ws : List Value} {vs zs : List V} {f : Addr} {n k : Nat} {ks : List Str} {sp : SpD} {E : XK} (F : FKW X.prog X.w X.K X.mg X.base k f n ks sp) (hr : Room k X.A) (hx : PassesAt (L2.CX X.prog X.w) X σ E) (I : Inv X pins σ H s) (r : Vals vs us) (rz : Vals zs ws)
    (l1 : vs.length = n) (l2 : zs.length = ks.length) (h : spD X.K sp (vs ++ zs) H Q E) : wpAny (model X.prog X.w) X.A (call (.ref f) us (ks.zip ws)) (EP X pins σ Q) X.xe s := by
  refine wpAny_call (codeAny_mono (F X.A X.stack s H us ws vs zs Q E hr I.env0 r rz l1 l2 h) fun r s' hq => ?_)
  cases r with
  | error e => exact hx pins H s e s' I hq
  | ok fl =>
    cases fl with
    | ret u => exact I.after hq
    | next => exact False.elim hq
    | brk => exact False.elim hq
    | cont => exact False.elim hq
/-- f(e, .., k = v, ..) -/
theorem pd_callK {f : Addr} {n k : Nat} {ks : List Str} {sp : SpD} {x : Str} (F : FKW X.prog X.w X.K X.mg X.base k f n ks sp) (hK : C.K = X.K) (hr : Room k X.A) (hg : Gl X x) (hm : X.mg x = some (.ref f)) (hk : PySem.W.keepIn X.K (.ref f) = true) (hx : ∀ σ, PassesAt (L2.CX X.prog X.w) X σ (WE W σ))
    (ha : PDA X C W (e :: es) Ts) (hkw : PDK X C W kws Tk) (hall : (backToKw pos (keywordEach kws X.env)).all (·.1.isSome) = true := by rfl) (hks : (backToKw pos (keywordEach kws X.env)).filterMap (·.1) = ks := by rfl)
    (hdb : (x == ("__debug__" : Str)) = false := by decide) (he : starEach (e :: es) X.env = (false, eval e X.env) :: starEach es X.env := by rfl)
    (hpl : ((backTo pos (starEach (e :: es) X.env)).any (·.1) || (backToKw pos (keywordEach kws X.env)).any (·.1.isNone)) = false := by rfl) :
    PD X C W (.Call (.Name x p) (e :: es) kws pos) (dStep sp (dKwA n ks.length Ts Tk)) := by
  refine ⟨fun pins s σ H Q I h => ?_⟩
  refine wpAny_Call_Name_kw (ld_glob I hg hm ?_ hdb)
  refine PySem.W.callWith_KW (h₀ := X.base) I.ok.mod.kin hk hall (thn (ha.run pos pins s σ H _ I (len_of (step_of h))) fun us s1 ⟨vs, H1, I1, r, q⟩ => ?_) hpl he
  refine thn (hkw.run pos pins s1 σ H1 _ I1 q) fun ws s2 ⟨zs, H2, I2, rz, l1, l2, q2⟩ => ⟨I2.kIn, ?_⟩
  rw [hks]
  exact run_kwA F hr (hx σ) I2 r rz l1 l2 (q2.sp hK)
/-- f(k = v, ..) -/
theorem pd_callK0 {f : Addr} {k : Nat} {ks : List Str} {sp : SpD} {x : Str} (F : FKW X.prog X.w X.K X.mg X.base k f 0 ks sp) (hK : C.K = X.K) (hr : Room k X.A) (hg : Gl X x) (hm : X.mg x = some (.ref f)) (hk : PySem.W.keepIn X.K (.ref f) = true) (hx : ∀ σ, PassesAt (L2.CX X.prog X.w) X σ (WE W σ))
    (hkw : PDK X C W kws Tk) (hall : (backToKw pos (keywordEach kws X.env)).all (·.1.isSome) = true := by rfl) (hks : (backToKw pos (keywordEach kws X.env)).filterMap (·.1) = ks := by rfl)
    (hdb : (x == ("__debug__" : Str)) = false := by decide) (hpl : ((backTo pos (starEach [] X.env)).any (·.1) || (backToKw pos (keywordEach kws X.env)).any (·.1.isNone)) = false := by rfl) :
    PD X C W (.Call (.Name x p) [] kws pos) (dStep sp (dKwA 0 ks.length dNil Tk)) := by
  refine ⟨fun pins s σ H Q I h => ?_⟩
  have q0 := len_of (step_of h)
  obtain ⟨lk, G, ρ, pn, Qd, Qx, S, t, k0, xl⟩ := q0
  have q := k0 [] [] G H ρ pn S .refl .nil t
  refine wpAny_Call_Name_kw (ld_glob I hg hm ?_ hdb)
  refine PySem.W.callWith_KW0 (h₀ := X.base) I.ok.mod.kin hk hall (thn (hkw.run pos pins s σ H _ I q) fun ws s2 ⟨zs, H2, I2, rz, l1, l2, q2⟩ => ⟨I2.kIn, ?_⟩) hpl
  rw [hks]
  exact run_kwA (us := []) (vs := []) F hr (hx σ) I2 .nil rz l1 l2 (q2.sp hK)
theorem kw0_of {C : Cfg} {W : WX} {m : Nat} {V : TDA} {rD : RxD} {σ : L2.St} {H : Hp} {Q : VK} (h : tD C W (dStep rD (dKwA 0 m dNil V)) σ H Q) : tA C W V σ H fun zs H2 => ([] : List L2.V).length = 0 ∧ zs.length = m ∧ tDL C W rD σ ([] ++ zs) H2 Q := by
  obtain ⟨lk, G, ρ, pn, Qd, Qx, S, t, k0, xl⟩ := len_of (step_of h)
  exact k0 [] [] G H ρ pn S .refl .nil t
/-- C.m(k = v, ..), m a staticmethod -/
def dSMK (C0 : Addr) (sp : SpD) (m : Nat) (T : TDE) (V : TDA) : TDE := fun ρ pn Q X => T ρ pn (fun d ρ1 pn1 => d = .fn C0 ∧ dStep sp (dKwA 0 m dNil V) ρ1 pn1 Q X) X
theorem pd_smethK0 {C0 g pr : Addr} {n : Nat} {m : Str} {ks : List Str} {sp : SpD} {pl : Sem Bool} (hK : C.K = X.K) (sm : SMet X.K C0 m pr g) (F : FKW X.prog X.w X.K X.mg X.base n g 0 ks sp) (hr : Room n X.A) (hx : ∀ σ, PassesAt (L2.CX X.prog X.w) X σ (WE W σ)) (ho : PD X C W o Ta) (hkw : PDK X C W kws Tk)
    (hall : (backToKw pos (keywordEach kws X.env)).all (·.1.isSome) = true := by rfl) (hks : (backToKw pos (keywordEach kws X.env)).filterMap (·.1) = ks := by rfl)
    (hpl : ((backTo pos (starEach [] X.env)).any (·.1) || (backToKw pos (keywordEach kws X.env)).any (·.1.isNone)) = false := by rfl)
    (ht : eval (.Call (.Attribute o m apos) [] kws pos) X.env = (do
      let ov ← eval o X.env
      standAt apos.atName
      let (f, first) ← holding [ov] (getMethod ov m pl)
      callWith pos f first (backTo pos (starEach [] X.env)) (backToKw pos (keywordEach kws X.env))) := by rfl) :
    PD X C W (.Call (.Attribute o m apos) [] kws pos) (dSMK C0 sp ks.length Ta Tk) := by
  refine ⟨fun pins s σ H Q I h => ?_⟩
  obtain ⟨lk, G, ρ, pn, Qd, Qx, S, t, k, xl⟩ := h
  refine PySem.W.methodCall_KW (pl := pl) (thn (ho.run pins s σ H (fun x H1 => x = .ref C0 ∧ tA C W Tk σ H1 fun zs H2 => ([] : List V).length = 0 ∧ zs.length = ks.length ∧ tDL C W sp σ ([] ++ zs) H2 Q) I
    ⟨lk, G, ρ, pn, _, Qx, S, t, fun v d G1 H1 ρ1 pn1 S1 g1 dx t1 => ⟨fn_ref (by rw [t1.1] at dx; exact dx), kw0_of ⟨lk, G1, ρ1, pn1, Qd, Qx, S1, t1.2, fun v d G' H' ρ' pn' S' g' => k v d G' H' ρ' pn' S' (g1.trans g'), xl⟩⟩, xl⟩) fun u s1 ⟨x, H1, I1, rx, ex, q1⟩ => ?_) ht
  subst ex
  obtain rfl : u = Value.ref C0 := rx
  obtain ⟨rest, hp⟩ := sm.rc
  refine PySem.W.method_cls I1.kIn sm.rd.ga (PySem.W.cls_bind I1.kIn sm.rd.rd sm.at_ (wpAny_call (PySem.W.sm_get (s := { s1 with toks := s1.toks + 1 }) I1.kIn hp (PySem.W.handed_on rfl ?_))))
  have I2 := I1.tok (s1.toks + 1)
  refine PySem.W.callWith_KW0 (first := []) (h₀ := X.base) I.ok.mod.kin sm.kp hall (thn (hkw.run pos pins _ σ H1 _ I2 q1) fun ws s2 ⟨zs, H2, I3, rz, l1, l2, q2⟩ => ⟨I3.kIn, ?_⟩) hpl
  rw [hks]
  exact run_kwA (us := []) (vs := []) F hr (hx σ) I3 .nil rz l1 l2 (q2.sp hK)
end
end Td
end
section
set_option maxRecDepth 100000
set_option maxHeartbeats 4000000
/-! The data layer: try: body / except c as n: y = n. -/
namespace Td
open PySem PySem.Spec PyProof.Rows L2 Lw
/-- what is data now is the floor -/
abbrev Cfg.fl (C : Cfg) (G : Hp) : Cfg := ⟨C.K, C.pp, C.mu, G, C.H0⟩
section
variable {C : Cfg} {lk : Lk} {σ σ' : L2.St} {ρ ρ' : SL} {pn pn' : Pn} {G H G' H' : Hp}
theorem SlR.fl {C C' : Cfg} {v : Option (Option V)} {sv : SV} (e1 : C'.K = C.K) (e2 : C'.pp = C.pp) (e3 : C'.mu = C.mu) (e4 : C'.H0 = C.H0) (h : SlR C G H v sv) : SlR C' G H v sv := by
  cases sv with
  | un => trivial
  | fz d => obtain ⟨x, e, q⟩ := h; exact ⟨x, e, by rw [e1, e2]; exact q⟩
  | ol ds => obtain ⟨a, xs, e, q1, q2, q3, q4, q5⟩ := h; exact ⟨a, xs, e, q1, q2, by rw [e4]; exact q3, by rw [e2]; exact q4, by rw [e1, e2]; exact q5⟩
  | od ds => obtain ⟨a, xs, e, q1, q2, q3, q4, q5⟩ := h; exact ⟨a, xs, e, q1, q2, by rw [e4]; exact q3, q4, by rw [e1, e2]; exact q5⟩
  | oo T ds => obtain ⟨a, dx, fs, e, q1, q2, q3, q4, q5, q6⟩ := h; exact ⟨a, dx, fs, e, q1, q2, q3, by rw [e3]; exact q4, q5, by rw [e1, e2]; exact q6⟩
theorem StR.toFl (S : StR C lk σ ρ pn G H) : StR (C.fl G) lk σ ρ pn G H :=
  ⟨S.sub, fun _ _ h => h, fun a h => .inl h, S.keep, S.live, S.lkG, S.muG, S.pen, S.len, fun i sv e => SlR.fl rfl rfl rfl rfl (S.slot i sv e), S.apart⟩
theorem StR.ofFl (S0 : StR C lk σ ρ pn G H) (S : StR (C.fl G) lk σ' ρ' pn' G' H') : StR C lk σ' ρ' pn' G' H' :=
  ⟨S.sub, fun a o h => S.g0 a o (S0.g0 a o h), fun a h => (S.new a h).elim (fun z => S0.new a z) .inr, S.keep, S.live, S.lkG, S.muG, S.pen, S.len, fun i sv e => SlR.fl rfl rfl rfl rfl (S.slot i sv e), S.apart⟩
end
/-- try: body / except c as n: y = n; i, j the slots of n, y -/
def dTryK (K : PySem.W.Frag) (c : Value) (i j : Nat) (T : TDS) : TDS := fun E => T { E with xd := fun C0 fs ρ pn => match PySem.W.exmOne K (.ref C0) c with
  | some true => i < ρ.length ∧ E.nx ((ρ.set i .un).set j (.fz (.exc C0 fs))) pn
  | some false => E.xd C0 fs ρ pn
  | none => False }
section
variable {X : Cx} {C : Cfg} {W : WX} {x n y : Str} {c : Value} {i j : Nat} {body : List Stmt} {np nq py ap pos pos' : Pos} {T : TDS}
theorem pds_tryK (hs : X.stack = X.env :: X.outer) (hf : X.env.frame = some X.env.locals) (hex : X.ex = []) (hN : X.N.Nodup) (hi : X.N[i]? = some n) (hln : X.env.kindOf n = some .local) (hj : X.N[j]? = some y) (hyl : Loc X.env.scope y) (hij : i ≠ j) (hc : Names X x c) (tk : Takes X W)
    (hfy : X.fn y = true ∨ X.env.scope.names.lookup y = some .local) (hv : Vis X.env.scope n)
    (hb : ∀ (G0 : Hp) (W' : WX) (pn : List (Addr × Obj)) (xe : Value → Shared → Prop), Takes (X.tr pn xe) W' → PassesOwn (model X.prog X.w) X.A X.env xe → PDSs (X.tr pn xe) (C.fl G0) W' body T)
    (hd : (n == ("__debug__" : Str)) = false := by decide) (hcd : (n == ("__classdict__" : Str)) = false := by decide) (hsw : swapsWith (.Name n nq) (some (.Name y py)) ap.line X.env = pure false := by rfl) :
    PDS X C W (.Try body [.ExceptHandler (some (.Name x np)) (some n) [.Assign [.Name y py] (.Name n nq) ap] pos'] [] [] pos) (dTryK X.K c i j T) := by
  refine ⟨fun pins s σ H D I q => ?_⟩
  obtain ⟨lk, G, ρ, pn, E, S, t, L⟩ := q
  have P := ps_try_keep (pos := pos) (pos' := pos') (np := np) (tb := fun W' => tS (C.fl G) W' T) (ts := fun a cls d D σ H => ∃ v, σ[i]? = some (some v) ∧ D.nx (σ.set j (some v)) H) hs hf hex hN hi hln hc tk (fun W' pn xe tk' ps => hb G W' pn xe tk' ps)
    (b₀ := .Assign [.Name y py] (.Name n nq) ap) (suite := []) fun a oe cls d pn' _ _ => pss_one (ps_set (X := X.suite a ((a, oe) :: pn')) (te := tVar i) hN hj hyl (pe_var (X := X.suite a ((a, oe) :: pn')) (pos := nq) (i := i) hi hv hd hcd) hsw hfy)
  refine P.run pins s σ H D I ?_
  have Sf := S.toFl
  refine ⟨lk, G, ρ, pn, _, Sf, t, ⟨fun σ' ρ' pn' G' H' S' s e => L.nx σ' ρ' pn' G' H' (S.ofFl S') s e, fun σ' ρ' pn' G' H' S' s e => L.bk σ' ρ' pn' G' H' (S.ofFl S') s e, fun σ' ρ' pn' G' H' S' s e => L.ct σ' ρ' pn' G' H' (S.ofFl S') s e, fun v d σ' ρ' pn' G' H' S' dv e => L.rt v d σ' ρ' pn' G' H' (S.ofFl S') dv e, fun σ' c' d fs ds G' H' ρ' pn' S' e1 e2 e3 q => ?_⟩⟩
  have S1 := S.ofFl S'
  dsimp only at q
  cases ex : PySem.W.exmOne X.K (.ref c') c with
  | none => rw [ex] at q; exact q.elim
  | some b =>
    rw [ex] at q
    cases b with
    | false => exact ⟨false, ex, (fun z => nomatch z), fun _ => L.xd σ' c' d fs ds G' H' ρ' pn' S1 e1 e2 e3 q⟩
    | true =>
      refine ⟨true, ex, fun _ => ⟨c', d, rfl, rfl, fun a na => ?_⟩, fun z => by cases z⟩
      have hl : i < σ'.length := by rw [← S1.len]; exact q.1
      refine ⟨.ref a, List.getElem?_set_self hl, ?_⟩
      have ga : G' a = none := by
        cases z : G' a with
        | none => rfl
        | some u => exact absurd na (S1.sub a u z).live
      have nd : d ≠ a := fun z => by rw [z, ga] at e1; cases e1
      have S2 := S1.step (S1.exG (o := exk a c' d) na)
      have dt : Dat C.K C.pp (upd G' a (exk a c' d)) (.ref a) (.exc c' ds) := .exc upd_same (by rw [upd_ne nd]; exact e1) e2 (e3.keep (Same.new ga))
      have S3 := (S2.setUn none i).setFz dt j
      have eσ : (((σ'.set i (some (V.ref a))).set j (some (V.ref a))).set i none) = (σ'.set i none).set j (some (V.ref a)) := by
        rw [List.set_comm _ _ hij.symm, List.set_set]
      show D.nx ((((σ'.set i (some (V.ref a))).set j (some (V.ref a))).set i none)) (upd H' a (exk a c' d))
      rw [eσ]
      exact L.nx _ _ _ _ _ S3 ((show Same G G' from S'.g0).trans (Same.new ga)) q.2
end
/-! ### a caught exception that is kept: isinstance, its fields -/
def rEk (K : PySem.W.Frag) : List V → Hp → VK → Prop := fun xs H Q => ∃ (a C d : Addr) (fs : List (Str × V)) (c : V) (cv : Value) (b : Bool), xs = [.ref a, c] ∧ H a = some (exk a C d) ∧ H d = some (.xd fs) ∧ ExcC K C ∧ ClsV c cv ∧ PySem.W.kitOne K (.ref C) cv = some b ∧ Q (.bl b) H
section
variable {X : Cx}
theorem exk_inst {pins : List (Addr × Obj)} {σ : L2.St} {H : Hp} {s : Shared} {a C d : Addr} {fs : List (Str × V)} (I : Inv X pins σ H s) (ea : H a = some (exk a C d)) (ed : H d = some (.xd fs)) :
    ∃ oe od, PySem.W.InstAt s.heap a oe C (some od) ∧ ∃ mA : Str → Option Value, (∀ f, RelO (fs.lookup f) (mA f)) ∧ ∀ n, PySem.W.lookIn n od = some (mA n) := by
  obtain ⟨⟨oe, vs, h1, h2, h3, h4⟩, _⟩ := (show ObjOk X.prog X.w H s.heap a (exk a C d) from I.hok a _ ea)
  obtain ⟨mA, hns, hr⟩ := (show ObjOk X.prog X.w H s.heap d (.xd fs) from I.hok d _ ed)
  obtain ⟨od, ho, hl⟩ := lookIn_ns hns
  exact ⟨oe, od, ⟨h1, h2, by unfold PySem.W.notCls; rw [h4] <;> rfl, by rw [h3]; exact ho⟩, mA, hr, hl⟩
theorem call_isiE : CallR X (.builtin "isinstance") (rEk X.K) := by
  intro pins s σ H xs us Q I r h
  obtain ⟨a, C, d, fs, c, cv, b, rfl, ea, ed, T, hc, e, q⟩ := h
  obtain ⟨u1, u2, rfl, r1, r2⟩ := vals2 r
  have e2 := hc.eq r2
  subst e2
  cases r1
  have hcl : (PySem.W.clsIn X.K C).isSome = true := by
    obtain ⟨cd, h1, _⟩ := PySem.W.any_some T.hd
    rw [h1]
    rfl
  obtain ⟨oe, od, J, _⟩ := exk_inst I ea ed
  exact PySem.W.kia_one (PySem.W.kitx_exc hcl T.hg T.hk T.hs T.ha T.hn T.ht T.hm) I.kIn J e (fun z => nomatch z) fun tk => ⟨.bl b, H, I.tok tk, rfl, q⟩
end
def dIsiE (K : PySem.W.Frag) : D → D → (D → Prop) → Prop := fun d c Q => ∃ C fs u b, d = .exc C fs ∧ ExcC K C ∧ c.clv = some u ∧ PySem.W.kitOne K (.ref C) u = some b ∧ Q (.bl b)
theorem r_isiE {K : PySem.W.Frag} : RLD K (rEk K) (L2' (dIsiE K)) := rl2 (by
  intro pp pn G H x y d e Qd Q ex dx dy t k
  obtain ⟨C, fs, u, b, rfl, T, e2, e3, q⟩ := t
  cases dx with
  | exc h1 h2 h3 h4 =>
    exact ⟨_, C, _, _, y, u, b, rfl, (ex.sub _ _ h1).ex (by intro _ z; cases z), (ex.sub _ _ h2).ex (by intro _ z; cases z), T, clsV_of dy e2, e3, k _ _ G H ex (.bl _) q⟩)
/-- x.f of a kept exception -/
def dFldE (T0 : Addr) (f : Str) : D → (D → Prop) → Prop := fun d Q => match d with
  | .exc T fs => T = T0 ∧ match fs.lookup f with
    | some z => Q z
    | none => False
  | _ => False
def tEk (K : PySem.W.Frag) (C0 : Addr) (n : Str) (te : TE) : TE := fun σ H Q => te σ H fun x H1 => ∃ (a d : Addr) (fs : List (Str × V)) (v : V), x = .ref a ∧ H1 a = some (exk a C0 d) ∧ H1 d = some (.xd fs) ∧ fs.lookup n = some v ∧ Q v H1
section
variable {X : Cx} {C : Cfg} {W : WX} {e : Expr} {f : Str} {pos : Pos} {Te : TDE} {te : TE} {C0 : Addr}
theorem pe_ek (T : ExcC X.K C0) (no : PySem.W.findIn X.K (.ref C0) f = some none) (he : PE X e te) (hb : attributeBase e f X.env (eval e X.env) = eval e X.env := by rfl) : PE X (.Attribute e f pos) (tEk X.K C0 f te) := by
  refine ⟨fun pins s σ H Q I h => ?_⟩
  refine attr_of hb (thn (he.run pins s σ H _ I h) fun u s1 ⟨x, H1, I1, rx, a, d, fs, v, ex, ea, ed, l, q⟩ => ?_)
  subst ex
  obtain rfl : u = Value.ref a := rx
  obtain ⟨oe, od, J, mA, hr, hl⟩ := exk_inst I1 ea ed
  obtain ⟨w, hw, rw'⟩ := RelO.some_of (v := v) (o := mA f) (by rw [← l]; exact hr f)
  exact PySem.HandSPX.exc_get I1.kIn J T.hg T.hk T.hs (PySem.W.findObj_own T.hd no rfl (by rw [hl, hw])) (handed_of rw') ⟨v, H1, I1.tok _, rw', q⟩
theorem pd_fldE (T : ExcC X.K C0) (no : PySem.W.findIn X.K (.ref C0) f = some none) (he : PD X C W e Te) (hb : attributeBase e f X.env (eval e X.env) = eval e X.env := by rfl) : PD X C W (.Attribute e f pos) (dUn (dFldE C0 f) Te) := by
  refine PE.imp (pe_ek T no he hb) fun σ H Q q => ?_
  obtain ⟨lk, G, ρ, pn, Qd, Qx, S, t, k, xl⟩ := q
  refine ⟨lk, G, ρ, pn, _, Qx, S, t, fun x d G1 H1 ρ1 pn1 S1 s1 dx t1 => ?_, xl⟩
  cases dx <;> first | exact t1.elim | skip
  rename_i a T1 dd fs ds ha hd hk l
  obtain ⟨rfl, t1⟩ := t1
  cases z : ds.lookup f with
  | none => rw [z] at t1; exact t1.elim
  | some w =>
    rw [z] at t1
    obtain ⟨v, h1, h2⟩ := look_of hk l z
    exact ⟨a, dd, fs, v, rfl, (S1.sub _ _ ha).ex (by intro _ z; cases z), (S1.sub _ _ hd).ex (by intro _ z; cases z), h1, k v w G1 H1 ρ1 pn1 S1 s1 h2 t1⟩
end
end Td
end
section
set_option maxRecDepth 100000
set_option maxHeartbeats 4000000
/-! The data layer: defs that are called where no repr is under way; repr of data; makings by written keywords. -/
namespace Td
open PySem PySem.Spec PyProof.Rows L2 Lw Tl
mutual
/-- a tree as Python's plain data -/
def D.py2 : D → Option PyData
  | .non => some .none
  | .bl b => some (.bool b)
  | .int i => some (.int i)
  | .str x => some (.str x)
  | .tup xs => match D.py2s xs with
    | some l => some (.tuple l)
    | none => none
  | .lst xs => match D.py2s xs with
    | some l => some (.list l)
    | none => none
  | _ => none
def D.py2s : List D → Option (List PyData)
  | [] => some []
  | d :: ds => match D.py2 d, D.py2s ds with
    | some p, some l => some (p :: l)
    | _, _ => none
end
section
variable {K : PySem.W.Frag} {pp : PP} {pn : Pn} {G H : Hp}
mutual
theorem da_of (ex : Ex0 K pp pn G H) : ∀ {v : V} {d : D} {p : PyData}, Dat K pp G v d → d.py2 = some p → Da K H v p
  | _, _, _, .non, e => by cases e; exact .non
  | _, _, _, .bl b, e => by cases e; exact .bl b
  | _, _, _, .int i, e => by cases e; exact .int i
  | _, _, _, .str x, e => by cases e; exact .str x
  | _, _, _, .ty _, e => by cases e
  | _, _, _, .fn _, e => by cases e
  | _, _, _, .pen _, e => by cases e
  | _, _, _, .tup (ds := ds) h l, e => by
    unfold D.py2 at e
    cases q : D.py2s ds with
    | none => rw [q] at e; cases e
    | some w => rw [q] at e; cases e; exact .tup ((ex.sub _ _ h).ex (by intro _ z; cases z)) (daL_of ex l q)
  | _, _, _, .lst (ds := ds) h l, e => by
    unfold D.py2 at e
    cases q : D.py2s ds with
    | none => rw [q] at e; cases e
    | some w => rw [q] at e; cases e; exact .lst ((ex.sub _ _ h).ex (by intro _ z; cases z)) (daL_of ex l q)
  | _, _, _, .dic _ _ _, e => by cases e
  | _, _, _, .obj _ _ _ _, e => by cases e
  | _, _, _, .exc _ _ _ _, e => by cases e
theorem daL_of (ex : Ex0 K pp pn G H) : ∀ {vs : List V} {ds : List D} {ps : List PyData}, DatL K pp G vs ds → D.py2s ds = some ps → DaAll K H vs ps
  | _, _, _, .nil, e => by cases e; exact .nil
  | _, _, _, .cons (d := d) (ds := ds) h t, e => by
    unfold D.py2s at e
    cases q : D.py2 d with
    | none => rw [q] at e; cases e
    | some p =>
      cases q2 : D.py2s ds with
      | none => rw [q, q2] at e; cases e
      | some l => rw [q, q2] at e; cases e; exact .cons (da_of ex h q) (daL_of ex t q2)
end
end
/-- repr(x) -/
def dRepr : D → (D → Prop) → Prop := fun d Q => ∃ p, d.py2 = some p ∧ p.showable = true ∧ p.depth ≤ 60 ∧ p.shown.length ≤ sizeLine ∧ Q (.str p.shown)
theorem r_repr {K : PySem.W.Frag} : RLD K (fun xs H Q => ∃ v d, xs = [v] ∧ Da K H v d ∧ d.showable = true ∧ d.depth ≤ 60 ∧ d.shown.length ≤ sizeLine ∧ Q (.str d.shown) H) (fun ds Q => ∃ d, ds = [d] ∧ dRepr d Q) := by
  intro pp pn G H xs ds Qd Q ex l t k
  obtain ⟨d, rfl, p, e1, e2, e3, e4, q⟩ := t
  obtain ⟨v, rfl, dv⟩ := l.one
  exact ⟨v, p, rfl, da_of ex dv e1, e2, e3, e4, k _ _ G H ex (.str _) q⟩
/-! ### where no repr is under way -/
section
variable {P : Program} {w : World} {K : PySem.W.Frag} {mg : Str → Option Value} {base : Heap} {qual nm : Str} {params : Arguments} {body : List Stmt} {scope : Scope} {dvs : List V} {kws : List (Str × V)} {f : Addr} {fd : FuncData} {N ps : List Str} {k n : Nat} {T : TDS}
/-- THE RULE for a def, called where no repr is under way -/
theorem fn_G (F : FunD K nm qual params body scope dvs kws f fd) (S : FnScope N ps scope) (hn : n = ps.length)
    (hb : ∀ (cdv : Value) (A : Around) (outer : List Env) (s : Shared) (H : Hp) (E : XK) (pp : PP) (G0 H0 : Hp), (cf K pp G0 H0).pc → (A.deeper (envOfC qual scope s.heap.objs.size f cdv)).guards = some [] → Room k (A.deeper (envOfC qual scope s.heap.objs.size f cdv)) → Takes (BX P w K mg base N qual scope f cdv A outer s H E) (WD E) →
      PDSs (BX P w K mg base N qual scope f cdv A outer s H E) (cf K pp G0 H0) (WD E) body T) : FnG P w K mg base (L2.CX P w) (k + 1) f fd ps (spD K (bodyD N n T)) := by
  obtain ⟨oc, od, dV, kV, doc, pm, an, cdv, ct, osl, rfl, lk, hcd, _, _⟩ := F.ex
  refine fnG_of lk hcd S (fun vs H Q E h => ?_) (fun A outer s H vs Q E hG hr h => ?_)
  · obtain ⟨pp, G, pn, ds, Qd, Qx, _, l, ⟨z, _⟩, _⟩ := h
    rw [l.length, z, hn]
  · obtain ⟨pp, G, pn, ds, Qd, Qx, x, l, ⟨z, t⟩, k1, k2⟩ := h
    refine ⟨_, hb cdv A outer s H E pp G H (pc_of x) hG hr (takes_of rfl rfl rfl rfl), ?_⟩
    exact ⟨[], G, startD N ds, pn, _, stR_start x l, t, ⟨fun σ' ρ' pn' G' H' S' _ q => k1 .non .non G' H' pn' S'.forget .non q, (fun _ _ _ _ _ _ _ q => q.elim), (fun _ _ _ _ _ _ _ q => q.elim), fun v d σ' ρ' pn' G' H' S' dv q => k1 v d G' H' pn' S'.forget dv q, fun σ c d fs ds G' H' ρ' pn' S' e1 e2 e3 q => k2 c d fs ds G' H' pn' S'.forget e1 e2 e3 q⟩⟩
/-- a def that may be called by its name where no repr is under way -/
structure FG (P : Program) (w : World) (K : PySem.W.Frag) (mg : Str → Option Value) (base : Heap) (nm : Str) (k : Nat) (ps : List Str) (sp : SpD) (f : Addr) (fd : FuncData) : Prop where
  ok : FnG P w K mg base (L2.CX P w) k f fd ps (spD K sp)
  gl : mg nm = some (.ref f)
  kp : PySem.W.keepIn K (.ref f) = true
  bi : Binds K fd ps []
theorem FD.g {nm : Str} {sp : SpD} (F : FD P w K mg base nm k ps sp f fd) : FG P w K mg base nm k ps sp f fd := ⟨.of F.ok, F.gl, F.kp, F.bi⟩
end
section
variable {X : Cx} {C : Cfg} {W : WX} {e : Expr} {es : List Expr} {kws : List Keyword} {p pos kpos : Pos} {Ts Tk : TDA} {k : Nat} {f : Addr} {fd : FuncData} {ps : List Str} {sp : SpD} {x : Str}
theorem pd_callG (F : FG X.prog X.w X.K X.mg X.base x k ps sp f fd) (hK : C.K = X.K) (hG : X.A.guards = some []) (hr : Room k X.A) (hg : Gl X x) (hx : ∀ σ, PassesAt (L2.CX X.prog X.w) X σ (WE W σ)) (ha : PDA X C W (e :: es) Ts)
    (hdb : (x == ("__debug__" : Str)) = false := by decide) (he : starEach (e :: es) X.env = (false, eval e X.env) :: starEach es X.env := by rfl) (hpl : (backTo pos (starEach es X.env)).any (·.1) = false := by rfl) :
    PD X C W (.Call (.Name x p) (e :: es) [] pos) (dCall sp Ts) := by
  refine ⟨fun pins s σ H Q I h => ?_⟩
  obtain ⟨lk, G, ρ, pn, Qd, Qx, S, t, kk, xl⟩ := h
  refine wpAny_Call_Name_kw (ld_glob I hg F.gl ?_ hdb)
  refine PySem.W.callWith_K (h₀ := X.base) I.ok.mod.kin F.kp (thn (ha.run pos pins s σ H (fun vs H1 => spD X.K sp vs H1 Q (WE W σ)) I ⟨lk, G, ρ, pn, _, Qx, S, t, fun vs ds G1 H1 ρ1 pn1 S1 g1 l t1 => ?_, xl⟩) fun us s1 ⟨vs, H1, I1, r, q⟩ => ⟨I1.kIn, ?_⟩) he hpl
  · exact spD_of hK S1 l t1 (fun v d G' H' pn' E dv q => kk v d G' H' ρ1 pn' (S1.step E) (g1.trans (.ex E)) dv q) (fun _ _ _ q => q) xl
  · have hl : (us ++ []).length = ps.length := by
      rw [List.append_nil, ← r.length]
      exact F.ok.len _ _ _ _ q
    have b := F.bi s1 us I1.kIn hl
    rw [List.append_nil] at b
    show wpAny _ _ (call (.ref f) ([] ++ us)) _ _ _
    refine wpAny_call (codeAny_mono (F.ok.run X.A X.stack s1 H1 ⟨[] ++ us, []⟩ us vs Q (WE W σ) hG hr I1.env0 b r q) fun r s' hq => ?_)
    cases r with
    | error e => exact hx σ pins H1 s1 e s' I1 hq
    | ok fl =>
      cases fl with
      | ret u => exact I1.after hq
      | next => exact False.elim hq
      | brk => exact False.elim hq
      | cont => exact False.elim hq
/-! ### C(k = e, ..) -/
theorem kv_zip : ∀ {ks : List Str} {zs : List V} {ws : List Value}, Vals zs ws → KV (ks.zip zs) (ks.zip ws)
  | [], _, _, _ => .nil
  | _ :: _, _, _, .nil => .nil
  | k :: ks, _, _, .cons h t => .cons ⟨rfl, h⟩ (kv_zip t)
theorem zip_keys {α β : Type} : ∀ {ks : List Str} {a : List α} {b : List β}, a.length = b.length → (ks.zip a).map (·.1) = (ks.zip b).map (·.1)
  | [], _, _, _ => rfl
  | _ :: _, [], [], _ => rfl
  | _ :: _, [], _ :: _, e => by simp at e
  | _ :: _, _ :: _, [], e => by simp at e
  | k :: ks, x :: a, y :: b, e => by
    have := zip_keys (ks := ks) (a := a) (b := b) (by simpa using e)
    simp only [List.zip_cons_cons, List.map_cons, this]
theorem zip_dat {K : PySem.W.Frag} {pp : PP} {G : Hp} : ∀ {ks : List Str} {zs : List V} {es : List D}, DatL K pp G zs es → DatL K pp G ((ks.zip zs).map (·.2)) ((ks.zip es).map (·.2))
  | [], _, _, _ => .nil
  | _ :: _, _, _, .nil => .nil
  | k :: ks, _, _, .cons h t => .cons h (zip_dat t)
def dMakeN (C0 : Addr) (ks : List Str) (sp : SpI) (V : TDA) : TDE := fun ρ pn Q Xx => V ρ pn (fun es ρ1 pn1 => kwOk (ks.zip es) ∧ sp [.dic (kwK (ks.zip es))] pn1 (fun fs pn2 => Q (.obj C0 fs) ρ1 pn2) (fun c fs pn2 => Xx c fs ρ1 pn2)) Xx
theorem pd_makeN {C0 g : Addr} {n : Nat} {ks : List Str} {sp : SpI} (M : Mk X.K C0 g) (F : FRK X.prog X.w X.K X.mg X.base n C0 g sp) (hK : C.K = X.K) (hr : Room (n + 1) X.A) (hg : Gl X x) (hm : X.mg x = some (.ref C0)) (hx : ∀ σ, PassesAt (L2.CX X.prog X.w) X σ (WE W σ)) (hkw : PDK X C W kws Tk)
    (hall : (backToKw pos (keywordEach kws X.env)).all (·.1.isSome) = true := by rfl) (hks : (backToKw pos (keywordEach kws X.env)).filterMap (·.1) = ks := by rfl) (hdb : (x == ("__debug__" : Str)) = false := by decide)
    (hpl : ((backTo pos (starEach [] X.env)).any (·.1) || (backToKw pos (keywordEach kws X.env)).any (·.1.isNone)) = false := by rfl) : PD X C W (.Call (.Name x p) [] kws pos) (dMakeN C0 ks sp Tk) := by
  refine ⟨fun pins s σ H Q I h => ?_⟩
  obtain ⟨lk, G, ρ, pn, Qd, Qx, S, t, kk, xl⟩ := h
  refine wpAny_Call_Name_kw (ld_glob I hg hm ?_ hdb)
  refine PySem.W.callWith_KW0 (h₀ := X.base) I.ok.mod.kin M.kp hall (thn (hkw.run pos pins s σ H (fun zs H1 => ∀ x dx, H1 x = none → H1 dx = none → dx ≠ x → spIK X.K C0 sp (.ref x) (ks.zip zs) (upd (upd H1 dx (.own x)) x (.ins C0 dx [])) (fun v H2 => v = .non ∧ Q (.ref x) H2) (WE W σ)) I ⟨lk, G, ρ, pn, _, Qx, S, t, fun zs es G1 H1 ρ1 pn1 S1 g1 l t1 => ?_, xl⟩) fun ws s2 ⟨zs, H2, I2, rz, q2⟩ => ⟨I2.kIn, ?_⟩) hpl
  · exact fun x dx nx nd ne => make_DK hK S1 (zip_keys l.length) (zip_dat l) t1.1 nx nd ne t1.2 (fun v d G' H' pn' E dv q => kk v d G' H' ρ1 pn' (S1.step E) (g1.trans (.ex E)) dv q) xl
  · rw [hks]
    exact run_makeKW M F hr (hx σ) I2 (kv_zip rz) q2
/-- C() of a class whose __init__ takes **d -/
theorem pd_makeK0 {C0 g : Addr} {n : Nat} {sp : SpI} (M : Mk X.K C0 g) (F : FRK X.prog X.w X.K X.mg X.base n C0 g sp) (hK : C.K = X.K) (hr : Room (n + 1) X.A) (hg : Gl X x) (hm : X.mg x = some (.ref C0)) (hx : ∀ σ, PassesAt (L2.CX X.prog X.w) X σ (WE W σ))
    (hdb : (x == ("__debug__" : Str)) = false := by decide) : PD X C W (.Call (.Name x p) [] [] pos) (fun ρ pn Q Xx => sp [.dic []] pn (fun fs pn2 => Q (.obj C0 fs) ρ pn2) (fun c fs pn2 => Xx c fs ρ pn2)) := by
  refine ⟨fun pins s σ H Q I h => ?_⟩
  obtain ⟨lk, G, ρ, pn, Qd, Qx, S, t, kk, xl⟩ := h
  refine wpAny_Call_Name_kw (ld_glob I hg hm ?_ hdb)
  refine PySem.W.callWith_K0 I.kIn M.kp (run_makeKW (kw := []) (kv := []) M F hr (hx σ) I .nil fun x dx nx nd ne => ?_)
  exact make_DK (dk := []) hK S rfl .nil ⟨by simp, by simp, Nat.zero_le _⟩ nx nd ne t (fun v d G' H' pn' E dv q => kk v d G' H' ρ pn' (S.step E) (.ex E) dv q) xl
end
end Td
end
section
set_option maxRecDepth 100000
set_option maxHeartbeats 4000000
/-! The data layer: dict(..), xs[::-1]. -/
namespace Td
open PySem PySem.Spec PyProof.Rows L2 Lw
section
variable {K : PySem.W.Frag}
def dDictD : D → (D → Prop) → Prop := fun d Q => match d with
  | .dic ds => Q (.dic ds)
  | _ => False
theorem r_dictD : RLD K (fun xs H Q => ∃ (a : Addr) (kvs : List (Key × V)), xs = [.ref a] ∧ Rd H a (.dK kvs) ∧ ∀ p, H p = none → Q (.ref p) (upd H p (.dK kvs))) (L1 dDictD) := rl1 (by
  intro pp pn G H x d Qd Q ex dx t k
  cases dx <;> first | exact t.elim | skip
  rename_i a kvs ds ha hk l
  exact ⟨a, kvs, rfl, (ex.sub _ _ ha).rd, fun p n => ex0_new ex (fun p G' e s => .dic e hk (l.keep s)) (fun v G' H' x dv => k v _ G' H' x dv t) n⟩)
/-- pairs of data -/
def D.pairs : List D → Option (List (Key × D))
  | [] => some []
  | .tup [kd, v] :: r => match kd.key, D.pairs r with
    | some k, some l => some ((k, v) :: l)
    | _, _ => none
  | _ => none
def mergeD (kvs more : List (Key × D)) : List (Key × D) := more.foldl (fun acc kv => putD acc kv.1 kv.2) kvs
def dDictP : D → (D → Prop) → Prop := fun d Q => match d with
  | .lst xs => match D.pairs xs with
    | some l => xs.length ≤ sizeLine ∧ Q (.dic (mergeD [] l))
    | none => False
  | _ => False
theorem merge_of {pp : PP} {G : Hp} : ∀ {more : List (Key × V)} {md : List (Key × D)} {kvs : List (Key × V)} {ds : List (Key × D)}, more.map (·.1) = md.map (·.1) → DatL K pp G (more.map (·.2)) (md.map (·.2)) → kvs.map (·.1) = ds.map (·.1) → DatL K pp G (kvs.map (·.2)) (ds.map (·.2)) →
    (mergeK kvs more).map (·.1) = (mergeD ds md).map (·.1) ∧ DatL K pp G ((mergeK kvs more).map (·.2)) ((mergeD ds md).map (·.2))
  | [], [], _, _, _, _, e, l => ⟨e, l⟩
  | [], _ :: _, _, _, e, _, _, _ => by simp at e
  | _ :: _, [], _, _, e, _, _, _ => by simp at e
  | kv :: more, d :: md, kvs, ds, e, l, e2, l2 => by
    simp only [List.map_cons, List.cons.injEq] at e
    cases l with
    | cons a b =>
      obtain ⟨p1, p2⟩ := put_of (k := kv.1) a e2 l2
      have := merge_of (more := more) (md := md) (kvs := putK kvs kv.1 kv.2) (ds := putD ds kv.1 d.2) e.2 b p1 p2
      unfold mergeK mergeD at this ⊢
      rw [List.foldl_cons, List.foldl_cons, ← e.1]
      exact this
theorem pairs_of {pp : PP} {pn : Pn} {G H : Hp} (ex : Ex0 K pp pn G H) : ∀ {xs : List V} {ds : List D} {l : List (Key × D)}, DatL K pp G xs ds → D.pairs ds = some l → ∃ (ps : List Addr) (kvs : List (Key × V)), xs = ps.map V.ref ∧ Paired (fun p kv => SqT K H p [kV kv.1, kv.2]) ps kvs ∧ kvs.map (·.1) = l.map (·.1) ∧ DatL K pp G (kvs.map (·.2)) (l.map (·.2))
  | _, _, _, .nil, e => by cases e; exact ⟨[], [], rfl, .nil, rfl, .nil⟩
  | x :: xs, d :: ds, l, .cons h t, e => by
    cases h <;> first | (cases e; done) | skip
    rename_i a vs us ha hl
    cases us with
    | nil => cases e
    | cons kd us =>
      cases us with
      | nil => cases e
      | cons w us =>
        cases us with
        | cons _ _ => cases e
        | nil =>
          unfold D.pairs at e
          cases q : kd.key with
          | none => rw [q] at e; cases e
          | some k =>
            cases q2 : D.pairs ds with
            | none => rw [q, q2] at e; cases e
            | some l2 =>
              rw [q, q2] at e
              cases e
              obtain ⟨ps, kvs, h1, h2, h3, h4⟩ := pairs_of ex t q2
              cases hl with
              | cons dk hl =>
                cases hl with
                | cons dw hl =>
                  cases hl
                  rename_i v1 v2
                  have e1 := key_of dk q
                  subst e1
                  exact ⟨a :: ps, (k, v2) :: kvs, by rw [h1]; rfl, .cons (SqT.of (ex0_tup ex ha)) h2, by simp [h3], .cons dw h4⟩
theorem r_dictP : RLD K (fun xs H Q => ∃ (a : Addr) (ps : List Addr) (kvs : List (Key × V)), xs = [.ref a] ∧ SqL K H a (ps.map V.ref) ∧ Paired (fun p kv => SqT K H p [kV kv.1, kv.2]) ps kvs ∧ ∀ p, H p = none → Q (.ref p) (upd H p (.dK (mergeK [] kvs)))) (L1 dDictP) := rl1 (by
  intro pp pn G H x d Qd Q ex dx t k
  cases dx <;> first | exact t.elim | skip
  rename_i a xs ds ha l
  dsimp only [dDictP] at t
  cases q : D.pairs ds with
  | none => rw [q] at t; exact t.elim
  | some pl =>
    rw [q] at t
    obtain ⟨ps, kvs, rfl, h2, h3, h4⟩ := pairs_of ex l q
    obtain ⟨m1, m2⟩ := merge_of (kvs := []) (ds := []) h3 h4 rfl .nil
    exact ⟨a, ps, kvs, rfl, SqL.of (ex0_lst ex ha), h2, fun p n => ex0_new ex (fun p G' e s => .dic e m1 (m2.keep s)) (fun v G' H' x dv => k v _ G' H' x dv t.2) n⟩)
end
/-- xs[::-1] -/
def dRevL : D → (D → Prop) → Prop := fun d Q => match d with
  | .lst xs => Q (.lst xs.reverse)
  | _ => False
section
variable {X : Cx} {C : Cfg} {W : WX} {e : Expr} {k : Nat} {p1 p2 p3 pos : Pos} {Te : TDE}
theorem pd_revL (hK : C.K = X.K) (he : PD X C W e Te) : PD X C W (.Subscript e (.Slice none none (some (.UnaryOp .USub (.Constant (.int 1) k p1) p2)) p3) pos) (dUn dRevL Te) := by
  refine PE.imp (pe_revL he) fun σ H Q q => ?_
  obtain ⟨lk, G, ρ, pn, Qd, Qx, S, t, k, xl⟩ := q
  refine ⟨lk, G, ρ, pn, _, Qx, S, t, fun x d G1 H1 ρ1 pn1 S1 s1 dx t1 => ?_, xl⟩
  cases dx <;> first | exact t1.elim | skip
  rename_i a xs ds ha l
  refine ⟨a, xs, rfl, by rw [← hK]; exact SqL.of ((S1.sub _ _ ha).ex (by intro _ z; cases z)), fun p n => ?_⟩
  have x := S1.exG (o := .lst xs.reverse) n
  exact k (.ref p) (.lst ds.reverse) _ _ ρ1 pn1 (S1.step x) (s1.trans (.ex x)) (.lst upd_same ((l.keep x.same).rev)) t1
end
section
variable {X : Cx} {C : Cfg} {W : WX} {tg e : Expr} {I J : TDI}
theorem pdi_or2 (h1 : PDI X C W tg e I) (h2 : PDI X C W tg e J) : PDI X C W tg e (fun ρ pn Q Xx => I ρ pn Q Xx ∨ J ρ pn Q Xx) := by
  refine ⟨fun pins s σ H R I0 q => ?_⟩
  obtain ⟨lk, G, ρ, pn, Qd, Qx, S, t, k, xl⟩ := q
  rcases t with t | t
  · exact h1.run pins s σ H R I0 ⟨lk, G, ρ, pn, Qd, Qx, S, t, k, xl⟩
  · exact h2.run pins s σ H R I0 ⟨lk, G, ρ, pn, Qd, Qx, S, t, k, xl⟩
/-- what is walked: a list, a tuple or a text -/
def dItS (T : TDE) : TDI := fun ρ pn Q Xx => dIt D.lst? T ρ pn Q Xx ∨ (dIt D.tup? T ρ pn Q Xx ∨ dIt D.signs T ρ pn Q Xx)
theorem pdi_seq {T : TDE} (h : PD X C W e T) (hK : C.K = X.K) : PDI X C W tg e (dItS T) := pdi_or2 (pdi_list h hK) (pdi_or2 (pdi_tup h hK) (pdi_str h))
/-- either reading of an expression, told at once -/
def dEi (T U : TDE) : TDE := fun ρ pn Q Xx => T ρ pn Q Xx ∨ U ρ pn Q Xx
theorem pd_ei {T U : TDE} (h1 : PD X C W e T) (h2 : PD X C W e U) : PD X C W e (dEi T U) := pd_or2 h1 h2
end
/-- target = e -/
def dAsg (g : TDG) (T : TDE) : TDS := fun E ρ pn => T ρ pn (fun d ρ1 pn1 => g d ρ1 fun ρ2 => E.nx ρ2 pn1) E.xd
section
variable {X : Cx} {C : Cfg} {W : WX} {tg e : Expr} {pos : Pos} {is : List Nat} {g : TDG} {T : TDE}
theorem pds_asg (he : PD X C W e T) (hg : PDG X C is tg g) (hs : swapsWithSole [tg] e pos.line X.env = pure false := by rfl) (hw : swappedStores [tg] e X.env = pure none := by rfl)
    (h1 : (assignEach [tg] X.env).map (·.2) = [assign tg X.env] := by rfl) : PDS X C W (.Assign [tg] e pos) (dAsg g T) := by
  refine PS.imp (ps_asg he hg hs hw h1) fun D σ H q => ?_
  obtain ⟨lk, G, ρ, pn, E, S, t, L⟩ := q
  refine ⟨lk, G, ρ, pn, _, _, S, t, fun v d G1 H1 ρ1 pn1 S1 g1 dv t1 => ?_, L.xd σ⟩
  exact ⟨lk, G1, ρ1, pn1, d, _, S1, dv, t1, fun σ' ρ' _ _ S' q => L.nx σ' ρ' pn1 G1 H1 S' g1.same q⟩
end
/-- either reading of a statement -/
def dEiS (T U : TDS) : TDS := fun E ρ pn => T E ρ pn ∨ U E ρ pn
theorem pds_ei {X : Cx} {C : Cfg} {W : WX} {st : Stmt} {T U : TDS} (h1 : PDS X C W st T) (h2 : PDS X C W st U) : PDS X C W st (dEiS T U) := by
  refine ⟨fun pins s σ H D I q => ?_⟩
  obtain ⟨lk, G, ρ, pn, E, S, t, L⟩ := q
  rcases t with t | t
  · exact h1.run pins s σ H D I ⟨lk, G, ρ, pn, E, S, t, L⟩
  · exact h2.run pins s σ H D I ⟨lk, G, ρ, pn, E, S, t, L⟩
end Td
end
section
set_option maxRecDepth 100000
set_option maxHeartbeats 4000000
/-! The data layer: != by an own __eq__, bool(x) of own instances, == of dicts. -/
namespace Ty
open PySem PySem.Spec PySem.W PySem.Calls PyProof.Rows Builtin
section
variable {prog : Program} {w : World} {A : Around} {E : Value → Shared → Prop} {s : Shared} {K : Frag} {x C L f : Addr} {h₀ : Heap} {m : Str → Option Value} {ox : Obj} {od : Option Obj} {u tb : Value}
/-- a look under a name finds what Python brings -/
theorem slot_K {M : Model} {B : String} {name : Str} {id : String} {args : List Value} {Q : Option Value → Shared → Prop} (X : K.In s.heap) (I : InstAt s.heap x ox C od) (hs : findIn K (.ref C) name = some (some (.builtin id))) (S : Slot B name id)
    (h : wpAny M A (call (.builtin id) (.ref x :: args)) (fun v => Q (some v)) E s) : wpAny M A (callSpecialIfBound? (.ref x) name args) Q E s := by
  simp only [callSpecialIfBound?, bindSpecialIfBound?]
  refine wpAny_holding (wpAny_bind (wpAny_bind (wpAny_bind (I.type.here ((looks_findIn X hs).here ?_)))))
  simp only [S.bind]
  refine wpAny_bind (wpAny_askSetting (wpAny_ite ?_))
  have go : wpAny M A (call (.builtin id) ([.ref x] ++ args) >>= fun v => pure (some v)) Q E s := wpAny_bind (wpAny_mono h (fun v s' z => wpAny_pure z) fun _ _ z => z)
  split
  · exact wpAny_bind (wpAny_pure (wpAny_pure go))
  · exact wpAny_tryCatch (wpAny_bind (wpAny_pure (wpAny_pure go)))
/-- such a slot may be called with an own instance -/
theorem slot_let {M : Model} {id owner n : String} {rest : List Value} {Q : Unit → Shared → Prop} (hk : builtinKind id = some .slot) (hs : splitId id = some (owner, n)) (ha : argsOk id ⟨.ref x :: rest, []⟩) (X : K.In s.heap) (I : InstAt s.heap x ox C od) (hb : subIn K (.ref C) (.type owner) = some true)
    (q : Q () s) : wpAny M A (checkBuiltinCall id ⟨.ref x :: rest, []⟩) Q E s := by
  simp only [checkBuiltinCall, hk, hs]
  have L : Looks M s.heap (isInstance (.ref x) (.type owner)) true := I.type.andThen (looks_subIn X hb)
  refine wpAny_bind (L.here ?_)
  cases e : Manifest.signature? id with
  | none => exact wpAny_pure q
  | some sig =>
    simp only [argsOk, e] at ha
    have h2 : Bind.checkArgs id sig ⟨.ref x :: rest, []⟩ = pure () := ha
    show wpAny M A (Bind.checkArgs id sig ⟨.ref x :: rest, []⟩) Q E _
    rw [h2]
    exact wpAny_pure q
theorem neObj (hu : A.units < cLine) (X : K.In s.heap) (I : InstAt s.heap x ox C od) (he : findIn K (.ref C) "__eq__" = some (some (.ref f))) (hf : isFn K (.ref f) = true) {Q : Fin → Shared → Prop}
    (h : wpAny (model prog w) A (call (.ref f) [.ref x, u]) (fun v s' => ∃ b, v = .bool b ∧ Q (.done (.ret (.bool (!b)))) s') E s) : wpAny (model prog w) A (Builtin.«object.__ne__» ⟨[.ref x, u], []⟩) Q E s := by
  unfold Builtin.«object.__ne__»
  refine wpAny_bind (m := slotArgs "__ne__" 1 _) (wpAny_pure ?_)
  refine wpAny_bind (wpAny_cRoomFor hu ?_)
  refine wpAny_bind (m := callSpecialIfBound? (.ref x) (Str.ofString "__eq__") [u]) (ifBound_K X I he hf (wpAny_mono h (fun v s' z => ?_) fun _ _ z => z))
  obtain ⟨b, rfl, q⟩ := z
  refine wpAny_bind (m := truthy (.bool b)) (wpAny_truthy_bool ?_)
  exact wpAny_pure q
theorem ne_K {Q : Value → Shared → Prop} (hu : A.units + 1 < cLine) (F : Fr h₀ L s.heap m) (X₀ : K.In h₀) (I : InstAt s.heap x ox C od) (hb : Looks (model prog w) s.heap (typeOf u) tb) (hn : notFirst K C tb = true)
    (hno : findIn K (.ref C) "__ne__" = some (some (.builtin "object.__ne__"))) (ho : subIn K (.ref C) (.type "object") = some true) (he : findIn K (.ref C) "__eq__" = some (some (.ref f))) (hf : isFn K (.ref f) = true)
    (h : wpAny (model prog w) A.in1 (call (.ref f) [.ref x, u]) (fun v s' => ∃ b, v = .bool b ∧ Q (.bool (!b)) s') E s) : wpAny (model prog w) A (richCompare .NotEq (.ref x) u) Q E s := by
  have X := X₀.keeps F.keep
  have S := PySem.F.cmp_object
  have one : wpAny (model prog w) A (tryCompare (.ref x) "__ne__" u) (fun r s' => ∃ v, r = some v ∧ Q v s') E s := by
    unfold tryCompare
    refine wpAny_bind (slot_K X I hno S.ne (wpAny_call (codeAny_call_builtin S.ne.plain PySem.F.cmpEntry_ne (slot_let PySem.F.cmpKind_ne PySem.F.cmpSplit_ne (PySem.F.cmpArgs_ne _ _) X I ho
      (neObj (A := A.in1) hu X I he hf (wpAny_mono h (fun v s' z => ?_) fun _ _ z => z))))))
    obtain ⟨b, rfl, q⟩ := z
    exact ⟨b, rfl, wpAny_pure ⟨_, rfl, q⟩⟩
  unfold richCompare
  simp only [oneThing_ref]
  refine wpAny_holding (wpAny_bind (wpAny_cRoomFor (Nat.lt_of_succ_lt hu) ?_))
  rw [cmpInfo_NotEq]
  dsimp only
  refine wpAny_bind (I.type.here (wpAny_bind (hb.here ?_)))
  split
  · rename_i q
    have e : subIn K tb (.ref C) = some false := by
      rcases Bool.or_eq_true_iff.mp hn with e | e
      · rw [beq_iff_eq.mp e] at q; simp at q
      · exact beq_iff_eq.mp e
    refine wpAny_bind ((looks_subIn X e).here ?_)
    simp only [Bool.false_eq_true, if_false]
    refine wpAny_bind (wpAny_mono one (fun r s' z => ?_) fun _ _ e => e)
    obtain ⟨v, rfl, hq⟩ := z
    exact wpAny_pure hq
  · refine wpAny_bind (wpAny_pure ?_)
    simp only [Bool.false_eq_true, if_false]
    refine wpAny_bind (wpAny_mono one (fun r s' z => ?_) fun _ _ e => e)
    obtain ⟨v, rfl, hq⟩ := z
    exact wpAny_pure hq
end
end Ty
namespace Td
open PySem PySem.Spec PyProof.Rows L2 Lw
section
variable {X : Cx} {C : Cfg} {W : WX} {C0 g : Addr} {n : Nat} {sp : SpD}
/-- x != y by x's own __eq__ -/
def rdNe (C0 : Addr) (side : D → Prop) (sp : SpD) : RxD := fun ds pn Q Xx => ∃ fs e, ds = [.obj C0 fs, e] ∧ side e ∧ sp [.obj C0 fs, e] pn (fun z pn' => ∃ b, z = .bl b ∧ Q (.bl (!b)) pn') Xx
theorem op_neOwn (hK : C.K = X.K) (o : Ow X.K C0 "__eq__" g) (hno : PySem.W.findIn X.K (.ref C0) "__ne__" = some (some (.builtin "object.__ne__"))) (ho : PySem.W.subIn X.K (.ref C0) (.type "object") = some true)
    (F : FR X.prog X.w X.K X.mg X.base n g sp) (hr : Room (n + 1) X.A) (hx : ∀ σ, PassesAt (L2.CX X.prog X.w) X σ (WE W σ)) : OpS X (compareOp .NotEq) (tDL C W (rdNe C0 (sideC X.K C0) sp)) := by
  intro pins s σ H x y v u Q I rx ry h
  have hsp : spD X.K sp [x, y] H (fun z H' => ∃ b, z = .bl b ∧ Q (.bl (!b)) H') (WE W σ) := by
    rw [← hK]
    obtain ⟨lk, G, ρ, pn, ds, Qd, Qx, S, l, ⟨fs, e, rfl, _, q⟩, k1, k2⟩ := h
    exact ⟨C.pp, G, pn, _, _, Qx, S.ex0, l, q, fun v d G' H' pn' E dz ⟨b, e, qz⟩ => by
      subst e
      cases dz
      exact ⟨b, rfl, k1 _ _ G' H' pn' E (.bl _) qz⟩, k2⟩
  obtain ⟨lk, G, ρ, pn, ds, Qd, Qx, S, l, ⟨fs, e, rfl, sd, q⟩, k1, k2⟩ := h
  cases l with
  | cons dx l =>
    cases l with
    | cons dy l =>
      obtain ⟨a, ddx, vs, rfl, ea, _⟩ := own_obj S dx
      cases (show v = Value.ref a from rx)
      obtain ⟨ox, od, J⟩ := inst_at I ea
      obtain ⟨m, hF⟩ := I.fr
      have hu : X.A.units + 1 < cLine := Nat.lt_of_le_of_lt (Nat.add_le_add_left (by decide) _) hr.units
      have fin : wpAny (model X.prog X.w) X.A.in1 (call (.ref g) [.ref a, u]) (fun v s' => ∃ b, v = .bool b ∧ EP X pins σ Q (.bool (!b)) s') X.xe s :=
        wpAny_mono (run_dA F hr.in1 I.env0.in1 (hx σ) I (.cons rx (.cons ry .nil)) hsp) (fun w s' z => by
          obtain ⟨z', H', I', rz, b, ez, qz⟩ := z
          subst ez
          cases rz
          exact ⟨b, rfl, .bl _, H', I', rfl, qz⟩) fun _ _ x => x
      show wpAny _ _ (richCompare .NotEq (.ref a) u) _ _ _
      rcases sd with ⟨T, e1, e2⟩ | ⟨C1, fs1, e1, e2⟩
      · exact Ty.ne_K hu hF I.ok.mod.kin J (tyn_looks I S dy e1 ry) e2 hno ho o.at_ o.fn fin
      · subst e1
        exact Ty.ne_K hu hF I.ok.mod.kin J (cls_looks I S dy ry) e2 hno ho o.at_ o.fn fin
/-- bool(x) by x's own __bool__ -/
def rdBoB (C0 : Addr) (sp : SpD) : RxD := fun ds pn Q Xx => ∃ fs, ds = [.obj C0 fs] ∧ sp [.obj C0 fs] pn (fun z pn' => ∃ b, z = .bl b ∧ Q (.bl b) pn') Xx
theorem call_boolOwn (hK : C.K = X.K) (o : Ow X.K C0 "__bool__" g) (F : FR X.prog X.w X.K X.mg X.base n g sp) (hr : Room (n + 2) X.A) (hx : ∀ σ, PassesAt (L2.CX X.prog X.w) X σ (WE W σ)) : CallS X (.type "bool") (tDL C W (rdBoB C0 sp)) := by
  intro pins s σ H xs us Q I r h
  have hsp : spD X.K sp xs H (fun z H' => ∃ b, z = .bl b ∧ Q (.bl b) H') (WE W σ) := by
    rw [← hK]
    obtain ⟨lk, G, ρ, pn, ds, Qd, Qx, S, l, ⟨fs, rfl, q⟩, k1, k2⟩ := h
    exact ⟨C.pp, G, pn, _, _, Qx, S.ex0, l, q, fun v d G' H' pn' E dz ⟨b, e, qz⟩ => by
      subst e
      cases dz
      exact ⟨b, rfl, k1 _ _ G' H' pn' E (.bl _) qz⟩, k2⟩
  obtain ⟨lk, G, ρ, pn, ds, Qd, Qx, S, l, ⟨fs, rfl, q⟩, k1, k2⟩ := h
  cases l with
  | cons dx l =>
    cases l
    obtain ⟨a, ddx, vs, rfl, ea, _⟩ := own_obj S dx
    obtain ⟨u, rfl, rx⟩ := r.one
    cases (show u = Value.ref a from rx)
    obtain ⟨ox, od, J⟩ := inst_at I ea
    obtain ⟨m, hF⟩ := I.fr
    refine bool_asks (PySem.W.truthy_K hF I.ok.mod.kin J o.at_ o.fn (wpAny_mono (run_dA F hr.in1.in1 I.env0.in1.in1 (hx σ) I r hsp) (fun w s' z => ?_) fun _ _ x => x))
    obtain ⟨z', H', I', rz, b, ez, qz⟩ := z
    subst ez
    cases rz
    exact ⟨.bl b, H', I', rfl, qz⟩
/-- bool(x) by x's own __len__ -/
def rdBoL (C0 : Addr) (sp : SpD) : RxD := fun ds pn Q Xx => ∃ fs, ds = [.obj C0 fs] ∧ sp [.obj C0 fs] pn (fun z pn' => ∃ i : Int, z = .int i ∧ 0 ≤ i ∧ i < 2 ^ 63 ∧ Q (.bl (i != 0)) pn') Xx
theorem call_boolLen (hK : C.K = X.K) (nb : PySem.W.findIn X.K (.ref C0) "__bool__" = some none) (o : Ow X.K C0 "__len__" g) (F : FR X.prog X.w X.K X.mg X.base n g sp) (hr : Room (n + 3) X.A) (hx : ∀ σ, PassesAt (L2.CX X.prog X.w) X σ (WE W σ)) : CallS X (.type "bool") (tDL C W (rdBoL C0 sp)) := by
  intro pins s σ H xs us Q I r h
  have hsp : spD X.K sp xs H (fun z H' => ∃ i : Int, z = .int i ∧ 0 ≤ i ∧ i < 2 ^ 63 ∧ Q (.bl (i != 0)) H') (WE W σ) := by
    rw [← hK]
    obtain ⟨lk, G, ρ, pn, ds, Qd, Qx, S, l, ⟨fs, rfl, q⟩, k1, k2⟩ := h
    exact ⟨C.pp, G, pn, _, _, Qx, S.ex0, l, q, fun v d G' H' pn' E dz ⟨b, e, z1, z2, qz⟩ => by
      subst e
      cases dz
      exact ⟨b, rfl, z1, z2, k1 _ _ G' H' pn' E (.bl _) qz⟩, k2⟩
  obtain ⟨lk, G, ρ, pn, ds, Qd, Qx, S, l, ⟨fs, rfl, q⟩, k1, k2⟩ := h
  cases l with
  | cons dx l =>
    cases l
    obtain ⟨a, ddx, vs, rfl, ea, _⟩ := own_obj S dx
    obtain ⟨u, rfl, rx⟩ := r.one
    cases (show u = Value.ref a from rx)
    obtain ⟨ox, od, J⟩ := inst_at I ea
    obtain ⟨m, hF⟩ := I.fr
    refine bool_asks (Tl.truthy_KL hF I.ok.mod.kin J nb o.at_ o.fn (wpAny_mono (run_dA F hr.in1.in1.in1 I.env0.in1.in1.in1 (hx σ) I r hsp) (fun w s' z => ?_) fun _ _ x => x))
    obtain ⟨z', H', I', rz, i, ez, z1, z2, qz⟩ := z
    subst ez
    obtain ⟨t, e⟩ := (show ∃ t, w = Value.int i t from rz)
    cases e
    exact ⟨⟨z1, z2⟩, i, _, rfl, .bl _, H', I'.tok _, rfl, qz⟩
end
end Td
end
section
set_option maxRecDepth 100000
set_option maxHeartbeats 4000000
/-! The data layer: == and != of dicts, in any order. -/
namespace Td
open PySem PySem.Spec PyProof.Rows L2 Lw
def lookP (es : List (Key × PyData)) (k : Key) : Option PyData := (es.find? fun kv => decide (kv.1 = k)).map (·.2)
def eqDicP (ds es : List (Key × PyData)) : Bool := (ds.length == es.length) && ds.all fun p => match lookP es p.1 with
  | some q => PyData.eqv p.2 q
  | none => false
/-- a tracked dict of plain data -/
def DpD (K : PySem.W.Frag) (H : Hp) (a : Addr) (kvs : List (Key × V)) (ds : List (Key × PyData)) : Prop := Rd H a (.dK kvs) ∧ kvs.map (·.1) = ds.map (·.1) ∧ DpAll K H (kvs.map (·.2)) (ds.map (·.2)) ∧ ∀ p ∈ ds, SeqAt.shaped p.2 = true
def rEqDD (K : PySem.W.Frag) (neg : Bool) : R2 := fun x y H Q => ∃ a b ks ls ds es, x = .ref a ∧ y = .ref b ∧ DpD K H a ks ds ∧ DpD K H b ls es ∧ Q (.bl (eqDicP ds es != neg)) H
section
variable {X : Cx} {pins : List (Addr × Obj)} {σ : L2.St} {H : Hp} {s : Shared}
/-- what stands under a key, and its data -/
theorem at_key (I : Inv X pins σ H s) : ∀ {ls : List (Key × V)} {vb : List (Key × Value)} {es : List (Key × PyData)} (k : Key), KV ls vb → ls.map (·.1) = es.map (·.1) → DpAll X.K H (ls.map (·.2)) (es.map (·.2)) → (∀ p ∈ es, SeqAt.shaped p.2 = true) →
    (valueAt vb k = none ∧ lookP es k = none) ∨ ∃ y q as, valueAt vb k = some y ∧ lookP es k = some q ∧ Reads s.heap y q as ∧ SeqAt.shaped q = true
  | [], _, es, k, r, e, d, sh => by
    cases r
    cases es with
    | nil => exact .inl ⟨rfl, rfl⟩
    | cons _ _ => cases e
  | (k1, v1) :: ls, _, es, k, r, e, d, sh => by
    cases es with
    | nil => cases e
    | cons p es =>
      obtain ⟨k2, q⟩ := p
      cases r with
      | @cons _ u _ vb h t =>
        obtain ⟨k3, u⟩ := u
        obtain ⟨h1, h2⟩ := h
        simp only at h1 h2
        subst h1
        simp only [List.map_cons, List.cons.injEq] at e
        obtain ⟨e1, e2⟩ := e
        subst e1
        simp only [List.map_cons] at d
        cases d with
        | cons d1 d2 =>
          by_cases c : k1 = k
          · subst c
            obtain ⟨as, rd⟩ := Dp.reads I _ _ _ d1 h2
            refine .inr ⟨u, q, as, ?_, ?_, rd, sh _ List.mem_cons_self⟩
            · simp [valueAt]
            · simp [lookP]
          · rcases at_key I k t e2 d2 (fun p hp => sh p (List.mem_cons_of_mem _ hp)) with ⟨z1, z2⟩ | ⟨y, q', as, z1, z2, z3, z4⟩
            · refine .inl ⟨?_, ?_⟩
              · simpa [valueAt, c] using z1
              · simpa [lookP, c] using z2
            · refine .inr ⟨y, q', as, ?_, ?_, z3, z4⟩
              · simpa [valueAt, c] using z1
              · simpa [lookP, c] using z2
theorem hits_of (I : Inv X pins σ H s) {A : Around} (hu : A.in1.units + 64 < cLine) {ls : List (Key × V)} {vb : List (Key × Value)} {es : List (Key × PyData)} (r : KV ls vb) (e : ls.map (·.1) = es.map (·.1)) (d : DpAll X.K H (ls.map (·.2)) (es.map (·.2))) (sh : ∀ p ∈ es, SeqAt.shaped p.2 = true) :
    ∀ {ks : List (Key × V)} {va : List (Key × Value)} {ds : List (Key × PyData)}, KV ks va → ks.map (·.1) = ds.map (·.1) → DpAll X.K H (ks.map (·.2)) (ds.map (·.2)) → (∀ p ∈ ds, SeqAt.shaped p.2 = true) →
      PySem.W.KeqHits A.in1 s vb va (ds.all fun p => match lookP es p.1 with
        | some q => PyData.eqv p.2 q
        | none => false)
  | [], _, ds, rk, ek, dk, shk => by
    cases rk
    cases ds with
    | nil => exact .nil
    | cons _ _ => cases ek
  | (k1, v1) :: ks, _, ds, rk, ek, dk, shk => by
    cases ds with
    | nil => cases ek
    | cons p ds =>
      obtain ⟨k2, q⟩ := p
      cases rk with
      | @cons _ u _ va h t =>
        obtain ⟨k3, u⟩ := u
        obtain ⟨h1, h2⟩ := h
        simp only at h1 h2
        subst h1
        simp only [List.map_cons, List.cons.injEq] at ek
        obtain ⟨e1, e2⟩ := ek
        subst e1
        simp only [List.map_cons] at dk
        cases dk with
        | cons d1 d2 =>
          obtain ⟨as, rd⟩ := Dp.reads I _ _ _ d1 h2
          have ih := hits_of I hu r e d sh t e2 d2 fun p hp => shk p (List.mem_cons_of_mem _ hp)
          rw [List.all_cons]
          rcases at_key I k1 r e d sh with ⟨z1, z2⟩ | ⟨y, q', bs, z1, z2, z3, z4⟩
          · simp only [z2, Bool.false_and]
            exact .miss z1
          · simp only [z2]
            exact .hit z1 (SeqAt.eqAt_reads q q' A.in1 s u y as bs rd z3 (SeqAt.canLay_of_shaped (shk _ List.mem_cons_self)) (SeqAt.canLay_of_shaped z4) (SeqAt.room_of_shaped (shk _ List.mem_cons_self) hu)) ih
end
section
variable {X : Cx}
theorem op_eqDD (hu : X.A.units + 80 < cLine) : OpR X (compareOp .Eq) (rEqDD X.K false) := by
  intro pins s σ H x y v u Q I rx ry h
  obtain ⟨a, b, ks, ls, ds, es, rfl, rfl, ⟨ra, ka, da, sa⟩, ⟨rb, kb, db, sb⟩, q⟩ := h
  obtain rfl : v = Value.ref a := rx
  obtain rfl : u = Value.ref b := ry
  obtain ⟨_, ya, va, r1, d1⟩ := dk_rd I.hok ra
  obtain ⟨_, yb, vb, r2, d2⟩ := dk_rd I.hok rb
  have l1 : va.length = ds.length := by rw [← r1.length, ← List.length_map (f := (·.1)) (as := ks), ka, List.length_map]
  have l2 : vb.length = es.length := by rw [← r2.length, ← List.length_map (f := (·.1)) (as := ls), kb, List.length_map]
  refine PySem.W.keq_eq (knd := mixKind X.prog X.w) ya yb d1 d2 (by omega) (fun _ => hits_of I (A := X.A) (by show X.A.units + 1 + 64 < cLine; omega) r2 kb db sb r1 ka da sa) (fin_bl I q ?_)
  rw [l1, l2]
  simp [eqDicP]
theorem op_neDD (hu : X.A.units + 80 < cLine) : OpR X (compareOp .NotEq) (rEqDD X.K true) := by
  intro pins s σ H x y v u Q I rx ry h
  obtain ⟨a, b, ks, ls, ds, es, rfl, rfl, ⟨ra, ka, da, sa⟩, ⟨rb, kb, db, sb⟩, q⟩ := h
  obtain rfl : v = Value.ref a := rx
  obtain rfl : u = Value.ref b := ry
  obtain ⟨_, ya, va, r1, d1⟩ := dk_rd I.hok ra
  obtain ⟨_, yb, vb, r2, d2⟩ := dk_rd I.hok rb
  have l1 : va.length = ds.length := by rw [← r1.length, ← List.length_map (f := (·.1)) (as := ks), ka, List.length_map]
  have l2 : vb.length = es.length := by rw [← r2.length, ← List.length_map (f := (·.1)) (as := ls), kb, List.length_map]
  refine PySem.W.keq_ne (knd := mixKind X.prog X.w) ya yb d1 d2 (by omega) (fun _ => hits_of I (A := X.A) (by show X.A.units + 1 + 64 < cLine; omega) r2 kb db sb r1 ka da sa) (fin_bl I q ?_)
  rw [l1, l2]
  simp [eqDicP]
end
/-- plain data under keys -/
def pyK : List (Key × D) → Option (List (Key × PyData))
  | [] => some []
  | (k, d) :: r => match d.py, pyK r with
    | some p, some t => if SeqAt.shaped p = true then some ((k, p) :: t) else none
    | _, _ => none
def dEqDic (neg : Bool) : D → D → (D → Prop) → Prop := fun d e Q => match d, e with
  | .dic ds, .dic es => match pyK ds, pyK es with
    | some ps, some qs => Q (.bl (eqDicP ps qs != neg))
    | _, _ => False
  | _, _ => False
theorem pyK_of {K : PySem.W.Frag} {pp : PP} {G H : Hp} (h : ∀ a o, G a = some o → Su H a o) : ∀ {kvs : List (Key × V)} {ds : List (Key × D)} {ps : List (Key × PyData)}, kvs.map (·.1) = ds.map (·.1) → DatL K pp G (kvs.map (·.2)) (ds.map (·.2)) → pyK ds = some ps →
    kvs.map (·.1) = ps.map (·.1) ∧ DpAll K H (kvs.map (·.2)) (ps.map (·.2)) ∧ ∀ p ∈ ps, SeqAt.shaped p.2 = true
  | [], [], ps, e, l, q => by
    cases q
    exact ⟨rfl, .nil, fun p hp => by cases hp⟩
  | [], _ :: _, _, e, _, _ => by cases e
  | _ :: _, [], _, e, _, _ => by cases e
  | (k, v) :: kvs, (k2, d) :: ds, ps, e, l, q => by
    simp only [List.map_cons, List.cons.injEq] at e
    obtain ⟨e1, e2⟩ := e
    subst e1
    simp only [List.map_cons] at l
    cases l with
    | cons l1 l2 =>
      simp only [pyK] at q
      cases q1 : d.py with
      | none => rw [q1] at q; cases q
      | some p =>
        cases q2 : pyK ds with
        | none => rw [q1, q2] at q; cases q
        | some t =>
          rw [q1, q2] at q
          simp only at q
          split at q
          · rename_i c
            cases q
            obtain ⟨z1, z2, z3⟩ := pyK_of h e2 l2 q2
            refine ⟨by simp [z1], .cons (dp_of h l1 q1) z2, fun p' hp => ?_⟩
            rcases List.mem_cons.mp hp with rfl | hp
            · exact c
            · exact z3 p' hp
          · cases q
theorem r_eqDD {K : PySem.W.Frag} {neg : Bool} : R2D K (rEqDD K neg) (dEqDic neg) := by
  intro pp pn G H x y d e Qd Q ex dx dy t k
  unfold dEqDic at t
  cases dx with
  | @dic a kvs ds ga ka la =>
    cases dy with
    | @dic b lvs es gb kb lb =>
      simp only at t
      cases q1 : pyK ds with
      | none => rw [q1] at t; exact t.elim
      | some ps =>
        cases q2 : pyK es with
        | none => rw [q1, q2] at t; exact t.elim
        | some qs =>
          rw [q1, q2] at t
          obtain ⟨x1, x2, x3⟩ := pyK_of ex.sub ka la q1
          obtain ⟨y1, y2, y3⟩ := pyK_of ex.sub kb lb q2
          exact ⟨a, b, kvs, lvs, ps, qs, rfl, rfl, ⟨(ex.sub _ _ ga).rd, x1, x2, x3⟩, ⟨(ex.sub _ _ gb).rd, y1, y2, y3⟩, k _ _ G H ex (.bl _) t⟩
    | _ => exact t.elim
  | _ => exact t.elim
end Td
end
section
set_option maxRecDepth 100000
set_option maxHeartbeats 4000000
/-! The data layer: x op= y where x's class has the plain operator alone. -/
namespace Ty
open PySem PySem.Spec PySem.W PySem.Calls PyProof.Rows Builtin
section
variable {prog : Program} {w : World} {M : Model} {A : Around} {E : Value → Shared → Prop} {s : Shared} {K : Frag} {x C L f : Addr} {h₀ : Heap} {m : Str → Option Value} {ox : Obj} {od : Option Obj} {T : String}
/-- neither the class nor object has the in-place one -/
structure NoI (K : Frag) (C : Addr) (nm : String) : Prop where
  cd : ∃ cd, clsIn K C = some cd ∧ cd.mro = [.ref C, .type "object"]
  c1 : findIn K (.ref C) (dunderI nm) = some none
  c2 : findIn K (.type "object") (dunderI nm) = some none
theorem NoI.fills {h : Heap} {nm : String} {add : Bool} (N : NoI K C nm) (X : K.In h) : Looks M h (fillsInplaceSlot (.ref C) nm add) false := by
  intro A Q E s k q
  obtain ⟨cd, hc, hm⟩ := N.cd
  have Lm : Looks M h (mroOf (.ref C)) cd.mro := (looks_clsIn X hc).andThen (f := fun cd => pure cd.mro) .now
  have Lm' := Lm.keeps k
  obtain ⟨hh, g, d, tt, os⟩ := s
  have X' : K.In hh := X.keeps k
  have L1 : Looks M hh (typeLookup (.ref C) (dunderI nm)) none := looks_findIn X' N.c1
  have L2 : Looks M hh (typeLookup (.type "object") (dunderI nm)) none := looks_findIn X' N.c2
  unfold fillsInplaceSlot
  refine wpAny_bind (Lm'.at ?_)
  rw [hm, List.anyM_cons]
  refine wpAny_bind ?_
  repeat lk
  exact q
theorem inpl_same {op : Operator} {b : Value} {Q : Value → Shared → Prop} (F : Fr h₀ L s.heap m) (X₀ : K.In h₀) (I : InstAt s.heap x ox C od) (hb : Looks (model prog w) s.heap (typeOf b) (.ref C)) (N : NoI K C op.info.2) (hc : selfFirst K C = true)
    (hs : findIn K (.ref C) (PySem.dunder op.info.2) = some (some (.ref f))) (hf : isFn K (.ref f) = true)
    (h : wpAny (model prog w) A (call (.ref f) [.ref x, b]) (PySem.W.CmpBack Q) E s) : wpAny (model prog w) A (inplaceOp op (.ref x) b) Q E s := by
  have X := X₀.keeps F.keep
  obtain ⟨cd, rest, hcd, hm⟩ := ksp_first hc
  unfold inplaceOp
  refine wpAny_holding (wpAny_bind (I.type.here (wpAny_bind ((N.fills X).here ?_))))
  simp only [Bool.false_eq_true, if_false]
  refine wpAny_bind ?_
  unfold binaryOp1
  refine wpAny_bind (I.type.here (wpAny_bind (hb.here (wpAny_bind ((fills_K X hcd hm hs).here ?_)))))
  simp only [beq_self_eq_true, if_true]
  refine wpAny_bind (wpAny_pure ?_)
  simp only [Bool.and_false, Bool.false_eq_true, if_false, Bool.false_and]
  refine wpAny_bind (wpAny_pure ?_)
  simp only [Bool.false_eq_true, if_false]
  refine wpAny_bind (m := tryMethod (.ref x) _ b) ?_
  unfold tryMethod
  refine wpAny_bind (special_fn X I hs (beq_iff_eq.mp hf) (wpAny_mono h (fun v s' hv => ?_) fun _ _ e => e))
  cases v <;> first | exact hv.elim | exact wpAny_pure (wpAny_pure (wpAny_pure hv))
theorem inpl_T {op : Operator} {b : Value} {fo ro rc : Option Value} {Q : Value → Shared → Prop} (F : Fr h₀ L s.heap m) (X₀ : K.In h₀) (I : InstAt s.heap x ox C od) (hb : typeOf b = pure (.type T)) (N : NoI K C op.info.2) (hc : selfFirst K C = true)
    (hs : findIn K (.ref C) (PySem.dunder op.info.2) = some (some (.ref f))) (hf : isFn K (.ref f) = true) (hr : findIn K (.ref C) (dunderR op.info.2) = some rc) (hp : rc = none ∨ ∃ g : Addr, rc = some (.ref g))
    (h1 : findIn K (.type T) (PySem.dunder op.info.2) = some fo) (h2 : findIn K (.type T) (dunderR op.info.2) = some ro) (hsub : subIn K (.type T) (.ref C) = some false)
    (h : wpAny (model prog w) A (call (.ref f) [.ref x, b]) (PySem.W.CmpBack Q) E s) : wpAny (model prog w) A (inplaceOp op (.ref x) b) Q E s := by
  have X := X₀.keeps F.keep
  obtain ⟨cd, rest, hcd, hm⟩ := ksp_first hc
  have L0 := N.fills (M := model prog w) (add := op == .Add) X
  have one := ksp_try X I hs hf h
  rcases hi : op.info with ⟨sym, nm'⟩
  rw [hi] at hs hr h1 h2 L0 one
  dsimp only at hs hr h1 h2 L0 one
  obtain ⟨hh, g, d, tt, os⟩ := s
  have L1 : Looks (model prog w) hh (typeOf (.ref x)) (.ref C) := I.type
  have L2 : Looks (model prog w) hh (typeOf b) (.type T) := Looks.of_pure hb
  have L3 : Looks (model prog w) hh (fillsNumberSlot (.ref C) nm') true := fills_K X hcd hm hs
  have L4 : Looks (model prog w) hh (fillsNumberSlot (.type T) nm') ((fo.isSome && !isSeqSlot fo) || (ro.isSome && !isSeqSlot ro)) := ksp_fillsT X h1 h2
  have L5 : Looks (model prog w) hh (isSubtype (.type T) (.ref C)) false := looks_subIn X hsub
  have L6 : Looks (model prog w) hh (numberSlotInPython (.ref C) nm') true := ksp_inPy X hs hr hp
  have L7 : Looks (model prog w) hh (numberSlotInPython (.type T) nm') false := Looks.of_pure rfl
  have L8 : Looks (model prog w) hh (typeLookup (.type T) (dunderR nm')) ro := looks_findIn X h2
  generalize ((fo.isSome && !isSeqSlot fo) || (ro.isSome && !isSeqSlot ro)) = right at L4
  have hne : (Value.ref C == Value.type T) = false := Bool.eq_false_iff.mpr fun q => by cases beq_iff_eq.mp q
  unfold inplaceOp
  simp only [hi]
  refine wpAny_holding (wpAny_bind (L1.at (wpAny_bind (L0.at ?_))))
  simp only [Bool.false_eq_true, if_false]
  refine wpAny_bind ?_
  unfold binaryOp1
  refine wpAny_bind (L1.at (wpAny_bind (L2.at (wpAny_bind (L3.at ?_)))))
  simp only [hne, Bool.false_eq_true, if_false]
  cases right with
  | false =>
    ksp_lk
    refine wpAny_mono one (fun r s' hr' => ?_) fun _ _ e => e
    obtain ⟨v, rfl, hq⟩ := hr'
    ksp_lk
    exact hq
  | true =>
    ksp_lk
    refine wpAny_mono one (fun r s' hr' => ?_) fun _ _ e => e
    obtain ⟨v, rfl, hq⟩ := hr'
    ksp_lk
    exact hq
end
end Ty
namespace Td
open PySem PySem.Spec PyProof.Rows L2 Lw
section
variable {X : Cx} {C : Cfg} {W : WX} {e : Expr} {pos : Pos} {Te : TDE} {C0 g : Addr} {n : Nat} {sp : SpD}
/-- x op= e, what the operator does told at the slots as they stand -/
theorem ps_augO {j : Nat} {x : Str} {te : TE} {op : Operator} {r : L2.St → List V → Hp → VK → Prop} {px : Pos} (hN : X.N.Nodup) (hi : X.N[j]? = some x) (hx : Loc X.env.scope x) (he : PE X e te) (ho : OpS X (inplaceOp op) r)
    (hf : X.fn x = true ∨ X.env.scope.names.lookup x = some .local := by first | exact .inl rfl | exact .inr rfl | assumption) :
    PS X (.AugAssign (.Name x px) op e pos) (fun D σ H => ∃ v, σ[j]? = some (some v) ∧ te σ H fun y H1 => r σ [v, y] H1 fun z H2 => D.nx (σ.set j (some z)) H2) := by
  refine ⟨fun pins t σ H D J ⟨old, there, want⟩ => ?_⟩
  obtain ⟨mm, nsm, look⟩ := J.loc
  obtain ⟨ou, orel, olook⟩ := look j x old hi there (hx.elim .inl fun k => .inr (.inl k))
  refine wpAny_AugAssign_Name ?_
  have rest : wpAny (model X.prog X.w) X.A (eval e X.env) (fun yv s2 => wpAny (model X.prog X.w) X.A (inplaceOp op ou yv) (fun zv s3 => wpAny (model X.prog X.w) X.A (storeName X.env x zv) (fun _ => SP X pins D .next) X.xe s3) X.xe s2) X.xe t :=
    thn (he.run pins t σ H _ J want) fun yv s2 ⟨y, H2, J2, yrel, want2⟩ =>
      thn (ho pins s2 σ H2 old y ou yv _ J2 orel yrel want2) fun zv s3 ⟨z, H3, J3, zrel, want3⟩ =>
        store_ok J3 hN hi hx zrel (fun s4 J4 => ⟨_, H3, J4, want3⟩) hf
  rcases olook with ⟨kind, here⟩ | ⟨kind, cc, cell, held⟩
  · exact wpAny_loadName_local J.ok.kind kind nsm here rest
  · rcases kind with kind | kind
    · exact wpAny_loadName_cell J.ok.kind kind cell held rest
    · exfalso
      have free : X.env.scope.names.lookup x = some .free := kind
      rcases hx with k | k <;> rw [k] at free <;> cases free
/-- x op= y, x's class has the plain operator -/
def rdAug (C0 : Addr) (side : D → Prop) (sp : SpD) : RxD := rdOwn C0 side sp
theorem op_augOwn {op : Operator} (hK : C.K = X.K) (sf : PySem.W.selfFirst X.K C0 = true) (N : Ty.NoI X.K C0 op.info.2) (o : Ow X.K C0 (PySem.dunder op.info.2) g) (F : FR X.prog X.w X.K X.mg X.base n g sp) (hr : Room n X.A) (hx : ∀ σ, PassesAt (L2.CX X.prog X.w) X σ (WE W σ)) :
    OpS X (inplaceOp op) (tDL C W (rdOwn C0 (sideB X.K C0 op) sp)) := by
  intro pins s σ H x y v u Q I rx ry h
  have hsp : spD X.K sp [x, y] H Q (WE W σ) := tDL.sp hK (h.imp fun ds pn Qd Qx ⟨fs, e, ed, _, q⟩ => by rw [ed]; exact q)
  obtain ⟨lk, G, ρ, pn, ds, Qd, Qx, S, l, ⟨fs, e, rfl, sd, q⟩, k1, k2⟩ := h
  cases l with
  | cons dx l =>
    cases l with
    | cons dy l =>
      obtain ⟨a, ddx, vs, rfl, ea, _⟩ := own_obj S dx
      cases (show v = Value.ref a from rx)
      obtain ⟨ox, od, J⟩ := inst_at I ea
      obtain ⟨m, hF⟩ := I.fr
      have fin : wpAny (model X.prog X.w) X.A (call (.ref g) [.ref a, u]) (PySem.W.CmpBack (EP X pins σ Q)) X.xe s :=
        wpAny_mono (run_dA F hr I.env0 (hx σ) I (.cons rx (.cons ry .nil)) hsp) (fun w s' z => sp_back z) fun _ _ x => x
      rcases sd with ⟨T, e1, B⟩ | ⟨fs1, e1⟩
      · obtain ⟨rc, hrc, hp⟩ := B.rc
        obtain ⟨fo, hfo⟩ := B.fo
        obtain ⟨ro, hro⟩ := B.ro
        have ty : typeOf u = pure (.type T) := by
          cases dy <;> first | (cases e1; done) | cases e1
          · cases (show u = Value.none from ry); rfl
          · cases (show u = Value.bool _ from ry); rfl
          · obtain ⟨t', q⟩ := (show ∃ t, u = Value.int _ t from ry); cases q; rfl
          · obtain ⟨t', q⟩ := (show ∃ t, u = Value.str _ t from ry); cases q; rfl
        exact Ty.inpl_T hF I.ok.mod.kin J ty N sf o.at_ o.fn hrc hp hfo hro B.sub fin
      · subst e1
        exact Ty.inpl_same hF I.ok.mod.kin J (cls_looks I S dy ry) N sf o.at_ o.fn fin
def sAugO (j : Nat) (rD : RxD) (T : TDE) : TDS := fun E ρ pn => match ρ[j]? with
  | some (.fz a) => T ρ pn (fun d ρ1 pn1 => rD [a, d] pn1 (fun z pn2 => E.nx (ρ1.set j (.fz z)) pn2) (fun c fs pn2 => E.xd c fs ρ1 pn2)) E.xd
  | _ => False
theorem pds_augO {j : Nat} {x : Str} {px : Pos} {op : Operator} {rD : RxD} (hN : X.N.Nodup) (hi : X.N[j]? = some x) (hx : Loc X.env.scope x) (ho : OpS X (inplaceOp op) (tDL C W rD)) (he : PD X C W e Te)
    (hf : X.fn x = true ∨ X.env.scope.names.lookup x = some .local := by first | exact .inl rfl | exact .inr rfl | assumption) : PDS X C W (.AugAssign (.Name x px) op e pos) (sAugO j rD Te) := by
  refine PS.imp (ps_augO hN hi hx he ho hf) fun D σ H q => ?_
  obtain ⟨lk, G, ρ, pn, E, S, t, L⟩ := q
  unfold sAugO at t
  cases er : ρ[j]? with
  | none => rw [er] at t; exact t.elim
  | some sv =>
    cases sv <;> first | (rw [er] at t; exact t.elim) | skip
    rename_i d0
    rw [er] at t
    obtain ⟨y, ey, dy⟩ := S.slot j _ er
    refine ⟨_, ey, lk, G, ρ, pn, _, _, S, t, fun w d G1 H1 ρ1 pn1 S1 g1 dw t1 => ?_, L.xd σ⟩
    refine ⟨lk, G1, ρ1, pn1, _, _, _, S1, .cons (dy.keep g1.same) (.cons dw .nil), t1, fun v d' G' H' pn' E' dz qz => ?_, fun c d' fs ds' G' H' pn' E' e1 e2 e3 q => ?_⟩
    · exact L.nx _ _ _ _ _ ((S1.step E').setFz dz j) (g1.same.trans E'.same) qz
    · exact L.xd σ c d' fs ds' G' H' ρ1 pn' (S1.step E') e1 e2 e3 q
end
end Td
end
section
set_option maxRecDepth 100000
set_option maxHeartbeats 4000000
/-! The data layer: zip of two tuples, a tuple told some times. -/
namespace Td
open PySem PySem.Spec PyProof.Rows L2 Lw RZ
section
variable {X : Cx} {C : Cfg} {W : WX} {e : Expr} {p pos : Pos} {Ts : TDA}
def dZipT : List D → Option (List D)
  | [.tup xs, .tup ys] => some ((xs.zip ys).map fun p => .tup [p.1, p.2])
  | _ => none
theorem pdi_zipT {e2 : Expr} {tpos : Pos} {elts : List Expr} {kk : Nat} (hg : Gl X "zip") (hm : X.mg "zip" = none) (hK : C.K = X.K) (ha : PDA X C W [e, e2] Ts)
    (hs : starEach [e, e2] X.env = (false, eval e X.env) :: starEach [e2] X.env := by rfl) (hpl : (backTo pos (starEach [e2] X.env)).any (·.1) = false := by rfl) :
    PDI X C W (.Tuple elts kk tpos) (.Call (.Name "zip" p) [e, e2] [] pos) (dItA dZipT Ts) := by
  refine PI.imp (pi_zipA hg hm ha hs hpl) fun σ H R q => ?_
  obtain ⟨lk, G, ρ, pn, Qd, Qx, S, t, k, xl⟩ := q
  refine ⟨lk, G, ρ, pn, _, Qx, S, t, fun vs ds G1 H1 ρ1 pn1 S1 g1 l t1 => ?_, xl⟩
  cases l with
  | nil => exact t1.elim
  | cons h l2 =>
    cases l2 with
    | nil => cases h <;> exact t1.elim
    | cons h2 l3 =>
      cases l3 with
      | cons _ _ => cases h <;> first | exact t1.elim | (cases h2 <;> exact t1.elim)
      | nil =>
        cases h <;> first | exact t1.elim | skip
        cases h2 <;> first | exact t1.elim | skip
        rename_i a xs ds ha la b ys es hb lb
        have nt : ∀ {xs : List V} (kvs : List (Key × V)), HO.tup xs ≠ .dK kvs := by intro _ _ z; cases z
        have hA := (S1.sub _ _ ha).ex nt
        have hB := (S1.sub _ _ hb).ex nt
        refine ⟨a, b, xs, ys, rfl, .inr ⟨SqT.of hA, SqT.of hB, ?_⟩⟩
        rw [← hK]
        refine k _ _ G1 H1 ρ1 pn1 S1 g1 ?_ t1
        have len1 := la.length
        have len2 := lb.length
        refine ⟨fun i G2 H2 pn x s _ hi => ?_, fun i G2 H2 pn v H' d x s _ e y => ?_, fun G2 H2 pn x s _ => ?_⟩
        · have q1 := (x.sub _ _ (s _ _ ha)).ex nt
          have q2 := (x.sub _ _ (s _ _ hb)).ex nt
          have hi' : i < ds.length ∧ i < es.length := by
            rw [List.length_map, List.length_zip] at hi
            omega
          exact ⟨xs, ys, xs[i]'(by omega), ys[i]'(by omega), SqT.of q1, SqT.of q2, List.getElem?_eq_getElem _, List.getElem?_eq_getElem _⟩
        · have q1 := (x.sub _ _ (s _ _ ha)).ex nt
          have q2 := (x.sub _ _ (s _ _ hb)).ex nt
          obtain ⟨T, u, w, rfl, hT, rfl, y1, y2⟩ := y
          have e1 := y1 xs (SqT.of q1)
          have e2 := y2 ys (SqT.of q2)
          obtain ⟨d1, g1, m1⟩ := la.get' e1
          obtain ⟨d2, g2, m2⟩ := lb.get' e2
          have z : (ds.zip es)[i]? = some (d1, d2) := List.getElem?_zip_eq_some.mpr ⟨g1, g2⟩
          rw [List.getElem?_map, z] at e
          cases e
          have ex := StR.exG (C := exC C.K C.pp G2 H2) x (o := .tup [u, w]) hT
          exact ⟨_, ex, .tup upd_same (.cons ((m1.keep s).keep ex.same) (.cons ((m2.keep s).keep ex.same) .nil))⟩
        · have q1 := (x.sub _ _ (s _ _ ha)).ex nt
          have q2 := (x.sub _ _ (s _ _ hb)).ex nt
          refine ⟨xs, ys, SqT.of q1, SqT.of q2, ?_⟩
          rw [List.length_map, List.length_zip]
          omega
end
/-- (x, ..) * k -/
def dRepT : D → D → (D → Prop) → Prop := fun d e Q => match d, e with
  | .tup ds, .int k => ds ≠ [] ∧ 2 ≤ k ∧ k ≤ 1000 ∧ ds.length ≤ 1000 ∧ Q (.tup (List.replicate k.toNat ds).flatten)
  | _, _ => False
theorem datL_rep {K : PySem.W.Frag} {pp : PP} {G : Hp} {xs : List V} {ds : List D} (h : DatL K pp G xs ds) : ∀ n : Nat, DatL K pp G (List.replicate n xs).flatten (List.replicate n ds).flatten
  | 0 => .nil
  | n + 1 => by
    rw [List.replicate_succ, List.replicate_succ, List.flatten_cons, List.flatten_cons]
    exact h.app (datL_rep h n)
theorem r_repT {K : PySem.W.Frag} : R2D K (rRepT K) dRepT := by
  intro pp pn G H x y d e Qd Q ex dx dy t k
  unfold dRepT at t
  cases dx with
  | @tup a xs ds ga la =>
    cases dy with
    | int i =>
      obtain ⟨t1, t2, t3, t4, t5⟩ := t
      have nt : ∀ (kvs : List (Key × V)), HO.tup xs ≠ .dK kvs := by intro _ z; cases z
      have ln := la.length
      refine ⟨a, i, xs, rfl, rfl, SqT.of ((ex.sub _ _ ga).ex nt), fun z => t1 (List.eq_nil_of_length_eq_zero (by rw [← ln, z]; rfl)), t2, t3, by omega, fun p hp => ?_⟩
      have x2 := StR.exG (C := exC K pp G H) ex (o := .tup (List.replicate i.toNat xs).flatten) hp
      exact k _ _ _ _ x2 (.tup upd_same (datL_rep (la.keep x2.same) _)) t5
    | _ => exact t.elim
  | _ => exact t.elim
end Td
end
section
set_option maxRecDepth 100000
set_option maxHeartbeats 4000000
/-! sum of a tuple of whole numbers; max of a list. -/
namespace Td
open PySem PySem.Spec PyProof.Rows L2 Lw
section
variable {prog : Program} {w : World} {A : Around} {E : Value → Shared → Prop} {s : Shared} {l : Addr}
theorem sum_tup0 {xs : Array (Int × Tok)} {Q : Value → Shared → Prop} (hh : A.handled = none) (hl : s.heap.IsTuple l (intItems xs))
    (h : ∀ h' tk t', (∀ b o, s.heap.get? b = some o → h'.get? b = some o) → Q (.int (preSum (numAt xs) xs.size) t') { s with heap := h', toks := tk }) :
    wpAny (model prog w) A (call (.builtin "sum") [.ref l]) Q E s := by
  have hlt : l < s.heap.objs.size := by
    obtain ⟨_, e, _⟩ := id hl
    exact Heap.lt_size e
  refine call_sum_walkG (wpAny_pyIter_tuple hl ?_)
  refine ⟨_, _, _, _, _, _, numAt xs, rfl, Walks.tuple (A := A.in1) hh _ l (Nat.ne_of_lt hlt) (intItems xs), ⟨⟨_, Heap.get?_push_size _ rfl, rfl, rfl⟩, hl.push _⟩, ?_, (fun _ _ => intItems_at), fun h' tk t' hk => ?_⟩
  · intro b hb
    show b < (s.heap.push _).objs.size
    rw [Heap.size_push]
    rcases List.mem_cons.mp hb with rfl | hb
    · exact Nat.lt_succ_self _
    · rcases List.mem_cons.mp hb with rfl | hb
      · exact Nat.lt_succ_of_lt hlt
      · cases hb
  · have := h h' tk t' fun b o e => hk b o (fun z => by
      rcases List.mem_cons.mp z with rfl | z
      · exact absurd (Heap.lt_size e) (Nat.lt_irrefl _)
      · cases z) (Heap.get?_push_of_some _ e)
    simpa [intItems] using this
theorem sum_tup1 {its : List Value} {ns : List Int} {Q : Value → Shared → Prop} (hh : A.handled = none) (hl : s.heap.IsTuple l its.toArray) (hi : IntsAre its ns)
    (h : ∀ h' tk t', (∀ b o, s.heap.get? b = some o → h'.get? b = some o) → Q (.int ns.sum t') { s with heap := h', toks := tk }) : wpAny (model prog w) A (call (.builtin "sum") [.ref l]) Q E s := by
  obtain ⟨xs, e⟩ := hi.allInts.items
  have same : numsOf (intItems xs).toList = ns := by rw [← e]; exact hi.numsOf
  rw [nums_intItems] at same
  rw [e] at hl
  refine sum_tup0 hh hl fun h' tk t' hk => ?_
  have z := h h' tk t' hk
  rw [preSum_eq, List.take_of_length_le (by simp), same]
  exact z
end
section
variable {X : Cx}
def rSumT (K : PySem.W.Frag) : List V → Hp → VK → Prop := fun vs H Q => ∃ (a : Addr) (ns : List Int), vs = [V.ref a] ∧ SqT K H a (ns.map V.int) ∧ Q (.int ns.sum) H
theorem cr_sumT (hc : X.calm = true) : CallR X (.builtin "sum") (rSumT X.K) := by
  intro pins s σ H vs us Q I r h
  obtain ⟨a, ns, rfl, hs, q⟩ := h
  obtain ⟨its, rv, hl, _⟩ := I.tuple hs
  rw [Vals.ref1 r]
  exact sum_tup1 (I.ok.hd hc) hl rv.ints fun h' tk t' hk => ⟨.int _, H, I.kept hk, ⟨_, rfl⟩, q⟩
theorem cr_sum2 (hc : X.calm = true) : CallR X (.builtin "sum") (fun vs H Q => rSum X.K vs H Q ∨ rSumT X.K vs H Q) := CallR.or (cr_sum hc) (cr_sumT hc)
end
/-- sum of a list or a tuple -/
def dSum2 : D → (D → Prop) → Prop := fun d Q => match d.seq.bind intsD with
  | some ns => Q (.int ns.sum)
  | none => False
theorem r_sum2 {K : PySem.W.Frag} : RLD K (fun vs H Q => rSum K vs H Q ∨ rSumT K vs H Q) (L1 dSum2) := rl1 (by
  intro pp pn G H x d Qd Q ex dx t k
  unfold dSum2 at t
  cases z : d.seq.bind intsD with
  | none => rw [z] at t; exact t.elim
  | some ns =>
    rw [z] at t
    obtain ⟨ds, e1, e2⟩ := Option.bind_eq_some_iff.mp z
    cases dx <;> first | (cases e1; done) | cases e1
    · rename_i a xs ha l
      rw [intsD_eq e2] at l
      rw [l.ofInt] at ha
      exact .inr ⟨_, ns, rfl, SqT.of (ex0_tup ex ha), k _ _ G H ex (.int _) t⟩
    · rename_i a xs ha l
      rw [intsD_eq e2] at l
      rw [l.ofInt] at ha
      exact .inl ⟨_, ns, rfl, SqL.of (ex0_lst ex ha), k _ _ G H ex (.int _) t⟩)
/-- max of a list -/
def dMaxL : D → (D → Prop) → Prop := fun d Q => match d.lst?.bind intsD with
  | some ns => 0 < ns.length ∧ ∀ m, m ∈ ns → (∀ y, y ∈ ns → y ≤ m) → Q (.int m)
  | none => False
theorem r_maxL {K : PySem.W.Frag} : RLD K (rMax K) (L1 dMaxL) := rl1 (by
  intro pp pn G H x d Qd Q ex dx t k
  unfold dMaxL at t
  cases z : d.lst?.bind intsD with
  | none => rw [z] at t; exact t.elim
  | some ns =>
    rw [z] at t
    obtain ⟨ds, rfl, e⟩ := bind_lst z
    cases dx with
    | lst ha l =>
      rw [intsD_eq e] at l
      rw [l.ofInt] at ha
      exact ⟨_, ns, rfl, SqL.of (ex0_lst ex ha), t.1, fun m h1 h2 => k _ _ G H ex (.int _) (t.2 m h1 h2)⟩)
end Td
end
section
set_option maxRecDepth 100000
set_option maxHeartbeats 4000000
/-! The data layer: lists and dicts that list(..), dict(..) made and that may still change; x[i] = e of such a list. -/
namespace Td
open PySem PySem.Spec PyProof.Rows L2 Lw
section
variable {X : Cx} {C : Cfg} {W : WX} {e i v : Expr} {p pos : Pos} {Ts : TDA} {Te Ti Tv : TDE}
def oList (U : TDA) : TDO := fun ρ pn Q X => U ρ pn (fun ds ρ1 pn1 => match ds with
  | [d] => (match d.seq with
    | some xs => Q (.ol xs) ρ1 pn1
    | none => False)
  | _ => False) X
theorem seq_cases {K : PySem.W.Frag} {pp : PP} {G H : Hp} {v : V} {d : D} {ds : List D} (s : ∀ a o, G a = some o → Su H a o) (dv : Dat K pp G v d) (e : d.seq = some ds) : ∃ a xs, v = .ref a ∧ (SqL K H a xs ∨ SqT K H a xs) ∧ DatL K pp G xs ds := by
  cases dv <;> first | (cases e; done) | cases e
  · rename_i a xs ha l
    exact ⟨a, xs, rfl, .inr (SqT.of ((s _ _ ha).ex (by intro _ z; cases z))), l⟩
  · rename_i a xs ha l
    exact ⟨a, xs, rfl, .inl (SqL.of ((s _ _ ha).ex (by intro _ z; cases z))), l⟩
theorem pdo_list (hK : C.K = X.K) (hg : Gl X "list") (hm : X.mg "list" = none) (ha : PDA X C W [e] Ts) (he : starEach [e] X.env = (false, eval e X.env) :: starEach [] X.env := by rfl) (hpl : (backTo pos (starEach [] X.env)).any (·.1) = false := by rfl) :
    PDO X C W (.Call (.Name "list" p) [e] [] pos) (oList Ts) := by
  refine PE.imp (pe_callTy call_list_of hg hm (by decide +kernel) ha (by decide) (by decide) he hpl) fun σ H Q q => ?_
  obtain ⟨lk, G, ρ, pn, Qd, Qx, S, t, k, xl⟩ := q
  refine ⟨lk, G, ρ, pn, _, Qx, S, t, fun vs ds G1 H1 ρ1 pn1 S1 g1 l t1 => ?_, xl⟩
  cases l with
  | nil => exact t1.elim
  | @cons v vs d ds dv l2 =>
    cases l2 with
    | cons _ _ => exact t1.elim
    | nil =>
      dsimp only at t1
      cases es : d.seq with
      | none => rw [es] at t1; exact t1.elim
      | some ys =>
        rw [es] at t1
        obtain ⟨a, xs, rfl, sq, lx⟩ := seq_cases S1.sub dv es
        refine ⟨a, xs, rfl, by rw [← hK]; exact sq, fun q n => ?_⟩
        obtain ⟨S2, g2, gp, h0, np, nw⟩ := own_new (o := .lst xs) S1 n
        exact k q (.ol ys) G1 _ ρ1 pn1 S2 (g1.trans g2) ⟨q, xs, rfl, upd_same, gp, h0, np, lx⟩ nw t1
def oDict (U : TDA) : TDO := fun ρ pn Q X => U ρ pn (fun ds ρ1 pn1 => match ds with
  | [.dic kvs] => Q (.od kvs) ρ1 pn1
  | _ => False) X
theorem pdo_dict (hg : Gl X "dict") (hm : X.mg "dict" = none) (ha : PDA X C W [e] Ts) (he : starEach [e] X.env = (false, eval e X.env) :: starEach [] X.env := by rfl) (hpl : (backTo pos (starEach [] X.env)).any (·.1) = false := by rfl) :
    PDO X C W (.Call (.Name "dict" p) [e] [] pos) (oDict Ts) := by
  refine PE.imp (pe_callTy call_dictD hg hm (by decide +kernel) ha (by decide) (by decide) he hpl) fun σ H Q q => ?_
  obtain ⟨lk, G, ρ, pn, Qd, Qx, S, t, k, xl⟩ := q
  refine ⟨lk, G, ρ, pn, _, Qx, S, t, fun vs ds G1 H1 ρ1 pn1 S1 g1 l t1 => ?_, xl⟩
  cases l with
  | nil => exact t1.elim
  | @cons v vs d ds dv l2 =>
    cases l2 with
    | cons _ _ => cases d <;> exact t1.elim
    | nil =>
      cases dv <;> first | exact t1.elim | skip
      rename_i a kvs ds ha ek lv
      refine ⟨a, kvs, rfl, (S1.sub _ _ ha).rd, fun q n => ?_⟩
      obtain ⟨S2, g2, gp, h0, np, nw⟩ := own_new (o := .dK kvs) S1 n
      exact k q (.od ds) G1 _ ρ1 pn1 S2 (g1.trans g2) ⟨q, kvs, rfl, upd_same, gp, h0, ek, lv⟩ nw t1
/-- x[i] = e, x a name of a list that may still change -/
def sIxL (j : Nat) (Ti Tv : TDE) : TDS := fun E ρ pn => Tv ρ pn (fun d ρ1 pn1 => match ρ1[j]? with
  | some (.ol _) => Ti ρ1 pn1 (fun e ρ2 pn2 => match ρ2[j]?, e with
    | some (.ol ds), .int k => (match ixN ds.length k with
      | some m => E.nx (ρ2.set j (.ol (ds.set m d))) pn2
      | none => False)
    | _, _ => False) E.xd
  | _ => False) E.xd
theorem pds_ixL {j : Nat} {x : Str} {px pos' : Pos} (hx : PE X (.Name x px) (tVar j)) (h0 : ∀ p, C.pp.p = some p → C.H0 C.pp.c ≠ none) (hi : PD X C W i Ti) (hv : PD X C W v Tv)
    (hs : swapsWithSole [.Subscript (.Name x px) i pos'] v pos.line X.env = pure false := by rfl) (hw : swappedStores [.Subscript (.Name x px) i pos'] v X.env = pure none := by rfl)
    (h1 : (assignEach [.Subscript (.Name x px) i pos'] X.env).map (·.2) = [assign (.Subscript (.Name x px) i pos') X.env] := by rfl)
    (ha : ∀ v, assign (.Subscript (.Name x px) i pos') X.env v = (do
      let ov ← holding [v] (eval (.Name x px) X.env)
      let iv ← holding [v, ov] (eval i X.env)
      standAt pos'
      holding [v, ov, iv] (setItem ov iv v)
      release [v, ov, iv] []) := by intro _; rfl) : PDS X C W (.Assign [.Subscript (.Name x px) i pos'] v pos) (sIxL j Ti Tv) := by
  refine PS.imp (ps_asg hv (pg_sub hx hi set_list ha) hs hw h1) fun D σ H q => ?_
  obtain ⟨lk, G, ρ, pn, E, S, t, L⟩ := q
  refine ⟨lk, G, ρ, pn, _, _, S, t, fun vv d G1 H1 ρ1 pn1 S1 g1 dv t1 => ?_, L.xd σ⟩
  cases er : ρ1[j]? with
  | none => rw [er] at t1; exact t1.elim
  | some sv =>
    cases sv <;> first | (rw [er] at t1; exact t1.elim) | skip
    rename_i ds0
    rw [er] at t1
    obtain ⟨y, xs, ey, hy, gy, ny, npy, ly⟩ := S1.slot j _ er
    refine ⟨_, ey, lk, G1, ρ1, pn1, _, _, S1, t1, fun kv e G2 H2 ρ2 pn2 S2 g2 dk t2 => ?_, L.xd σ⟩
    cases e1 : ρ2[j]? with
    | none => simp only [e1] at t2
    | some sv1 =>
      cases sv1 <;> first | (simp only [e1] at t2; done) | skip
      rename_i ds
      simp only [e1] at t2
      cases dk <;> first | exact t2.elim | skip
      rename_i k
      dsimp only at t2
      cases em : ixN ds.length k with
      | none => rw [em] at t2; exact t2.elim
      | some m =>
        rw [em] at t2
        obtain ⟨y1, xs1, ey1, hy1, gy1, ny1, npy1, ly1⟩ := S2.slot j _ e1
        rw [ey] at ey1
        cases ey1
        refine ⟨y, xs1, k, m, rfl, rfl, hy1, by rw [ly1.length]; exact em, ?_⟩
        have S3 := setO_same (sv' := .ol (ds.set m d)) S2 e1 rfl ey hy1 gy1 ny1 (by intro i z; cases z) (by intro a u z; cases z) (pc_ne S2 ny1 h0) (.lst (xs1.set m vv)) fun H' e => ⟨y, _, rfl, e, gy1, ny1, npy1, DatL.set (dv.keep g2.same) m ly1⟩
        exact L.nx _ _ _ _ _ S3 (g1.same.trans g2.same) t2
end
end Td
end
section
set_option maxRecDepth 100000
set_option maxHeartbeats 4000000
/-! The data layer: isinstance with a tuple of classes, a class as a value, range with three arguments. -/
namespace Td
open PySem PySem.Spec PyProof.Rows L2 Lw
def clvs : List D → Option (List Value)
  | [] => some []
  | d :: ds => match d.clv, clvs ds with
    | some a, some r => some (a :: r)
    | _, _ => none
def dIsiT (K : PySem.W.Frag) : D → D → (D → Prop) → Prop := fun d c Q => d.clsOk K ∧ ∃ t cs us b, d.tyv = some t ∧ c = .tup cs ∧ clvs cs = some us ∧ PySem.W.kitAny K t us = some b ∧ Q (.bl b)
theorem clvs_of {K : PySem.W.Frag} {pp : PP} {G : Hp} : ∀ {vs : List V} {cs : List D} {us : List Value}, DatL K pp G vs cs → clvs cs = some us → Paired ClsV vs us
  | _, _, _, .nil, e => by cases e; exact .nil
  | _, d :: cs, us, .cons dv l, e => by
    simp only [clvs] at e
    cases q1 : d.clv with
    | none => rw [q1] at e; cases e
    | some a =>
      cases q2 : clvs cs with
      | none => rw [q1, q2] at e; cases e
      | some r =>
        rw [q1, q2] at e
        cases e
        exact .cons (clsV_of dv q1) (clvs_of l q2)
theorem r_isiT {K : PySem.W.Frag} : RLD K (rIsiT K) (L2' (dIsiT K)) := rl2 (by
  intro pp pn G H x y d e Qd Q ex dx dy t k
  obtain ⟨ok, t, cs, us, b, e1, rfl, e2, e3, q⟩ := t
  cases dy with
  | @tup a xs ds ga la => exact ⟨x, a, xs, t, us, b, rfl, ex0_tup ex ga, clvs_of la e2, tyX_of ex dx e1 ok, e3, k _ _ G H ex (.bl _) q⟩)
section
variable {X : Cx} {C : Cfg} {W : WX} {p pos : Pos} {x : Str} {a : Addr} {Ts : TDA} {tg : Expr}
/-- a class, a def, by its name -/
theorem pd_cls (hK : C.K = X.K) (hg : Gl X x) (hm : X.mg x = some (.ref a)) (hc : (X.K.lookup a).isSome = true) (hdb : (x == ("__debug__" : Str)) = false := by decide) : PD X C W (.Name x pos) (dC (.fn a)) := by
  refine PE.imp (pe_glob (v := .ref a) hg hm rfl hdb) fun σ H Q q => ?_
  obtain ⟨lk, G, ρ, pn, Qd, Qx, S, t, k, xl⟩ := q
  exact k (.ref a) (.fn a) G H ρ pn S .refl (.fn (by rw [hK]; exact hc)) t
/-- range(a, b, c) -/
noncomputable def dRange3 : List D → Option (List D)
  | [.int i, .int j, .int c] => @ite _ (c ≠ 0 ∧ c.natAbs < 1073741824 ∧ Builtin.Range.small i j c = true ∧ Builtin.Range.rangeSize i j c = ((Builtin.Range.rangeSize i j c).toNat : Int)) (Classical.propDecidable _) (some ((List.range (Builtin.Range.rangeSize i j c).toNat).map fun (k : Nat) => .int (i + k * c))) none
  | _ => none
theorem dRange3_down {i j : Int} (ha : -(2 ^ 62) ≤ i) (ha' : i < 2 ^ 62) (hb : -(2 ^ 62) ≤ j) (hb' : j < 2 ^ 62) : dRange3 [.int i, .int j, .int (-1)] = some ((List.range (i - j).toNat).map fun (k : Nat) => .int (i + k * (-1))) := by
  obtain ⟨h1, h2, h3, h4⟩ := RgC.neg ha ha' hb hb'
  simp only [dRange3]
  rw [if_pos ⟨h1, h2, h3, by rw [h4, Int.toNat_natCast]⟩, h4, Int.toNat_natCast]
theorem itD_rangeC {K : PySem.W.Frag} {pp : PP} {lk : Lk} {G : Hp} {lo c : Int} {n : Nat} : ItD K pp lk G (Itc lo c n) ((List.range n).map fun (k : Nat) => .int (lo + k * c)) := by
  refine ⟨fun i G1 H1 pn x s _ hi => by show i < n; simpa using hi, fun i G1 H1 pn v H' d x s _ e y => ?_, fun G1 H1 pn x s _ => by show n ≤ _; simp⟩
  obtain ⟨rfl, rfl⟩ := y
  refine ⟨G1, x, ?_⟩
  rw [List.getElem?_map] at e
  by_cases hi : i < n
  · rw [List.getElem?_range hi] at e
    cases e
    exact .int _
  · rw [List.getElem?_eq_none (by simp; omega)] at e
    cases e
theorem pdi_range3 {a b c : Expr} (hg : Gl X "range") (hm : X.mg "range" = none) (ha : PDA X C W [a, b, c] Ts) (hs : starEach [a, b, c] X.env = (false, eval a X.env) :: starEach [b, c] X.env := by rfl) (hpl : (backTo pos (starEach [b, c] X.env)).any (·.1) = false := by rfl) :
    PDI X C W tg (.Call (.Name "range" p) [a, b, c] [] pos) (dItA dRange3 Ts) := by
  refine PI.imp (pi_range3 hg hm ha hs hpl) fun σ H R q => ?_
  obtain ⟨lk, G, ρ, pn, Qd, Qx, S, t, k, xl⟩ := q
  refine ⟨lk, G, ρ, pn, _, Qx, S, t, fun vs ds G1 H1 ρ1 pn1 S1 g1 l t1 => ?_, xl⟩
  unfold dRange3 at t1
  split at t1
  · rename_i items e
    split at e
    · rename_i i j c
      split at e
      · rename_i z
        cases e
        cases l with
        | cons d1 l =>
          cases l with
          | cons d2 l =>
            cases l with
            | cons d3 l =>
              cases l
              cases d1
              cases d2
              cases d3
              exact ⟨i, j, c, _, rfl, ⟨z.1, z.2.1, z.2.2.1, z.2.2.2⟩, k _ _ G1 H1 ρ1 pn1 S1 g1 itD_rangeC t1⟩
      · cases e
    · cases e
  · exact t1.elim
end
end Td
end
section
set_option maxRecDepth 100000
set_option maxHeartbeats 4000000
/-! tuple * 0, tuple * 1. -/
namespace Td
open PySem PySem.Spec PyProof.Rows L2 Lw
theorem tuple_none (l : Addr) (items : Array Value) (n : Nat) (dd : Option Addr) (sl : Array (Option Value)) (u : Tok) (c1 : items.isEmpty = false) :
    Meets (Builtin.«tuple.__mul__» ⟨[.ref l, .int 0 u], []⟩) (fun _ R s => s.heap.get? l = some { cls := .type "tuple", dict := dd, data := .seq items n, slots := sl } ∧
      R (.ok (.ret (Value.ref s.heap.objs.size))) { s with heap := s.heap.push { cls := Value.type "tuple", data := Data.seq #[] }, toks := s.toks }) :=
  .of_wp fun prog w A R s h => by
    obtain ⟨hp, g, d, tk, os⟩ := s
    obtain ⟨hl, h⟩ := h
    have f1 := AutoSeq1.idx_int
    wp_walk using wpAny_loadPart' hl
    exact ⟨_, rfl, h⟩
theorem tuple_once (l : Addr) (items : Array Value) (n : Nat) (dd : Option Addr) (sl : Array (Option Value)) (u : Tok) :
    Meets (Builtin.«tuple.__mul__» ⟨[.ref l, .int 1 u], []⟩) (fun _ R s => s.heap.get? l = some { cls := .type "tuple", dict := dd, data := .seq items n, slots := sl } ∧ R (.ok (.ret (Value.ref l))) s) :=
  .of_wp fun prog w A R s h => by
    obtain ⟨hp, g, d, tk, os⟩ := s
    obtain ⟨hl, h⟩ := h
    have f1 := AutoSeq1.idx_int
    have e : (items.isEmpty || (1 : Int) == 1) = true := by simp
    wp_walk using wpAny_loadPart' hl
    exact ⟨_, rfl, h⟩
section
variable {X : Cx}
/-- (x, ..) * 0, (x, ..) * 1 -/
def rRep01 (K : PySem.W.Frag) : R2 := fun x y H Q => ∃ l xs, x = .ref l ∧ SqT K H l xs ∧ xs ≠ [] ∧ ((y = .int 0 ∧ ∀ p, H p = none → Q (.ref p) (upd H p (.tup []))) ∨ (y = .int 1 ∧ Q (.ref l) H))
theorem op_rep01 : OpR X (binaryOp .Mult) (rRep01 X.K) := by
  intro pins s σ H x y v u Q I rx ry h
  obtain ⟨l, xs, rfl, hT, hne, h⟩ := h
  cases rx
  obtain ⟨its, r, ⟨⟨cls, dd, data, sl⟩, ho, hc, n, hd⟩, hs⟩ := I.tuple hT
  simp only at hc hd
  subst hc hd
  have hi : its.toArray.isEmpty = false := by
    cases its with
    | nil => cases r; exact absurd rfl hne
    | cons _ _ => rfl
  rcases h with ⟨rfl, q⟩ | ⟨rfl, q⟩
  · obtain ⟨t, rfl⟩ := ry
    refine wpAny_binaryOp_repeat_ref (T := "tuple") (U := "int") (by decide) ⟨_, ho, rfl⟩ (fun s' => PySem.typeIs_int s' 0 t) noFill_tuple_mul PySem.F.fills_int_mul PySem.F.slot_int_rmul repeat_tuple PySem.F.slot_int_index.lookup
      (call_meets PySem.F.slot_int_rmul (PySem.typeIs_int s 0 t) PySem.F.entry_int_rmul (PySem.F.args_int_rmul_2 _ _) (int_rmul_tuple 0 t l its.toArray n dd sl)
        ⟨ho, rfl, ⟨_, ho, rfl⟩, call_meets PySem.F.slot_tuple_mul ⟨_, ho, rfl⟩ PySem.F.entry_tuple_mul (PySem.F.args_tuple_mul_2 _ _) (tuple_none l its.toArray n dd sl t hi) ⟨ho, ?_⟩⟩)
    refine ⟨.ref s.heap.objs.size, _, I.laid (t' := s.toks) (o := .tup []) (fun b ob q => Heap.get?_push_of_some _ q) (Nat.le_refl _) ?_, rfl, q _ (I.hok.fresh (Nat.le_refl _))⟩
    exact ⟨by decide, [], .nil, IsTup.new _ _⟩
  · obtain ⟨t, rfl⟩ := ry
    refine wpAny_binaryOp_repeat_ref (T := "tuple") (U := "int") (by decide) ⟨_, ho, rfl⟩ (fun s' => PySem.typeIs_int s' 1 t) noFill_tuple_mul PySem.F.fills_int_mul PySem.F.slot_int_rmul repeat_tuple PySem.F.slot_int_index.lookup
      (call_meets PySem.F.slot_int_rmul (PySem.typeIs_int s 1 t) PySem.F.entry_int_rmul (PySem.F.args_int_rmul_2 _ _) (int_rmul_tuple 1 t l its.toArray n dd sl)
        ⟨ho, rfl, ⟨_, ho, rfl⟩, call_meets PySem.F.slot_tuple_mul ⟨_, ho, rfl⟩ PySem.F.entry_tuple_mul (PySem.F.args_tuple_mul_2 _ _) (tuple_once l its.toArray n dd sl t) ⟨ho, ?_⟩⟩)
    exact ⟨.ref l, H, I, rfl, q⟩
theorem op_repA : OpR X (binaryOp .Mult) (fun x y H Q => rRep01 X.K x y H Q ∨ rRepT X.K x y H Q) := OpR.or op_rep01 op_repT
end
/-- (x, ..) * k, k from 0 on -/
def dRepA : D → D → (D → Prop) → Prop := fun d e Q => match d, e with
  | .tup ds, .int k => ds ≠ [] ∧ 0 ≤ k ∧ k ≤ 1000 ∧ ds.length ≤ 1000 ∧ Q (.tup (List.replicate k.toNat ds).flatten)
  | _, _ => False
theorem r_repA {K : PySem.W.Frag} : R2D K (fun x y H Q => rRep01 K x y H Q ∨ rRepT K x y H Q) dRepA := by
  intro pp pn G H x y d e Qd Q ex dx dy t k
  unfold dRepA at t
  cases dx with
  | @tup a xs ds ga la =>
    cases dy with
    | int i =>
      obtain ⟨t1, t2, t3, t4, t5⟩ := t
      have ln := la.length
      have ne : xs ≠ [] := fun z => t1 (List.eq_nil_of_length_eq_zero (by rw [← ln, z]; rfl))
      have at_ := ex0_tup ex ga
      rcases Int.lt_or_le i 2 with c | c
      · left
        refine ⟨a, xs, rfl, SqT.of at_, ne, ?_⟩
        have two : i = 0 ∨ i = 1 := by omega
        rcases two with rfl | rfl
        · refine .inl ⟨rfl, fun p hp => ?_⟩
          have x2 := StR.exG (C := exC K pp G H) ex (o := .tup []) hp
          exact k _ _ _ _ x2 (.tup upd_same .nil) t5
        · refine .inr ⟨rfl, ?_⟩
          have e1 : (List.replicate (1 : Int).toNat ds).flatten = ds := by simp
          rw [e1] at t5
          exact k _ _ _ _ ex (.tup ga la) t5
      · right
        refine ⟨a, i, xs, rfl, rfl, SqT.of at_, ne, c, t3, by omega, fun p hp => ?_⟩
        have x2 := StR.exG (C := exC K pp G H) ex (o := .tup (List.replicate i.toNat xs).flatten) hp
        exact k _ _ _ _ x2 (.tup upd_same (datL_rep (la.keep x2.same) _)) t5
    | _ => exact t.elim
  | _ => exact t.elim
end Td
end
section
set_option maxRecDepth 100000
set_option maxHeartbeats 4000000
/-! The data layer: methods called with keywords alone, classes called with keywords alone. -/
namespace Td
open PySem PySem.Spec PyProof.Rows L2 Lw
section
variable {X : Cx} {C : Cfg} {W : WX} {o : Expr} {kws : List Keyword} {pos apos : Pos} {Ta : TDE} {Tk : TDA}
/-- o.m(k = v, ..) -/
def dMethK (C0 : Addr) (m : Str) (sp : SpD) (n : Nat) (T : TDE) (V : TDA) : TDE := fun ρ pn Q X => T ρ pn (fun d ρ1 pn1 => (∃ fs, d = .obj C0 fs ∧ fs.lookup m = none) ∧ V ρ1 pn1 (fun es ρ2 pn2 => es.length = n ∧ sp (d :: es) pn2 (fun z pn3 => Q z ρ2 pn3) (fun c fs pn3 => X c fs ρ2 pn3)) X) X
theorem pd_methK0 {C0 g : Addr} {n : Nat} {m : Str} {ks : List Str} {sp : SpD} {pl : Sem Bool} (hK : C.K = X.K) (cl : Cls X.K C0) (ow : Ow X.K C0 m g) (F : FKW X.prog X.w X.K X.mg X.base n g 1 ks sp) (hr : Room n X.A) (hx : ∀ σ, PassesAt (L2.CX X.prog X.w) X σ (WE W σ)) (ho : PD X C W o Ta) (hkw : PDK X C W kws Tk)
    (hall : (backToKw pos (keywordEach kws X.env)).all (·.1.isSome) = true := by rfl) (hks : (backToKw pos (keywordEach kws X.env)).filterMap (·.1) = ks := by rfl)
    (hpl : ((backTo pos (starEach [] X.env)).any (·.1) || (backToKw pos (keywordEach kws X.env)).any (·.1.isNone)) = false := by rfl)
    (ht : eval (.Call (.Attribute o m apos) [] kws pos) X.env = (do
      let ov ← eval o X.env
      standAt apos.atName
      let (f, first) ← holding [ov] (getMethod ov m pl)
      callWith pos f first (backTo pos (starEach [] X.env)) (backToKw pos (keywordEach kws X.env))) := by rfl) :
    PD X C W (.Call (.Attribute o m apos) [] kws pos) (dMethK C0 m sp ks.length Ta Tk) := by
  refine ⟨fun pins s σ H Q I h => ?_⟩
  obtain ⟨lk, G, ρ, pn, Qd, Qx, S, t, k, xl⟩ := h
  refine PySem.W.methodCall_KW (pl := pl) (thn (ho.run pins s σ H (fun x H1 => ∃ (G1 : Hp) (ρ1 : SL) (pn1 : Pn) (d : D), StR C lk σ ρ1 pn1 G1 H1 ∧ Gr C.pp σ ρ G H ρ1 G1 H1 ∧ Dat C.K C.pp G1 x d ∧ (∃ fs, d = .obj C0 fs ∧ fs.lookup m = none) ∧ Tk ρ1 pn1 (fun es ρ2 pn2 => es.length = ks.length ∧ sp (d :: es) pn2 (fun z pn3 => Qd z ρ2 pn3) (fun c fs pn3 => Qx c fs ρ2 pn3)) Qx) I
    ⟨lk, G, ρ, pn, _, Qx, S, t, fun v d G1 H1 ρ1 pn1 S1 s1 dx t1 => ⟨G1, ρ1, pn1, d, S1, s1, dx, t1.1, t1.2⟩, xl⟩) fun u s1 ⟨x, H1, I1, rx, G1, ρ1, pn1, d, S1, g1, dx, ⟨fs, ed, nl⟩, t1⟩ => ?_) ht
  subst ed
  obtain ⟨a, ddx, vs, rfl, ea, hk⟩ := own_obj S1 dx
  obtain rfl : u = Value.ref a := rx
  refine getmeth_ok I1 ea cl ow.meth (look_none hk nl) ?_
  refine PySem.W.callWith_KW0 (first := [.ref a]) (h₀ := X.base) I.ok.mod.kin ow.kp hall (thn (hkw.run pos pins s1 σ H1 (fun zs H2 => zs.length = ks.length ∧ spD X.K sp (.ref a :: zs) H2 Q (WE W σ)) I1 ⟨lk, G1, ρ1, pn1, _, Qx, S1, t1, fun ws ds G2 H2 ρ2 pn2 S2 g2 l t2 => ?_, xl⟩) fun ws s2 ⟨zs, H2, I2, rz, l2, q2⟩ => ⟨I2.kIn, ?_⟩) hpl
  · refine ⟨by rw [l.length]; exact t2.1, ?_⟩
    exact spD_of hK S2 (.cons (dx.keep g2.same) l) t2.2 (fun v d G' H' pn' E dv q => k v d G' H' ρ2 pn' (S2.step E) (g1.trans (g2.trans (.ex E))) dv q) (fun _ _ _ q => q) xl
  · rw [hks]
    exact run_kwA (us := [Value.ref a]) (vs := [V.ref a]) F hr (hx σ) I2 (.cons rfl .nil) rz rfl l2 q2
end
/-! ### makings with a default; with keywords alone -/
theorem fri_dflt {P : Program} {w : World} {K : PySem.W.Frag} {mg : Str → Option Value} {base : Heap} {k : Nat} {f C0 : Addr} {fd : FuncData} {ps : List Str} {sp : SpI} {us : List Value} {dd : List D} {dv : List V} (F : FnOk P w K mg base (L2.CX P w) k f fd ps (spI K C0 sp)) (b : Binds K fd ps us) (r : Vals dv us)
    (h : ∀ (pp : PP) (G : Hp), DatL K pp G dv dd) : FRI P w K mg base k C0 f (fun ds pn Q Xx => sp (ds ++ dd) pn Q Xx) :=
  (F.raw b r).imp fun vs H Q E q => by
    obtain ⟨x, dx, us', pp, G, pn, ds, Qd, Qx, rfl, h1, h2, h3, h4, ex, l, t, k1, k2⟩ := q
    exact ⟨x, dx, us' ++ dv, pp, G, pn, ds ++ dd, Qd, Qx, rfl, h1, h2, h3, h4, ex, l.app (h pp G), t, k1, k2⟩
def FIK (P : Program) (w : World) (K : PySem.W.Frag) (mg : Str → Option Value) (base : Heap) (k : Nat) (C0 f : Addr) (ks : List Str) (sp : SpI) : Prop :=
  ∀ (A : Around) (outer : List Env) (s : Shared) (H : Hp) (x : Addr) (ws : List Value) (zs : List V) (Q : VK) (E : XK), Room k A → Env0 P w K mg base A outer s H → Vals zs ws → zs.length = ks.length → spI K C0 sp (.ref x :: zs) H Q E →
    codeAny (model P w) A (.call (.ref f) ⟨[.ref x], ks.zip ws⟩) (CR (L2.CX P w) outer P w H s Q E) s
def spPickI (is : List Nat) (sp : SpI) : SpI := fun ds pn Q X => sp (pickL is ds) pn Q X
theorem fik_of {P : Program} {w : World} {K : PySem.W.Frag} {mg : Str → Option Value} {base : Heap} {k : Nat} {f C0 : Addr} {fd : FuncData} {ps ks : List Str} {sp : SpI} {is : List Nat} (F : FnOk P w K mg base (L2.CX P w) k f fd ps (spI K C0 sp))
    (b : ∀ (s : Shared) (x : Value) (ws : List Value), K.In s.heap → ws.length = ks.length → BindsTo s fd ⟨[x], ks.zip ws⟩ (ps.zip (x :: pickL is ws))) : FIK P w K mg base k C0 f ks (spPickI is sp) := by
  intro A outer s H x ws zs Q E hr e0 rz l2 q
  have KX : K.In s.heap := e0.mod.kin.keeps fun b o e => (e0.bs b o e).1
  obtain ⟨x', dx, us', pp, G, pn, ds, Qd, Qx, e1, h1, h2, h3, h4, ex, l, t, k1, k2⟩ := q
  injection e1 with e1 e2
  injection e1 with e1
  subst e1 e2
  exact F.run A outer s H ⟨[.ref x], ks.zip ws⟩ (.ref x :: pickL is ws) (.ref x :: pickL is zs) Q E hr e0 (b s _ ws KX (by rw [← rz.length]; exact l2)) (.cons rfl (pick_vals rz is)) ⟨x, dx, pickL is zs, pp, G, pn, pickL is ds, Qd, Qx, rfl, h1, h2, h3, h4, ex, pick_dat l is, t, k1, k2⟩
section
variable {X : Cx} {C : Cfg} {W : WX} {kws : List Keyword} {p pos : Pos} {Tk : TDA}
/-- C(k = v, ..) -/
def dMakeKw (C0 : Addr) (n : Nat) (sp : SpI) (V : TDA) : TDE := fun ρ pn Q Xx => V ρ pn (fun es ρ1 pn1 => es.length = n ∧ sp es pn1 (fun fs pn2 => Q (.obj C0 fs) ρ1 pn2) (fun c fs pn2 => Xx c fs ρ1 pn2)) Xx
theorem pd_makeKw {C0 g : Addr} {n : Nat} {x : Str} {ks : List Str} {sp : SpI} (M : Mk X.K C0 g) (F : FIK X.prog X.w X.K X.mg X.base n C0 g ks sp) (hK : C.K = X.K) (hr : Room (n + 1) X.A) (hg : Gl X x) (hm : X.mg x = some (.ref C0)) (hx : ∀ σ, PassesAt (L2.CX X.prog X.w) X σ (WE W σ)) (hkw : PDK X C W kws Tk)
    (hall : (backToKw pos (keywordEach kws X.env)).all (·.1.isSome) = true := by rfl) (hks : (backToKw pos (keywordEach kws X.env)).filterMap (·.1) = ks := by rfl) (hdb : (x == ("__debug__" : Str)) = false := by decide)
    (hpl : ((backTo pos (starEach [] X.env)).any (·.1) || (backToKw pos (keywordEach kws X.env)).any (·.1.isNone)) = false := by rfl) : PD X C W (.Call (.Name x p) [] kws pos) (dMakeKw C0 ks.length sp Tk) := by
  refine ⟨fun pins s σ H Q I h => ?_⟩
  obtain ⟨lk, G, ρ, pn, Qd, Qx, S, t, k, xl⟩ := h
  refine wpAny_Call_Name_kw (ld_glob I hg hm ?_ hdb)
  refine PySem.W.callWith_KW0 (h₀ := X.base) I.ok.mod.kin M.kp hall (thn (hkw.run pos pins s σ H (fun zs H1 => zs.length = ks.length ∧ ∀ x dx, H1 x = none → H1 dx = none → dx ≠ x → spI X.K C0 sp (V.ref x :: zs) (upd (upd H1 dx (.own x)) x (.ins C0 dx [])) (fun v H2 => v = .non ∧ Q (.ref x) H2) (WE W σ)) I
    ⟨lk, G, ρ, pn, _, Qx, S, t, fun vs ds G1 H1 ρ1 pn1 S1 g1 l t1 => ?_, xl⟩) fun ws s2 ⟨zs, H2, I2, rz, l2, q2⟩ => ⟨I2.kIn, ?_⟩) hpl
  · refine ⟨by rw [l.length]; exact t1.1, fun x dx nx nd ne => ?_⟩
    exact make_D hK S1 l nx nd ne t1.2 (fun v d G' H' pn' E dv q => k v d G' H' ρ1 pn' (S1.step E) (g1.trans (.ex E)) dv q) xl
  · rw [hks]
    have hq := q2 (s2.heap.objs.size + 1) s2.heap.objs.size (I2.hok.fresh (Nat.le_succ _)) (I2.hok.fresh (Nat.le_refl _)) (Nat.ne_of_lt (Nat.lt_succ_self _))
    have I3 := Inv.made (C := C0) I2
    refine wpAny_call (make_map (f := g) I2.kIn M.makes M.init (beq_iff_eq.mp M.fn) (codeAny_mono (F _ X.stack _ _ (s2.heap.objs.size + 1) ws zs _ _ (hr.make C0 [] (ks.zip ws)) (I3.env0.make C0 [] (ks.zip ws)) rz l2 hq) fun r s' hq' => ?_))
    cases r with
    | error e => exact hx σ pins _ _ e s' I3 hq'
    | ok fl =>
      cases fl with
      | ret u =>
        obtain ⟨v, H', I4, rv, ev, q3⟩ := I3.after hq'
        subst ev
        exact ⟨rv, ⟨V.ref (s2.heap.objs.size + 1), H', I4, rfl, q3⟩⟩
      | next => exact False.elim hq'
      | brk => exact False.elim hq'
      | cont => exact False.elim hq'
end
end Td
end
section
set_option maxRecDepth 100000
set_option maxHeartbeats 4000000
/-! The data layer: + also of empty tuples, slices also of tuples. -/
namespace Td
open PySem PySem.Spec PyProof.Rows L2 Lw
section
variable {X : Cx} {C : Cfg} {W : WX} {e : Expr} {Te : TDE} {pos p2 : Pos} {K : PySem.W.Frag}
def dAddA : D → D → (D → Prop) → Prop := fun d e Q => match d, e with
  | .int i, .int j => Q (.int (i + j))
  | .str a, .str b => a.length + b.length ≤ sizeLine ∧ Q (.str (a ++ b))
  | .lst a, .lst b => a.length + b.length ≤ sizeLine ∧ Q (.lst (a ++ b))
  | .tup a, .tup b => a.length + b.length ≤ sizeLine ∧ Q (.tup (a ++ b))
  | _, _ => False
def rAddA (K : PySem.W.Frag) : R2 := fun x y H Q => (rI0 (fun i j => .int (i + j)) x y H Q) ∨ (∃ i j, x = .str i ∧ y = .str j ∧ i.length + j.length ≤ sizeLine ∧ Q (.str (i ++ j)) H) ∨ rCat x y H Q ∨ rCatA K x y H Q
theorem op_addA : OpR X (binaryOp .Add) (rAddA X.K) := OpR.or op_add (OpR.or op_add_str (OpR.or op_cat op_catA))
theorem r_addA : R2D K (rAddA K) dAddA := by
  intro pp pn G H x y d e Qd Q ex dx dy t k
  cases dx <;> first | exact t.elim | (cases dy <;> first | exact t.elim | skip)
  · exact .inl ⟨_, _, rfl, rfl, k _ _ G H ex (.int _) t⟩
  · exact .inr (.inl ⟨_, _, rfl, rfl, t.1, k _ _ G H ex (.str _) t.2⟩)
  · rename_i a xs ds ha la b ys es hb lb
    refine .inr (.inr (.inr ⟨a, b, xs, ys, rfl, rfl, SqT.of (ex0_tup ex ha), SqT.of (ex0_tup ex hb), by rw [la.length, lb.length]; exact t.1, fun z => ?_, fun _ z => ?_, fun _ _ p n => ?_⟩))
    · subst z
      cases la
      exact k _ _ G H ex (.tup hb lb) t.2
    · subst z
      cases lb
      have t2 := t.2
      rw [List.append_nil] at t2
      exact k _ _ G H ex (.tup ha la) t2
    · exact ex0_new ex (fun p G' e s => .tup e ((la.app lb).keep s)) (fun v G' H' x dv => k v _ G' H' x dv t.2) n
  · rename_i a xs ds ha la b ys es hb lb
    refine .inr (.inr (.inl ⟨a, b, xs, ys, rfl, rfl, ex0_lst ex ha, ex0_lst ex hb, by rw [la.length, lb.length]; exact t.1, fun p n => ?_⟩))
    exact ex0_new ex (fun p G' e s => .lst e ((la.app lb).keep s)) (fun v G' H' x dv => k v _ G' H' x dv t.2) n
/-! ### slices -/
theorem cut_whole {xs : List D} {lo hi : Option Int} (h : HT.sIx xs.length 0 lo = 0 ∧ HT.sIx xs.length xs.length hi = xs.length) : cutD xs lo hi = xs := by
  unfold cutD
  rw [h.1, h.2]
  simp
def dSlA (To : TDE) (Tl Th : TDO') : TDE := fun ρ pn Q X => To ρ pn (fun d ρ1 pn1 => Tl ρ1 pn1 (fun l ρ2 pn2 => Th ρ2 pn2 (fun h ρ3 pn3 => match d with
  | .lst ds => Q (.lst (cutD ds l h)) ρ3 pn3
  | .tup ds => Q (.tup (cutD ds l h)) ρ3 pn3
  | .str z => z.length ≤ sizeLine ∧ Q (.str (cutS z l h)) ρ3 pn3
  | _ => False) X) X) X
theorem pd_slA {lo hi : Option Expr} {Tl Th : TDO'} (hK : C.K = X.K) (he : PD X C W e Te) (hl : PDP X C W lo Tl) (hu : PDP X C W hi Th) : PD X C W (.Subscript e (.Slice lo hi none p2) pos) (dSlA Te Tl Th) := by
  refine PE.imp (pe_slice (L2.SlR.or sl_list (L2.SlR.or sl_str sl_tupA)) he hl hu) fun σ H Q q => ?_
  obtain ⟨lk, G, ρ, pn, Qd, Qx, S, t, k, xl⟩ := q
  refine ⟨lk, G, ρ, pn, _, Qx, S, t, fun x d G1 H1 ρ1 pn1 S1 g1 dx t1 => ⟨lk, G1, ρ1, pn1, _, Qx, S1, t1, fun l G2 H2 ρ2 pn2 S2 g2 t2 => ⟨lk, G2, ρ2, pn2, _, Qx, S2, t2, fun u G3 H3 ρ3 pn3 S3 g3 t3 => ?_, xl⟩, xl⟩, xl⟩
  have g23 := g2.trans g3
  cases dx <;> first | exact t3.elim | skip
  · exact .inr (.inl ⟨_, rfl, t3.1, k _ _ G3 H3 ρ3 pn3 S3 (g1.trans g23) (.str _) t3.2⟩)
  · rename_i a xs ds ha dl
    have hH := (S3.sub _ _ (g23.same _ _ ha)).ex (by intro _ z; cases z)
    refine .inr (.inr ⟨a, xs, rfl, SqT.of hH, fun hw => ?_, fun _ q n => ?_⟩)
    · rw [dl.length] at hw
      have t4 : Qd (.tup (cutD ds l u)) ρ3 pn3 := t3
      rw [cut_whole hw] at t4
      exact k _ _ G3 H3 ρ3 pn3 S3 (g1.trans g23) (.tup (g23.same _ _ ha) (dl.keep g23.same)) t4
    · exact new_D S3 (fun p G' e s => .tup e ((datL_cut (dl.keep g23.same) l u).keep s)) (fun v G' H' x dv => k v _ G' H' ρ3 pn3 (S3.step x) (g1.trans (g23.trans (.ex x))) dv t3) n
  · rename_i a xs ds ha dl
    have hH := (S3.sub _ _ (g23.same _ _ ha)).ex (by intro _ z; cases z)
    refine .inl ⟨a, xs, rfl, SqL.of hH, fun q n => ?_⟩
    exact new_D S3 (fun p G' e s => .lst e ((datL_cut (dl.keep g23.same) l u).keep s)) (fun v G' H' x dv => k v _ G' H' ρ3 pn3 (S3.step x) (g1.trans (g23.trans (.ex x))) dv t3) n
end
end Td
end
section
set_option maxRecDepth 100000
set_option maxHeartbeats 4000000
/-! The data layer: a, b = x, y; a, b, c = x, list(y), list(z); -i. -/
namespace Td
open PySem PySem.Spec PyProof.Rows L2 Lw
section
variable {X : Cx} {C : Cfg} {W : WX} {K : PySem.W.Frag} {a b c e : Expr} {Te T1 T2 T3 : TDE} {U : TDA} {pos pt pt2 px py pz p p' q q' : Pos} {x y z : Str} {i j l : Nat} {kt : Nat} {k2 : Nat}
/-! ### -i -/
def dNegI : D → (D → Prop) → Prop := fun d Q => match d with
  | .int i => Q (.int (-i))
  | _ => False
theorem r_neg : R1D K (rU fun i => .int (-i)) dNegI := by
  intro pp pn G H x d Qd Q ex dx t k
  cases dx <;> first | exact t.elim | skip
  exact ⟨_, rfl, k _ _ G H ex (.int _) t⟩
/-! ### a, b = x, y -/
def dPar2 (i j : Nat) (U : TDA) : TDS := fun E ρ pn => U ρ pn (fun ds ρ1 pn1 => match ds with
  | [d, e] => E.nx ((ρ1.set i (.fz d)).set j (.fz e)) pn1
  | _ => False) E.xd
theorem pds_par2 (hc : X.calm = true) (hN : X.N.Nodup) (hi : X.N[i]? = some x) (hj : X.N[j]? = some y) (hij : i ≠ j)
    (hx : X.env.scope.names.lookup x = some .local) (hy : X.env.scope.names.lookup y = some .local) (ha : PDA X C W [a, b] U)
    (hw : swappedStores [.Tuple [.Name x px, .Name y py] kt pt] (.Tuple [a, b] k2 pt2) X.env = pure (some [x, y]))
    (hs : swapsWithSole [.Tuple [.Name x px, .Name y py] kt pt] (.Tuple [a, b] k2 pt2) pos.line X.env = pure false := by rfl) :
    PDS X C W (.Assign [.Tuple [.Name x px, .Name y py] kt pt] (.Tuple [a, b] k2 pt2) pos) (dPar2 i j U) := by
  refine PS.imp (ps_par hc hN hi hj hij hx hy ha hw hs) fun D σ H q => ?_
  obtain ⟨lk, G, ρ, pn, E, S, t, L⟩ := q
  refine ⟨lk, G, ρ, pn, _, _, S, t, fun vs ds G1 H1 ρ1 pn1 S1 g1 l t1 => ?_, L.xd σ⟩
  cases l with
  | nil => exact t1.elim
  | cons dv l2 =>
    cases l2 with
    | nil => exact t1.elim
    | cons dw l3 =>
      cases l3 with
      | cons _ _ => exact t1.elim
      | nil => exact ⟨_, _, rfl, L.nx _ _ _ _ _ ((S1.setFz dv i).setFz dw j) g1.same t1⟩
/-! ### a, b, c = x, list(y), list(z): the lists may still change -/
def dPar3 (i j l : Nat) (T1 T2 T3 : TDE) : TDS := fun E ρ pn => T1 ρ pn (fun d1 ρ1 pn1 => T2 ρ1 pn1 (fun d2 ρ2 pn2 => match d2.seq with
  | some xs => T3 ρ2 pn2 (fun d3 ρ3 pn3 => match d3.seq with
    | some ys => E.nx (((ρ3.set i (.fz d1)).set j (.ol xs)).set l (.ol ys)) pn3
    | none => False) E.xd
  | none => False) E.xd) E.xd
theorem ownAt_setFz {σ : L2.St} {ρ : SL} {i : Nat} {v : V} {d : D} {r : Addr} (h : OwnAt (σ.set i (some v)) (ρ.set i (.fz d)) r) : OwnAt σ ρ r := by
  obtain ⟨m, sv, e, o, s⟩ := h
  by_cases hm : i = m
  · subst hm
    by_cases hl : i < ρ.length
    · rw [List.getElem?_set_self hl] at e
      cases e
      cases o
    · rw [List.getElem?_eq_none (by simp; omega)] at e
      cases e
  · rw [List.getElem?_set_ne hm] at e s
    exact ⟨m, sv, e, o, s⟩
theorem pds_par3L (hK : C.K = X.K) (hc : X.calm = true) (hN : X.N.Nodup) (hi : X.N[i]? = some x) (hj : X.N[j]? = some y) (hl : X.N[l]? = some z) (hij : i ≠ j) (hil : i ≠ l) (hjl : j ≠ l)
    (hx : X.env.scope.names.lookup x = some .local) (hy : X.env.scope.names.lookup y = some .local) (hz : X.env.scope.names.lookup z = some .local)
    (hg : Gl X "list") (hm : X.mg "list" = none) (h1 : PD X C W a T1) (h2 : PD X C W b T2) (h3 : PD X C W c T3)
    (hw : swappedStores [.Tuple [.Name x px, .Name y py, .Name z pz] kt pt] (.Tuple [a, .Call (.Name "list" p) [b] [] q, .Call (.Name "list" p') [c] [] q'] k2 pt2) X.env = pure (some [x, y, z]))
    (hs : swapsWithSole [.Tuple [.Name x px, .Name y py, .Name z pz] kt pt] (.Tuple [a, .Call (.Name "list" p) [b] [] q, .Call (.Name "list" p') [c] [] q'] k2 pt2) pos.line X.env = pure false := by rfl)
    (sa : starEach [a, .Call (.Name "list" p) [b] [] q, .Call (.Name "list" p') [c] [] q'] X.env = (false, eval a X.env) :: starEach [.Call (.Name "list" p) [b] [] q, .Call (.Name "list" p') [c] [] q'] X.env := by rfl)
    (sb : starEach [b] X.env = (false, eval b X.env) :: starEach [] X.env := by rfl) (sc : starEach [c] X.env = (false, eval c X.env) :: starEach [] X.env := by rfl) :
    PDS X C W (.Assign [.Tuple [.Name x px, .Name y py, .Name z pz] kt pt] (.Tuple [a, .Call (.Name "list" p) [b] [] q, .Call (.Name "list" p') [c] [] q'] k2 pt2) pos) (dPar3 i j l T1 T2 T3) := by
  have P2 := pe_callTy (p := p) (pos := q) call_list_of hg hm (by decide +kernel) (pa_cons h2 pa_nil sb) (by decide) (by decide) sb (by rfl)
  have P3 := pe_callTy (p := p') (pos := q') call_list_of hg hm (by decide +kernel) (pa_cons h3 pa_nil sc) (by decide) (by decide) sc (by rfl)
  refine PS.imp (ps_par3 hc hN hi hj hl hij hil hjl hx hy hz (pa_cons h1 (pa_cons P2 (pa_cons P3 pa_nil)) sa) hw hs) fun D σ H q => ?_
  obtain ⟨lk, G, ρ, pn, E, S, t, L⟩ := q
  refine ⟨lk, G, ρ, pn, _, _, S, t, fun v1 d1 G1 H1 ρ1 pn1 S1 g1 dv1 t1 => ?_, L.xd σ⟩
  refine ⟨lk, G1, ρ1, pn1, _, _, S1, t1, fun v2 d2 G2 H2 ρ2 pn2 S2 g2 dv2 t2 => ?_, L.xd σ⟩
  cases es : d2.seq with
  | none => rw [es] at t2; exact t2.elim
  | some xds =>
    rw [es] at t2
    obtain ⟨a2, xs, rfl, sq, lx⟩ := seq_cases S2.sub dv2 es
    refine ⟨a2, xs, rfl, by rw [← hK]; exact sq, fun r n => ?_⟩
    obtain ⟨S2', g2', gp, h0, np, nw⟩ := own_new (o := .lst xs) S2 n
    refine ⟨lk, G2, ρ2, pn2, _, _, S2', t2, fun v3 d3 G3 H3 ρ3 pn3 S3 g3 dv3 t3 => ?_, L.xd σ⟩
    cases es3 : d3.seq with
    | none => rw [es3] at t3; exact t3.elim
    | some yds =>
      rw [es3] at t3
      obtain ⟨a3, ys, rfl, sq3, ly⟩ := seq_cases S3.sub dv3 es3
      refine ⟨a3, ys, rfl, by rw [← hK]; exact sq3, fun r3 n3 => ?_⟩
      obtain ⟨S4, g4, gp4, h04, np4, nw4⟩ := own_new (o := .lst ys) S3 n3
      have hr : H3 r = some (.lst xs) := g3.bu r _ upd_same np
      have ne : r ≠ r3 := fun z => by rw [z, n3] at hr; cases hr
      have gr : G3 r = none := by
        cases w : G3 r with
        | none => rfl
        | some u =>
          rcases g3.new r (by rw [w]; simp) with k | k | k
          · exact absurd gp k
          · rw [upd_same] at k
            cases k
          · exact absurd k nw
      have nr : ¬ OwnAt σ ρ3 r := fun k => nw (g3.ow r k)
      have dv1' := (dv1.keep g2.same).keep g3.same
      have S5 := S4.setFz dv1' i
      have S6 := S5.setOwn (a := r) (sv := .ol xds) j ⟨r, xs, rfl, by rw [upd_ne ne]; exact hr, gr, h0, np, lx.keep g3.same⟩ (fun m s _ e o k => nr (ownAt_setFz ⟨m, s, e, o, k⟩))
      have S7 := S6.setOwn (a := r3) (sv := .ol yds) l ⟨r3, ys, rfl, upd_same, gp4, h04, np4, ly⟩ (fun m s _ e o k => by
        by_cases hm : j = m
        · subst hm
          by_cases hl : j < ρ3.length
          · have hl2 : j < σ.length := by
              have := S3.len
              omega
            rw [List.getElem?_set_self (by simpa using hl2)] at k
            cases k
            exact ne rfl
          · rw [List.getElem?_eq_none (by simp; omega)] at e
            cases e
        · rw [List.getElem?_set_ne hm] at e k
          exact nw4 (ownAt_setFz ⟨m, s, e, o, k⟩))
      exact ⟨_, _, _, rfl, L.nx _ _ _ _ _ S7 (((g1.same.trans g2.same).trans g3.same)) t3⟩
end
end Td
end
section
set_option maxRecDepth 100000
set_option maxHeartbeats 4000000
/-! The data layer: zip of two own instances. -/
namespace Td
open PySem PySem.Spec PyProof.Rows L2 Lw RZ
abbrev zT (h : Heap) (i1 i2 : Value) : Heap := h.push { cls := .type "tuple", data := .seq #[i1, i2] }
abbrev zO (h : Heap) (i1 i2 : Value) : Heap := (zT h i1 i2).push { cls := .type "tuple", data := .seq #[.none, .none] }
abbrev zZ (h : Heap) (i1 i2 : Value) : Heap := (zO h i1 i2).push { cls := .type "zip", data := .fields #[.none, .bool false, .bool false, .ref h.objs.size, .ref (zT h i1 i2).objs.size] }
section
variable {prog : Program} {w : World} {A : Around} {E : Value → Shared → Prop} {s : Shared}
theorem plain_zip_new : plainId "zip.__new__" = true := by decide +kernel
theorem code_zip_new {v1 v2 : Value} {Q₁ : Value → Shared → Prop}
    (h : wpAny (model prog w) A.in1 (pyIter v1) (fun i1 s1 => wpAny (model prog w) A.in1 (pyIter v2) (fun i2 s2 => Q₁ (.ref (zO s2.heap i1 i2).objs.size) { s2 with heap := zZ s2.heap i1 i2 }) E s1) E s) :
    codeAny (model prog w) A (.call (.builtin "zip.__new__") ⟨[.type "zip", v1, v2], []⟩) (wants Q₁ E) s := by
  refine codeAny_of_tree ?_
  show wpAny _ A.in1 (do checkBuiltinCall "zip.__new__" ⟨[.type "zip", v1, v2], []⟩; again (.builtin "zip.__new__" ⟨[.type "zip", v1, v2], []⟩)) _ _ s
  refine wpAny_bind (wpAny_of_eq (F.newCall_zip_2 v1 v2) (wpAny_pure ⟨plainId_quiet plain_zip_new _, codeAny_builtin F.entry_zip_new ?_⟩))
  rw [Around.under_plainId plain_zip_new _]
  have hsub := sub_zip
  repeat (first | (with_reducible refine wpAny_mono h ?_ (fun e s' x => x)) | wp_step)
  intro i1 s1 h1
  repeat (first | (with_reducible refine wpAny_mono h1 ?_ (fun e s' x => x)) | wp_step)
  intro i2 s2 h2
  repeat wp_step
  exact h2
theorem call_zipP {v1 v2 : Value} {Q : Value → Shared → Prop}
    (h : wpAny (model prog w) A.in1.in1 (pyIter v1) (fun i1 s1 => wpAny (model prog w) A.in1.in1 (pyIter v2) (fun i2 s2 => Q (.ref (zO s2.heap i1 i2).objs.size) { s2 with heap := zZ s2.heap i1 i2 }) E s1) E s) :
    wpAny (model prog w) A (call (.type "zip") [v1, v2]) Q E s := by
  refine callType_codes (Q₁ := fun obj s₁ => s₁.TypeIs obj "zip" ∧ Q obj s₁) F.called_zip (F.typeCall_zip_2 _ _) F.entry_object_init (code_zip_new ?_) fun obj s₁ h₁ => ?_
  · exact wpAny_mono h (fun i1 s1 h1 => wpAny_mono h1 (fun i2 s2 q => ⟨⟨_, Heap.get?_push_size _ rfl, rfl⟩, q⟩) fun _ _ x => x) fun _ _ x => x
  · exact ⟨h₁.1, F.args_object_init_3 obj _ _, object_init_meets F.called_zip.init.lookup F.called_zip.made (by decide) prog w A.in1 _ s₁ ⟨h₁.1, rfl, h₁.2⟩⟩
end
/-- two tuples' items in pairs -/
theorem itD_zipT {K : PySem.W.Frag} {pp : PP} {lk : Lk} {G : Hp} {a b : Addr} {xs ys : List V} {ds es : List D} (ha : G a = some (.tup xs)) (la : DatL K pp G xs ds) (hb : G b = some (.tup ys)) (lb : DatL K pp G ys es) :
    ItD K pp lk G (ItzT K a b) ((ds.zip es).map fun p => .tup [p.1, p.2]) := by
  have nt : ∀ {xs : List V} (kvs : List (Key × V)), HO.tup xs ≠ .dK kvs := by intro _ _ z; cases z
  have len1 := la.length
  have len2 := lb.length
  refine ⟨fun i G2 H2 pn x s _ hi => ?_, fun i G2 H2 pn v H' d x s _ e y => ?_, fun G2 H2 pn x s _ => ?_⟩
  · have q1 := (x.sub _ _ (s _ _ ha)).ex nt
    have q2 := (x.sub _ _ (s _ _ hb)).ex nt
    have hi' : i < ds.length ∧ i < es.length := by
      rw [List.length_map, List.length_zip] at hi
      omega
    exact ⟨xs, ys, xs[i]'(by omega), ys[i]'(by omega), SqT.of q1, SqT.of q2, List.getElem?_eq_getElem _, List.getElem?_eq_getElem _⟩
  · have q1 := (x.sub _ _ (s _ _ ha)).ex nt
    have q2 := (x.sub _ _ (s _ _ hb)).ex nt
    obtain ⟨T, u, w, rfl, hT, rfl, y1, y2⟩ := y
    have e1 := y1 xs (SqT.of q1)
    have e2 := y2 ys (SqT.of q2)
    obtain ⟨d1, g1, m1⟩ := la.get' e1
    obtain ⟨d2, g2, m2⟩ := lb.get' e2
    have z : (ds.zip es)[i]? = some (d1, d2) := List.getElem?_zip_eq_some.mpr ⟨g1, g2⟩
    rw [List.getElem?_map, z] at e
    cases e
    have ex := StR.exG (C := exC K pp G2 H2) x (o := .tup [u, w]) hT
    exact ⟨_, ex, .tup upd_same (.cons ((m1.keep s).keep ex.same) (.cons ((m2.keep s).keep ex.same) .nil))⟩
  · have q1 := (x.sub _ _ (s _ _ ha)).ex nt
    have q2 := (x.sub _ _ (s _ _ hb)).ex nt
    refine ⟨xs, ys, SqT.of q1, SqT.of q2, ?_⟩
    rw [List.length_map, List.length_zip]
    omega
def dZipO (C0 : Addr) (fl : Str) : List D → Option (List D)
  | [.obj C1 fs, .obj C2 gs] => if C1 = C0 ∧ C2 = C0 then (match fs.lookup fl, gs.lookup fl with
    | some (.tup xs), some (.tup ys) => some ((xs.zip ys).map fun p => .tup [p.1, p.2])
    | _, _ => none) else none
  | _ => none
theorem dZipO_some {C0 : Addr} {fl : Str} {ds items : List D} (h : dZipO C0 fl ds = some items) : ∃ fs gs xs ys, ds = [.obj C0 fs, .obj C0 gs] ∧ fs.lookup fl = some (.tup xs) ∧ gs.lookup fl = some (.tup ys) ∧ items = (xs.zip ys).map fun p => .tup [p.1, p.2] := by
  unfold dZipO at h
  split at h
  · rename_i C1 fs C2 gs
    split at h
    · rename_i hc
      obtain ⟨rfl, rfl⟩ := hc
      split at h
      · rename_i xs ys e1 e2
        cases h
        exact ⟨_, _, _, _, rfl, e1, e2, rfl⟩
      · cases h
    · cases h
  · cases h
section
variable {X : Cx} {C : Cfg} {W : WX} {e e2 : Expr} {p pos tpos : Pos} {Ts : TDA} {elts : List Expr} {kk : Nat} {C0 g : Addr} {n : Nat} {fl : Str}
/-- iter(o) within a built-in -/
theorem own_iter {A : Around} {pins : List (Addr × Obj)} {σ : L2.St} {H : Hp} {s : Shared} {a dx t : Addr} {fs : List (Str × V)} {xs : List V} {Q : Value → Shared → Prop} (sb : Sub X n A) (o : Ow X.K C0 "__iter__" g) (F : FIt X.prog X.w X.K X.mg X.base n C0 g fl)
    (I : Inv X pins σ H s) (ea : H a = some (.ins C0 dx fs)) (l1 : fs.lookup fl = some (.ref t)) (sq : SqT X.K H t xs)
    (q : ∀ it s2, s.heap.objs.size ≤ it → H it = none → Inv X pins σ (upd H it (ItT t it)) s2 → s2.heap.IsTupleIter it t 0 → Q (.ref it) s2) : wpAny (model X.prog X.w) A (pyIter (.ref a)) Q X.xe s := by
  obtain ⟨ox, od, J⟩ := inst_at I ea
  obtain ⟨m, hF⟩ := I.fr
  have e0 : Env0 X.prog X.w X.K X.mg X.base A X.stack s H := by
    have e := I.env0
    exact ⟨by rw [sb.fr]; exact e.frames, e.mod, e.bs, e.bsz, e.funs, e.frf, e.hok, e.bare⟩
  refine PySem.W.owit_iter hF I.ok.mod.kin J o.at_ o.fn (wpAny_call (codeAny_mono (F A X.stack s H a dx t fs xs sb.room e0 ea l1 sq) fun r s2 hq => ?_))
  cases r with
  | error er =>
    obtain ⟨_, _, _, _, _, _, _, _, _, _, _, _, z⟩ := hq
    exact z.elim
  | ok fw =>
    cases fw with
    | next => exact hq.elim
    | brk => exact hq.elim
    | cont => exact hq.elim
    | ret u =>
      obtain ⟨v2, H2, I2, r2, it, ev, hz, hn, eH⟩ := I.after hq
      subst ev eH
      cases (show u = Value.ref it from r2)
      have hit : s2.heap.IsTupleIter it t 0 := (I2.hok it _ upd_same).1
      exact wpAny_specialOf hit.typeIs PySem.F.slot_tuple_iterator_next.lookup (q it s2 hz hn I2 hit)
theorem pdi_zipO (hg : Gl X "zip") (hm : X.mg "zip" = none) (hK : C.K = X.K) (o : Ow X.K C0 "__iter__" g) (F : FIt X.prog X.w X.K X.mg X.base n C0 g fl) (hr : Room (n + 2) X.A) (ha : PDA X C W [e, e2] Ts)
    (hs : starEach [e, e2] X.env = (false, eval e X.env) :: starEach [e2] X.env := by rfl) (hpl : (backTo pos (starEach [e2] X.env)).any (·.1) = false := by rfl) :
    PDI X C W (.Tuple elts kk tpos) (.Call (.Name "zip" p) [e, e2] [] pos) (dItA (dZipO C0 fl) Ts) := by
  refine ⟨fun pins s σ H R I h => ?_⟩
  obtain ⟨lk, G, ρ, pn, Qd, Qx, S, t, k, xl⟩ := h
  refine Call_ (ld_blt I hg hm PyProof.Rows.boot_zip (PyProof.Rows.callWith_type1 (thn (ha.run pos pins s σ H (fun vs H1 => ∃ (G1 : Hp) (ρ1 : SL) (pn1 : Pn) (fs gs : List (Str × D)) (xs ys : List D), StR C lk σ ρ1 pn1 G1 H1 ∧ Gr C.pp σ ρ G H ρ1 G1 H1 ∧ DatL C.K C.pp G1 vs [.obj C0 fs, .obj C0 gs] ∧ fs.lookup fl = some (.tup xs) ∧ gs.lookup fl = some (.tup ys) ∧ Qd ((xs.zip ys).map fun p => .tup [p.1, p.2]) ρ1 pn1) I
    ⟨lk, G, ρ, pn, _, Qx, S, t, fun vs ds G1 H1 ρ1 pn1 S1 g1 l t1 => ?_, xl⟩) fun us s1 ⟨vs, H1, I1, r1, G1, ρ1, pn1, fs, gs, xs, ys, S1, g1, l, ef, eg, t1⟩ => ?_) hs hpl))
  · cases z : dZipO C0 fl ds with
    | none => rw [z] at t1; exact t1.elim
    | some items =>
      rw [z] at t1
      obtain ⟨fs, gs, xs, ys, rfl, ef, eg, rfl⟩ := dZipO_some z
      exact ⟨G1, ρ1, pn1, fs, gs, xs, ys, S1, g1, l, ef, eg, t1⟩
  · obtain ⟨v1, v2, rfl, dv1, dv2⟩ := l.two
    cases dv1 with
    | obj a1 a2 a3 a4 =>
      rename_i a dx vs
      cases dv2 with
      | obj b1 b2 b3 b4 =>
        rename_i b dy vs2
        obtain ⟨u1, u2, rfl, ru1, ru2⟩ : ∃ u1 u2, us = [u1, u2] ∧ RelV (.ref a) u1 ∧ RelV (.ref b) u2 := by
          cases r1 with
          | cons p q =>
            cases q with
            | cons p' q' =>
              cases q'
              exact ⟨_, _, rfl, p, p'⟩
        cases (show u1 = Value.ref a from ru1)
        cases (show u2 = Value.ref b from ru2)
        have nk : ∀ {C dx : Addr} {fs : List (Str × V)} (kvs : List (Key × V)), HO.ins C dx fs ≠ .dK kvs := by intro _ _ _ _ z; cases z
        have nt : ∀ {xs : List V} (kvs : List (Key × V)), HO.tup xs ≠ .dK kvs := by intro _ _ z; cases z
        have ea := (S1.sub _ _ a1).ex nk
        have eb := (S1.sub _ _ b1).ex nk
        obtain ⟨tv, l1, l2⟩ := look_of a3 a4 ef
        obtain ⟨uv, m1, m2⟩ := look_of b3 b4 eg
        cases l2 with
        | tup q1 q2 =>
          rename_i ta xvs
          cases m2 with
          | tup p1 p2 =>
            rename_i tb yvs
            have et := (S1.sub _ _ q1).ex nt
            have eu := (S1.sub _ _ p1).ex nt
            have sb : Sub X n X.A.in1.in1 := Sub.in1 (Sub.in1 (⟨hr, rfl⟩ : Sub X (n + 2) X.A))
            refine call_zipP (own_iter sb o F I1 ea l1 (SqT.of et) fun it1 s2 hz1 hn1 I2 hi1 => ?_)
            have n1 : ∀ {c : Addr} {ob : HO}, H1 c = some ob → c ≠ it1 := fun q z => by rw [z, hn1] at q; cases q
            have up1 : ∀ {c : Addr} {ob ob2 : HO}, H1 c = some ob → upd H1 it1 ob2 c = some ob := fun q => by rw [upd_ne (n1 q)]; exact q
            refine own_iter sb o F I2 (up1 eb) m1 (SqT.of (up1 eu)) fun it2 s3 hz2 hn2 I3 hi2 => ?_
            have ne12 : it1 ≠ it2 := fun z => by rw [← z, upd_same] at hn2; cases hn2
            have hn2' : H1 it2 = none := by rw [upd_ne ne12.symm] at hn2; exact hn2
            have hi1' : s3.heap.IsTupleIter it1 ta 0 := (I3.hok it1 (ItT ta it1) (by rw [upd_ne ne12]; exact upd_same)).1
            have d2 : ItX.dropH (upd (upd H1 it1 (ItT ta it1)) it2 (ItT tb it2)) it2 = upd H1 it1 (ItT ta it1) := ItX.dropH_upd hn2
            have J2 := ItX.inv_drop I3 (show upd (upd H1 it1 (ItT ta it1)) it2 (ItT tb it2) it2 = some (.ext fun h => h.IsTupleIter it2 tb 0) from upd_same)
            have sz2 : X.s_0.heap.objs.size ≤ it2 := Nat.le_trans I2.sz hz2
            have f2 := ItX.inv_fp I3 (show upd (upd H1 it1 (ItT ta it1)) it2 (ItT tb it2) it2 = some (ItT tb it2) from upd_same) sz2
            rw [d2] at J2 f2
            have d1 : ItX.dropH (upd H1 it1 (ItT ta it1)) it1 = H1 := ItX.dropH_upd hn1
            have J1 := ItX.inv_drop J2 (show upd H1 it1 (ItT ta it1) it1 = some (.ext fun h => h.IsTupleIter it1 ta 0) from upd_same)
            have f1 := ItX.inv_fp J2 (show upd H1 it1 (ItT ta it1) it1 = some (ItT ta it1) from upd_same) (Nat.le_trans I1.sz hz1)
            rw [d1] at J1 f1
            have f2' : FpOk X pins H1 it2 := ⟨hn2', f2.2⟩
            have lt1 : it1 < s3.heap.objs.size := by obtain ⟨_, e, _⟩ := hi1'; exact Heap.lt_size e
            have lt2 : it2 < s3.heap.objs.size := by obtain ⟨_, e, _⟩ := hi2; exact Heap.lt_size e
            obtain ⟨_, _, ht1, _⟩ := J1.tuple (SqT.of et)
            obtain ⟨_, _, ht2, _⟩ := J1.tuple (SqT.of eu)
            have la : @LT.lt Nat _ ta s3.heap.objs.size := by obtain ⟨_, e, _⟩ := ht1; exact Heap.lt_size e
            have lb : @LT.lt Nat _ tb s3.heap.objs.size := by obtain ⟨_, e, _⟩ := ht2; exact Heap.lt_size e
            have zs1 : (zT s3.heap (.ref it1) (.ref it2)).objs.size = s3.heap.objs.size + 1 := Heap.size_push ..
            have zs2 : (zO s3.heap (.ref it1) (.ref it2)).objs.size = s3.heap.objs.size + 2 := by rw [Heap.size_push, zs1]
            have g5 : (zZ s3.heap (.ref it1) (.ref it2)).get? (zO s3.heap (.ref it1) (.ref it2)).objs.size = some _ := Heap.get?_push_size _ rfl
            have g4 : (zZ s3.heap (.ref it1) (.ref it2)).get? (zT s3.heap (.ref it1) (.ref it2)).objs.size = some _ := Heap.get?_push_of_some _ (Heap.get?_push_size _ rfl)
            have g3 : (zZ s3.heap (.ref it1) (.ref it2)).get? s3.heap.objs.size = some _ := Heap.get?_push_of_some _ (Heap.get?_push_of_some _ (Heap.get?_push_size _ rfl))
            have up : ∀ c ob, s3.heap.get? c = some ob → (zZ s3.heap (.ref it1) (.ref it2)).get? c = some ob := fun c ob q => Heap.get?_push_of_some _ (Heap.get?_push_of_some _ (Heap.get?_push_of_some _ q))
            have I4 : Inv X pins σ H1 { s3 with heap := zZ s3.heap (.ref it1) (.ref it2) } := J1.kept (t' := s3.toks) up
            rw [zs2, zs1] at g5
            rw [zs1] at g4
            rw [zs2]
            refine wpAny_pyIter_zip g5 ?_
            have hiA : (zZ s3.heap (.ref it1) (.ref it2)).IsTupleIter it1 ta 0 := hi1'.at fun ob q => up _ _ q
            have hiB : (zZ s3.heap (.ref it1) (.ref it2)).IsTupleIter it2 tb 0 := hi2.at fun ob q => up _ _ q
            have ap : ZipApart (s3.heap.objs.size + 2) s3.heap.objs.size (s3.heap.objs.size + 1) it1 it2 ta tb := by
              have w1 := n1 et
              have w2 := n1 eu
              have w3 : ta ≠ it2 := fun z => by rw [← z, et] at hn2'; cases hn2'
              have w4 : tb ≠ it2 := fun z => by rw [← z, eu] at hn2'; cases hn2'
              have q1 : ∀ {a b : Nat}, a < b → a ≠ b := fun h => Nat.ne_of_lt h
              exact ⟨q1 (by omega), q1 (by omega), q1 (by omega), q1 (by omega), q1 (by omega), (q1 (by omega)).symm, (q1 (by omega)).symm, (q1 (by omega)).symm, (q1 (by omega)).symm, ne12, q1 (by omega), q1 (by omega), w1, w3, q1 (by omega), q1 (by omega), w2, w4⟩
            refine ⟨s3.heap.objs.size + 2, [s3.heap.objs.size + 2, s3.heap.objs.size, s3.heap.objs.size + 1, it1, it2], _, ItzT X.K ta tb, H1, rfl, I4, turn_zipT ap, ⟨g5, g3, ⟨_, _, g4⟩, hiA, hiB⟩, fun c hc => ?_, ?_⟩
            · have hc' : c = s3.heap.objs.size + 2 ∨ c = s3.heap.objs.size ∨ c = s3.heap.objs.size + 1 ∨ c = it1 ∨ c = it2 := by simpa using hc
              rcases hc' with z | z | z | z | z
              · rw [z]; exact J1.fpOk (by omega) (J1.hok.fresh (by omega))
              · rw [z]; exact J1.fpOk (by omega) (J1.hok.fresh (by omega))
              · rw [z]; exact J1.fpOk (by omega) (J1.hok.fresh (by omega))
              · rw [z]; exact f1
              · rw [z]; exact f2'
            · rw [← hK]
              exact k _ _ G1 H1 ρ1 pn1 S1 g1 (itD_zipT q1 q2 p1 p2) t1
end
end Td
end
section
set_option maxRecDepth 100000
set_option maxHeartbeats 4000000
/-! The data layer: the pen's defs by data. -/
namespace Td
open PySem PySem.Spec PyProof.Rows L2 Lw
section
variable {P : Program} {w : World} {K : PySem.W.Frag} {mg : Str → Option Value} {base : Heap} {k : Nat} {f : Addr} {fd : FuncData} {ps : List Str} {sp : Sp}
/-- a def that lets nothing out, where something may be let out -/
theorem fnOk_cx {CX : CXT} (F : FnOk P w K mg base CX0 k f fd ps sp) : FnOk P w K mg base CX k f fd ps sp :=
  ⟨F.len, fun A outer s H args us vs Q E hr e0 b r h => codeAny_mono (F.run A outer s H args us vs Q E hr e0 b r h) fun r s' hq => by
    cases r with
    | error e => exact False.elim hq
    | ok fl => cases fl <;> exact hq⟩
theorem DatL.mem {pp : PP} {G : Hp} : ∀ {vs : List V} {ds : List D} {v : V}, DatL K pp G vs ds → v ∈ vs → ∃ d, d ∈ ds ∧ Dat K pp G v d
  | _, _, _, .nil, h => by cases h
  | _, _, _, .cons a l, h => by
    rcases List.mem_cons.mp h with rfl | h
    · exact ⟨_, List.mem_cons_self, a⟩
    · obtain ⟨d, m, q⟩ := l.mem h
      exact ⟨d, List.mem_cons_of_mem _ m, q⟩
/-- only the pen has gone on -/
theorem ex_pen {pp : PP} {p : Addr} {pn pn' : Pn} {G H H' : Hp} (x : Ex K pp G H pn G H) (hp : pp.p = some p) (b : But p H H') (D : PenAt H' p pp.c pn'.ns pn'.i pn'.r) : Ex K pp G H pn' G H' := by
  have gp : G p = none := (x.pen p hp).2.1
  have ne : ∀ {a : Addr} {o : HO}, G a = some o → a ≠ p := fun e z => by rw [z, gp] at e; cases e
  have mu : (exC K pp G H).mu = [p] := by
    show pp.p.toList = [p]
    rw [hp]
    rfl
  refine ⟨fun a o e => (x.sub a o e).map fun u q => b a u (ne e) q, fun _ _ h => h, fun a h => .inl h, fun a o e m => ?_, fun a h => ?_, (fun p hp => by cases hp), fun a ha => ?_, fun q hq => ?_, rfl, (fun i sv h => by simp at h), fun i j s t a h => by simp at h⟩
  · have na : a ≠ p := fun z => m (by rw [mu, z]; exact List.mem_singleton_self _)
    have h := b a o na e
    exact ⟨.inl h, fun _ => h⟩
  · by_cases z : a = p
    · rw [z, D.ob]
      simp
    · cases q : (exC K pp G H).H0 a with
      | none => exact absurd q h
      | some u =>
        rw [b a u z q]
        simp
  · obtain ⟨q1, q2, q3⟩ := x.muG a ha
    have z : a = p := by rw [mu] at ha; exact List.mem_singleton.mp ha
    refine ⟨q1, ?_, q3⟩
    rw [z, D.ob]
    simp
  · have z : q = p := Option.some.inj ((show pp.p = some q from hq).symm.trans hp)
    subst z
    exact ⟨(x.pen q hp).1, gp, D⟩
/-- one of some things -/
def sPickD : SpD := fun ds pn Q _ => ∃ xs, ds = [.pen, .lst xs] ∧ pn.i ≤ 1000000 ∧ xs ≠ [] ∧ xs.length < 1000 ∧ ∀ x ∈ xs, ∀ (i r : Int), pn.i ≤ i → i ≤ pn.i + 1 → Q x ⟨pn.ns, i, r⟩
theorem pick_D (F : FnOk P w K mg base CX0 k f fd ps Lw.spPick) : FnOk P w K mg base (L2.CX P w) k f fd ps (spD K sPickD) :=
  (fnOk_cx F).imp fun vs H Q E h => by
    obtain ⟨pp, G, pn, ds, Qd, Qx, x, l, ⟨xs, rfl, hi, hne, hl, kk⟩, k1, k2⟩ := h
    obtain ⟨v, u, rfl, dv, du⟩ := l.two
    cases dv with
    | pen hp =>
      rename_i p
      cases du with
      | lst ha la =>
        rename_i a us
        obtain ⟨_, gp, D⟩ := x.pen p hp
        refine ⟨p, pp.c, a, pn.ns, pn.i, pn.r, us, rfl, D, hi, ex0_lst x ha, fun z => ?_, fun z => ?_, by rw [la.length]; exact hl, fun y i' r' H' hy i1 i2 D' B => ?_⟩
        · rw [z, gp] at ha
          cases ha
        · subst z
          cases la
          exact hne rfl
        · obtain ⟨d, hd, dy⟩ := la.mem hy
          exact k1 y d G H' ⟨pn.ns, i', r'⟩ (ex_pen x hp B D') dy (kk d hd i' r' i1 i2)
end
end Td
end
section
set_option maxRecDepth 100000
set_option maxHeartbeats 4000000
/-! The data layer: list(zip(t, u)) of two tuples. -/
namespace Td
open PySem PySem.Spec PyProof.Rows L2 Lw RZ
section
variable {prog : Program} {w : World} {A : Around} {E : Value → Shared → Prop} {s : Shared} {z TI TO T i1 i2 l1 l2 : Addr} {f : Bool} {oT : Obj} {k1 k2 : Nat} {xs ys : Array Value}
/-- a zip over tuples whose last pair is still held: the next pair is a new tuple -/
theorem zipH_item {x y : Value} {Q : Value → Shared → Prop} (D : ZipApart z TI TO i1 i2 l1 l2) (hz : IsZipHeld s.heap z TI TO T f) (hT : s.heap.get? T = some oT) (hTI : IsPair s.heap TI (.ref i1) (.ref i2))
    (h1 : s.heap.IsTupleIter i1 l1 k1) (h2 : s.heap.IsTupleIter i2 l2 k2) (hl1 : s.heap.IsTuple l1 xs) (hl2 : s.heap.IsTuple l2 ys) (hx : xs[k1]? = some x) (hy : ys[k2]? = some y)
    (hQ : ∀ h', IsZipHeld h' z TI TO T true → h'.IsTupleIter i1 l1 (k1 + 1) → h'.IsTupleIter i2 l2 (k2 + 1) → IsPair h' s.heap.objs.size x y → h'.objs.size = s.heap.objs.size + 1 → (∀ c o, c ≠ z → c ≠ i1 → c ≠ i2 → s.heap.get? c = some o → h'.get? c = some o) → Q (.ref s.heap.objs.size) { s with heap := h' }) :
    wpAny (model prog w) A (Builtin.«zip.__next__» ⟨[.ref z], []⟩) (fun fin s' => ∃ v, fin = .done (.ret v) ∧ Q v s') E s := by
  show wpAny _ _ (field (.ref z) 2 >>= _) _ _ _
  refine wpAny_bind (wpAny_field (x := .bool false) hz rfl rfl ?_)
  show wpAny _ _ (field (.ref z) 3 >>= _) _ _ _
  refine wpAny_bind (wpAny_field (x := .ref TI) hz rfl rfl (wpAny_bind (wpAny_seqItems hTI rfl ?_)))
  show wpAny _ _ (Builtin.SmallTypes.ownedTupleIsFree (.ref z) >>= _) _ _ _
  refine wpAny_bind (wpAny_tupleHeld_zip hz hT fun hA zA sA => ?_)
  simp only [Bool.false_eq_true, if_false]
  refine wpAny_bind ?_
  rw [← Array.forIn_toList]
  simp only [List.forIn_cons, List.forIn_nil]
  refine wpAny_bind (wpAny_bind (wpAny_holding ?_))
  show wpAny _ _ (Builtin.SmallTypes.nextOf (.ref i1) >>= _) _ _ _
  have h1A := h1.extBut sA.extBut D.i1z
  have h2A := h2.extBut sA.extBut D.i2z
  refine wpAny_bind (nextOf_tuple_item (s := { s with heap := hA }) h1A (hl1.extBut sA.extBut D.l1z) hx fun hB iB sB => wpAny_pure (wpAny_pure ?_))
  refine wpAny_bind (wpAny_bind (wpAny_holding ?_))
  show wpAny _ _ (Builtin.SmallTypes.nextOf (.ref i2) >>= _) _ _ _
  have h2B := h2A.extBut sB.extBut D.i12.symm
  refine wpAny_bind (nextOf_tuple_item (s := { s with heap := hB }) h2B ((hl2.extBut sA.extBut D.l2z).extBut sB.extBut D.l2i1) hy fun hC iC sC => wpAny_pure (wpAny_pure (wpAny_pure ?_)))
  show wpAny _ _ (newTuple [x, y] >>= _) _ _ _
  refine wpAny_bind (wpAny_newTuple (wpAny_pure ⟨_, rfl, ?_⟩))
  show Q (.ref hC.objs.size) _
  have esz : hC.objs.size = s.heap.objs.size := by rw [sC.1, sB.1, sA.1]
  have kp : ∀ c o, c ≠ z → c ≠ i1 → c ≠ i2 → s.heap.get? c = some o → hC.get? c = some o := fun c o n1 n2 n3 e => sC.extBut _ _ n3 (sB.extBut _ _ n2 (sA.extBut _ _ n1 e))
  have zC : IsZipHeld hC z TI TO T true := sC.extBut _ _ D.i2z.symm (sB.extBut _ _ D.i1z.symm zA)
  have i1C := iB.extBut sC.extBut D.i12
  have pr : IsPair (hC.push { cls := .type "tuple", data := .seq #[x, y] }) hC.objs.size x y := Heap.get?_push_size _ rfl
  have psz : (hC.push { cls := .type "tuple", data := .seq #[x, y] }).objs.size = hC.objs.size + 1 := Heap.size_push ..
  rw [esz] at pr psz ⊢
  exact hQ _ (Heap.get?_push_of_some _ zC) (i1C.at fun o e => Heap.get?_push_of_some _ e) (iC.at fun o e => Heap.get?_push_of_some _ e) pr psz fun c o n1 n2 n3 e => Heap.get?_push_of_some _ (kp c o n1 n2 n3 e)
theorem zipH_end {Q : Fin → Shared → Prop} (hh : A.handled = none) (D : ZipApart z TI TO i1 i2 l1 l2) (hz : IsZipHeld s.heap z TI TO T f) (hT : s.heap.get? T = some oT) (hTI : IsPair s.heap TI (.ref i1) (.ref i2))
    (h1 : s.heap.IsTupleIter i1 l1 k1) (h2 : s.heap.IsTupleIter i2 l2 k2) (hl1 : s.heap.IsTuple l1 xs) (hl2 : s.heap.IsTuple l2 ys) (hend : xs[k1]? = none ∨ ys[k2]? = none)
    (hE : ∀ h' e, (∀ c o, c ≠ z → c ≠ i1 → c ≠ i2 → s.heap.get? c = some o → h'.get? c = some o) → (∃ o, h'.get? e = some o ∧ o.cls = .type "StopIteration") → E (.ref e) { s with heap := h' }) :
    wpAny (model prog w) A (Builtin.«zip.__next__» ⟨[.ref z], []⟩) Q E s := by
  show wpAny _ _ (field (.ref z) 2 >>= _) _ _ _
  refine wpAny_bind (wpAny_field (x := .bool false) hz rfl rfl ?_)
  show wpAny _ _ (field (.ref z) 3 >>= _) _ _ _
  refine wpAny_bind (wpAny_field (x := .ref TI) hz rfl rfl (wpAny_bind (wpAny_seqItems hTI rfl ?_)))
  show wpAny _ _ (Builtin.SmallTypes.ownedTupleIsFree (.ref z) >>= _) _ _ _
  refine wpAny_bind (wpAny_tupleHeld_zip hz hT fun hA zA sA => ?_)
  simp only [Bool.false_eq_true, if_false]
  refine wpAny_bind ?_
  rw [← Array.forIn_toList]
  simp only [List.forIn_cons, List.forIn_nil]
  refine wpAny_bind (wpAny_bind (wpAny_holding ?_))
  show wpAny _ _ (Builtin.SmallTypes.nextOf (.ref i1) >>= _) _ _ _
  have h1A := h1.extBut sA.extBut D.i1z
  have h2A := h2.extBut sA.extBut D.i2z
  cases hx : xs[k1]? with
  | none => exact wpAny_bind (nextOf_tuple_end (s := { s with heap := hA }) hh h1A (hl1.extBut sA.extBut D.l1z) hx fun hB e sB he => hE hB e (fun c o n1 n2 _ q => sB _ _ n2 (sA.extBut _ _ n1 q)) he)
  | some x =>
    have hy : ys[k2]? = none := hend.resolve_left (by rw [hx]; intro q; cases q)
    refine wpAny_bind (nextOf_tuple_item (s := { s with heap := hA }) h1A (hl1.extBut sA.extBut D.l1z) hx fun hB iB sB => wpAny_pure (wpAny_pure ?_))
    refine wpAny_bind (wpAny_bind (wpAny_holding ?_))
    show wpAny _ _ (Builtin.SmallTypes.nextOf (.ref i2) >>= _) _ _ _
    have h2B := h2A.extBut sB.extBut D.i12.symm
    exact wpAny_bind (nextOf_tuple_end (s := { s with heap := hB }) hh h2B ((hl2.extBut sA.extBut D.l2z).extBut sB.extBut D.l2i1) hy fun hC e sC he => hE hC e (fun c o n1 n2 n3 q => sC _ _ n3 (sB.extBut _ _ n2 (sA.extBut _ _ n1 q))) he)
/-- how the zip stands ahead of turn i, the list at q takes its pairs -/
def ZSt (h : Heap) (z TI TO i1 i2 l1 l2 q : Addr) (i : Nat) : Prop := IsPair h TI (.ref i1) (.ref i2) ∧ h.IsTupleIter i1 l1 i ∧ h.IsTupleIter i2 l2 i ∧
  ((IsZip h z TI TO .none ∧ ∃ a b, IsPair h TO a b) ∨ ∃ (T : Addr) (f : Bool) (oT : Obj), IsZipHeld h z TI TO T f ∧ h.get? T = some oT ∧ T ≠ z ∧ T ≠ i1 ∧ T ≠ i2 ∧ T ≠ q ∧ T ≠ TO)
theorem zst_keep {h h' : Heap} {q : Addr} {i : Nat} (S : ZSt h z TI TO i1 i2 l1 l2 q i) (k : ∀ c o, c ≠ q → h.get? c = some o → h'.get? c = some o) (n1 : TI ≠ q) (n2 : i1 ≠ q) (n3 : i2 ≠ q) (n4 : z ≠ q) (n5 : TO ≠ q) : ZSt h' z TI TO i1 i2 l1 l2 q i := by
  obtain ⟨a, b, c, d⟩ := S
  refine ⟨k _ _ n1 a, b.at fun o e => k _ _ n2 e, c.at fun o e => k _ _ n3 e, ?_⟩
  rcases d with ⟨d, x, y, e⟩ | ⟨T, f, oT, d, e, m1, m2, m3, m4, m5⟩
  · exact .inl ⟨k _ _ n4 d, x, y, k _ _ n5 e⟩
  · exact .inr ⟨T, f, oT, k _ _ n4 d, k _ _ m4 e, m1, m2, m3, m4, m5⟩
theorem zst_alive {h : Heap} {q : Addr} {i : Nat} (S : ZSt h z TI TO i1 i2 l1 l2 q i) : z < h.objs.size ∧ TI < h.objs.size ∧ i1 < h.objs.size ∧ i2 < h.objs.size := by
  obtain ⟨a, ⟨_, b, _⟩, ⟨_, c, _⟩, d⟩ := S
  refine ⟨?_, Heap.lt_size a, Heap.lt_size b, Heap.lt_size c⟩
  rcases d with ⟨d, _⟩ | ⟨T, f, oT, d, _⟩ <;> exact Heap.lt_size d
theorem zst_item {q : Addr} {i : Nat} {x y : Value} {Q : Option Value → Shared → Prop} (D : ZipApart z TI TO i1 i2 l1 l2) (S : ZSt s.heap z TI TO i1 i2 l1 l2 q i) (hq : q < s.heap.objs.size) (hTO : TO < s.heap.objs.size)
    (hl1 : s.heap.IsTuple l1 xs) (hl2 : s.heap.IsTuple l2 ys) (hx : xs[i]? = some x) (hy : ys[i]? = some y)
    (hQ : ∀ h', ZSt h' z TI TO i1 i2 l1 l2 q (i + 1) → IsPair h' s.heap.objs.size x y → h'.objs.size = s.heap.objs.size + 1 → (∀ c o, c ∉ [z, TI, TO, i1, i2] → s.heap.get? c = some o → h'.get? c = some o) → Q (some (.ref s.heap.objs.size)) { s with heap := h' }) :
    wpAny (model prog w) A (pyNext (.ref z)) Q E s := by
  obtain ⟨lz, _, li1, li2⟩ := zst_alive S
  have nm : ∀ {c : Addr}, c ∉ [z, TI, TO, i1, i2] → c ≠ z ∧ c ≠ TO ∧ c ≠ i1 ∧ c ≠ i2 := fun h => by
    simp only [List.mem_cons, List.not_mem_nil, or_false, not_or] at h
    exact ⟨h.1, h.2.2.1, h.2.2.2.1, h.2.2.2.2⟩
  obtain ⟨a, b, c, d⟩ := S
  rcases d with ⟨d, x0, y0, e⟩ | ⟨T, f, oT, d, e, m1, m2, m3, m4, m5⟩
  · refine pyNext_zipT_item D d a e b c hl1 hl2 hx hy fun h' z' TO' j1 j2 pr sz kp => hQ h' ⟨kp _ _ D.TIz D.TITO D.TIi1 D.TIi2 a, j1, j2, .inr ⟨_, false, _, z', pr, ?_, ?_, ?_, ?_, ?_⟩⟩ pr sz fun c o hc q => let ⟨n1, n2, n3, n4⟩ := nm hc; kp c o n1 n2 n3 n4 q
    all_goals first | exact Nat.ne_of_gt lz | exact Nat.ne_of_gt li1 | exact Nat.ne_of_gt li2 | exact Nat.ne_of_gt hq | exact Nat.ne_of_gt hTO
  · have hTy : s.TypeIs (.ref z) "zip" := ⟨_, d, rfl⟩
    unfold pyNext
    refine wpAny_bind (wpAny_attempt (wpAny_callSpecial?_slot (name := Str.ofString "__next__") hTy F.slot_zip_next (wpAny_call_entry F.slot_zip_next hTy F.entry_zip_next
      (zipH_item D d e a b c hl1 hl2 hx hy fun h' z' j1 j2 pr sz kp => wpAny_pure (hQ h' ⟨kp _ _ D.TIz D.TIi1 D.TIi2 a, j1, j2, .inr ⟨T, true, oT, z', kp _ _ m1 m2 m3 e, m1, m2, m3, m4, m5⟩⟩ pr sz fun c o hc q => let ⟨n1, n2, n3, n4⟩ := nm hc; kp c o n1 n3 n4 q)) (F.args_zip_next_1 _))))
theorem zst_end {q : Addr} {i : Nat} {Q : Option Value → Shared → Prop} (hh : A.handled = none) (D : ZipApart z TI TO i1 i2 l1 l2) (S : ZSt s.heap z TI TO i1 i2 l1 l2 q i)
    (hl1 : s.heap.IsTuple l1 xs) (hl2 : s.heap.IsTuple l2 ys) (hend : xs[i]? = none ∨ ys[i]? = none)
    (hQ : ∀ h', (∀ c o, c ∉ [z, TI, TO, i1, i2] → s.heap.get? c = some o → h'.get? c = some o) → Q none { s with heap := h' }) : wpAny (model prog w) A (pyNext (.ref z)) Q E s := by
  have nm : ∀ {c : Addr}, c ∉ [z, TI, TO, i1, i2] → c ≠ z ∧ c ≠ TO ∧ c ≠ i1 ∧ c ≠ i2 := fun h => by
    simp only [List.mem_cons, List.not_mem_nil, or_false, not_or] at h
    exact ⟨h.1, h.2.2.1, h.2.2.2.1, h.2.2.2.2⟩
  obtain ⟨a, b, c, d⟩ := S
  rcases d with ⟨d, x0, y0, e⟩ | ⟨T, f, oT, d, e, m1, m2, m3, m4, m5⟩
  · exact pyNext_zipT_end hh D d a e b c hl1 hl2 hend fun h' kp => hQ h' fun c o hc q => let ⟨n1, n2, n3, n4⟩ := nm hc; kp c o n1 n2 n3 n4 q
  · have hTy : s.TypeIs (.ref z) "zip" := ⟨_, d, rfl⟩
    unfold pyNext
    refine wpAny_bind (wpAny_attempt (wpAny_callSpecial?_slot (name := Str.ofString "__next__") hTy F.slot_zip_next (wpAny_call_entry F.slot_zip_next hTy F.entry_zip_next
      (zipH_end hh D d e a b c hl1 hl2 hend fun h' e kp he => ?_) (F.args_zip_next_1 _))))
    obtain ⟨o, ho, hc⟩ := he
    refine wpAny_bind (wpAny_isInstance (T := "StopIteration") (b := true) ⟨o, ho, hc⟩ isSubtype_stop ?_)
    exact wpAny_pure (hQ _ fun c o hc q => let ⟨n1, n2, n3, n4⟩ := nm hc; kp c o n1 n3 n4 q)
end
end Td
end
section
set_option maxRecDepth 100000
set_option maxHeartbeats 4000000
/-! The data layer: list(zip(t, u)): the walk. -/
namespace Td
open PySem PySem.Spec PyProof.Rows L2 Lw RZ
def dListZip : List D → (D → Prop) → Prop := fun ds Q => match dZipT ds with
  | some items => items.length < sizeLine ∧ Q (.lst items)
  | none => False
theorem dZipT_some {ds items : List D} (h : dZipT ds = some items) : ∃ xs ys, ds = [.tup xs, .tup ys] ∧ items = (xs.zip ys).map fun p => .tup [p.1, p.2] := by
  unfold dZipT at h
  split at h
  · cases h
    exact ⟨_, _, rfl, rfl⟩
  · cases h
section
variable {X : Cx} {C : Cfg} {W : WX} {pins : List (Addr × Obj)} {σ : L2.St} {lk : Lk} {ρ ρ1 : SL} {pn1 : Pn} {G H : Hp} {z TI TO i1 i2 l1 l2 q : Addr} {A1 : Around} {Rs : Result → Shared → Prop} {xv yv : List V} {xs ys : List D}
/-- what holds ahead of turn i -/
structure LZ (X : Cx) (C : Cfg) (pins : List (Addr × Obj)) (σ : L2.St) (lk : Lk) (ρ ρ1 : SL) (pn1 : Pn) (G H : Hp) (z TI TO i1 i2 l1 l2 q : Addr) (items : List D) (acc : List V) (G' H' : Hp) (s : Shared) : Prop where
  inv : Inv X pins σ H' s
  st : StR C lk σ ρ1 pn1 G' H'
  gr : Gr C.pp σ ρ G H ρ1 G' H'
  hq : H' q = some (.lst acc)
  gq : G' q = none
  dat : DatL C.K C.pp G' acc (items.take acc.length)
  le : acc.length ≤ items.length
  zs : ZSt s.heap z TI TO i1 i2 l1 l2 q acc.length
  fp : ∀ c ∈ [z, TI, TO, i1, i2], FpOk X pins H' c
  lto : TO < s.heap.objs.size
theorem zip_loop (hh : A1.handled = none) (D : ZipApart z TI TO i1 i2 l1 l2) (nH : H q = none) (n0 : C.H0 q = none) (nw : ¬ OwnAt σ ρ1 q) (np : C.pp.p ≠ none → q ≠ C.pp.c) (hz : ((xs.zip ys).map fun p => Td.D.tup [p.1, p.2]).length < sizeLine)
    (hdone : ∀ acc G' H' s, LZ X C pins σ lk ρ ρ1 pn1 G H z TI TO i1 i2 l1 l2 q ((xs.zip ys).map fun p => .tup [p.1, p.2]) acc G' H' s → acc.length = ((xs.zip ys).map fun p => Td.D.tup [p.1, p.2]).length → ∀ h', (∀ c o, c ∉ [z, TI, TO, i1, i2] → s.heap.get? c = some o → h'.get? c = some o) → Rs (.ok (.ret .none)) { s with heap := h' }) :
    ∀ (k : Nat) (acc : List V) (G' H' : Hp) (s : Shared), G' l1 = some (.tup xv) → DatL C.K C.pp G' xv xs → G' l2 = some (.tup yv) → DatL C.K C.pp G' yv ys → LZ X C pins σ lk ρ ρ1 pn1 G H z TI TO i1 i2 l1 l2 q ((xs.zip ys).map fun p => .tup [p.1, p.2]) acc G' H' s → ((xs.zip ys).map fun p => Td.D.tup [p.1, p.2]).length - acc.length = k →
      codeAny (model X.prog X.w) A1 (.builtin "list.extend.loop" ⟨[.ref q, .ref z, .none], []⟩) Rs s := by
  intro k
  have nt : ∀ {xs : List V} (kvs : List (Key × V)), HO.tup xs ≠ .dK kvs := by intro _ _ z; cases z
  induction k with
  | zero =>
    intro acc G' H' s g1 d1 g2 d2 L hk
    have e : acc.length = ((xs.zip ys).map fun p => Td.D.tup [p.1, p.2]).length := by have := L.le; omega
    refine codeAny_builtin PySem.F.entry_extend_loop ?_
    rw [Around.under_plainId PySem.F.plain_extend_loop _]
    show wpAny _ A1.in1 (pyNext (.ref z) >>= _) _ _ s
    obtain ⟨u1, r1, p1, _⟩ := L.inv.tuple (SqT.of ((L.st.sub _ _ g1).ex nt))
    obtain ⟨u2, r2, p2, _⟩ := L.inv.tuple (SqT.of ((L.st.sub _ _ g2).ex nt))
    have a1 := r1.length
    have a2 := r2.length
    have b1 := d1.length
    have b2 := d2.length
    have e2 : acc.length = min xs.length ys.length := by rw [e, List.length_map, List.length_zip]
    refine wpAny_bind (zst_end hh D L.zs p1 p2 ?_ fun h' kp => wpAny_pure (hdone acc G' H' s L e h' kp))
    by_cases hxy : xs.length ≤ ys.length
    · exact .inl (by simp; omega)
    · exact .inr (by simp; omega)
  | succ k ih =>
    intro acc G' H' s g1 d1 g2 d2 L hk
    have e2 : ((xs.zip ys).map fun p => Td.D.tup [p.1, p.2]).length = min xs.length ys.length := by rw [List.length_map, List.length_zip]
    refine codeAny_builtin PySem.F.entry_extend_loop ?_
    rw [Around.under_plainId PySem.F.plain_extend_loop _]
    show wpAny _ A1.in1 (pyNext (.ref z) >>= _) _ _ s
    obtain ⟨u1, r1, p1, _⟩ := L.inv.tuple (SqT.of ((L.st.sub _ _ g1).ex nt))
    obtain ⟨u2, r2, p2, _⟩ := L.inv.tuple (SqT.of ((L.st.sub _ _ g2).ex nt))
    have a1 := r1.length
    have a2 := r2.length
    have b1 := d1.length
    have b2 := d2.length
    have i1lt : acc.length < xv.length := by omega
    have i2lt : acc.length < yv.length := by omega
    obtain ⟨w1, hw1, rw1⟩ := r1.get (List.getElem?_eq_getElem i1lt)
    obtain ⟨w2, hw2, rw2⟩ := r2.get (List.getElem?_eq_getElem i2lt)
    obtain ⟨_, its, cnt, rq, hl, eq⟩ := L.inv.lstM L.hq
    have qlt : q < s.heap.objs.size := Heap.lt_size eq
    refine wpAny_bind (zst_item D L.zs qlt L.lto p1 p2 (x := w1) (y := w2) (by simpa using hw1) (by simpa using hw2) fun h' zs' pr sz kp => ?_)
    -- the new pair
    have nT : H' s.heap.objs.size = none := L.inv.hok.fresh (Nat.le_refl _)
    have nTq : q ≠ s.heap.objs.size := Nat.ne_of_lt qlt
    have hTI : ∀ c ∈ [z, TI, TO, i1, i2], c < s.heap.objs.size := fun c hc => by
      obtain ⟨q1, q2, q3, q4⟩ := zst_alive L.zs
      simp only [List.mem_cons, List.not_mem_nil, or_false] at hc
      rcases hc with e | e | e | e | e <;> rw [e] <;> first | assumption | exact L.lto
    have qn : ∀ c ∈ [z, TI, TO, i1, i2], c ≠ q := fun c hc e => by
      have z1 := (L.fp c hc).1
      rw [e, L.hq] at z1
      cases z1
    have new : ObjOk X.prog X.w (upd H' s.heap.objs.size (.tup [xv[acc.length], yv[acc.length]])) h' s.heap.objs.size (.tup [xv[acc.length], yv[acc.length]]) :=
      ⟨by show 2 ≤ sizeLine; decide, [w1, w2], .cons rw1 (.cons rw2 .nil), ⟨_, pr, rfl, _, rfl⟩⟩
    have I1 : Inv X pins σ (upd H' s.heap.objs.size (.tup [xv[acc.length], yv[acc.length]])) { s with heap := h' } := L.inv.turnedNew (t' := s.toks) kp L.fp (Nat.le_refl _) new
    have hq1 : upd H' s.heap.objs.size (.tup [xv[acc.length], yv[acc.length]]) q = some (.lst acc) := by rw [upd_ne nTq]; exact L.hq
    have qout : q ∉ [z, TI, TO, i1, i2] := fun hc => qn q hc rfl
    have eq1 := kp q _ qout eq
    show wpAny _ A1.in1 (updateSeq q (·.push (.ref s.heap.objs.size)) >>= _) _ _ _
    refine wpAny_bind (wpAny_updateSeq eq1 rfl (wpAny_pure ⟨plainId_quiet PySem.F.plain_extend_loop _, ?_⟩) (by rw [List.size_toArray]; omega) (by show (its.toArray.push (.ref s.heap.objs.size)).size ≤ sizeLine + 1; rw [Array.size_push, List.size_toArray]; omega))
    have I2 := I1.lset (its' := its ++ [.ref s.heap.objs.size]) (ys := acc ++ [.ref s.heap.objs.size]) (t' := s.toks) hq1 eq1 (f := (·.push (.ref s.heap.objs.size))) (by simp) (rq.append (.cons (show RelV (V.ref s.heap.objs.size) (Value.ref s.heap.objs.size) from rfl) .nil)) (by rw [List.length_append, List.length_singleton]; omega)
    have xd := StR.exG (o := .tup [xv[acc.length], yv[acc.length]]) L.st nT
    have S1 := L.st.step xd
    have gT : upd G' s.heap.objs.size (.tup [xv[acc.length], yv[acc.length]]) q = none := by rw [upd_ne nTq]; exact L.gq
    have S2 := S1.updA (o' := .lst (acc ++ [.ref s.heap.objs.size])) hq1 gT n0 (by intro i z; cases z) (by intro a u z; cases z) nw np
    have sG : Same G' (upd G' s.heap.objs.size (.tup [xv[acc.length], yv[acc.length]])) := xd.same
    have w1x : acc.length < xs.length := by omega
    have w2y : acc.length < ys.length := by omega
    have hp : ((xs.zip ys).map fun p => Td.D.tup [p.1, p.2])[acc.length]? = some (.tup [xs[acc.length], ys[acc.length]]) := by
      have zz : (xs.zip ys)[acc.length]? = some (xs[acc.length], ys[acc.length]) := List.getElem?_zip_eq_some.mpr ⟨List.getElem?_eq_getElem w1x, List.getElem?_eq_getElem w2y⟩
      rw [List.getElem?_map, zz]
      rfl
    obtain ⟨dx, gx, mx⟩ := d1.get' (List.getElem?_eq_getElem i1lt)
    obtain ⟨dy, gy, my⟩ := d2.get' (List.getElem?_eq_getElem i2lt)
    rw [List.getElem?_eq_getElem w1x] at gx
    rw [List.getElem?_eq_getElem w2y] at gy
    cases gx
    cases gy
    refine ih (acc ++ [.ref s.heap.objs.size]) _ _ _ (sG _ _ g1) (d1.keep sG) (sG _ _ g2) (d2.keep sG) ⟨I2, S2, (L.gr.trans (.ex xd)).updA ?_, upd_same, gT, ?_, ?_, ?_, fun c hc => ?_, ?_⟩ (by rw [List.length_append, List.length_singleton]; omega)
    · exact nH
    · rw [List.length_append, List.length_singleton, List.take_add_one, hp]
      exact (L.dat.keep sG).app (.cons (.tup upd_same (.cons (mx.keep sG) (.cons (my.keep sG) .nil))) .nil)
    · rw [List.length_append, List.length_singleton]; omega
    · rw [List.length_append, List.length_singleton]
      refine zst_keep zs' (fun c o nc e => (Heap.get?_update_other h' _ (Ne.symm nc)).trans e) (qn _ (by simp)) (qn _ (by simp)) (qn _ (by simp)) (qn _ (by simp)) (qn _ (by simp))
    · refine ⟨?_, (L.fp c hc).2⟩
      rw [upd_ne (qn c hc), upd_ne (Nat.ne_of_lt (hTI c hc))]
      exact (L.fp c hc).1
    · show TO < (h'.update q _).objs.size
      rw [Heap.size_update, sz]
      exact Nat.lt_succ_of_lt L.lto
theorem zip_hint {A : Around} {E : Value → Shared → Prop} {s : Shared} {Q : Bool → Shared → Prop} (hT : s.TypeIs (.ref z) "zip") (h : Q true s) : wpAny (model X.prog X.w) A (Builtin.List.listLengthHint (.ref z)) Q E s := by
  have f1 : typeLookup (.type "zip") "__len__" = pure none := by rw [typeLookup_type]; kernel_rfl
  have f2 : typeLookup (.type "zip") "__length_hint__" = pure none := by rw [typeLookup_type]; kernel_rfl
  unfold Builtin.List.listLengthHint
  repeat (any_goals (first | assumption | wp_step))
end
section
variable {X : Cx} {C : Cfg} {W : WX} {e e2 : Expr} {p p2 pos q2 : Pos} {Ts : TDA}
theorem pd_listZip (hK : C.K = X.K) (hc : X.calm = true) (hpc : C.pc) (hg : Gl X "list") (hm : X.mg "list" = none) (hg2 : Gl X "zip") (hm2 : X.mg "zip" = none) (ha : PDA X C W [e, e2] Ts)
    (hs : starEach [e, e2] X.env = (false, eval e X.env) :: starEach [e2] X.env := by rfl) (hpl : (backTo q2 (starEach [e2] X.env)).any (·.1) = false := by rfl) :
    PD X C W (.Call (.Name "list" p) [.Call (.Name "zip" p2) [e, e2] [] q2] [] pos) (dCB dListZip Ts) := by
  refine ⟨fun pins s σ H Q I h => ?_⟩
  obtain ⟨lk, G, ρ, pn, Qd, Qx, S, t, k, xl⟩ := h
  refine Call_ (ld_blt I hg hm (show bootBuiltins "list" = some (.type "list") from by decide +kernel) ?_)
  refine PyProof.Rows.callWith_type1 (PyProof.Rows.args_cons ?_ rfl) rfl rfl
  refine Call_ (ld_blt I hg2 hm2 PyProof.Rows.boot_zip (PyProof.Rows.callWith_type1 (thn (ha.run q2 pins s σ H (fun vs H1 => ∃ (G1 : Hp) (ρ1 : SL) (pn1 : Pn) (xs ys : List D), StR C lk σ ρ1 pn1 G1 H1 ∧ Gr C.pp σ ρ G H ρ1 G1 H1 ∧ DatL C.K C.pp G1 vs [.tup xs, .tup ys] ∧ ((xs.zip ys).map fun p => Td.D.tup [p.1, p.2]).length < sizeLine ∧ Qd (.lst ((xs.zip ys).map fun p => .tup [p.1, p.2])) ρ1 pn1) I
    ⟨lk, G, ρ, pn, _, Qx, S, t, fun vs ds G1 H1 ρ1 pn1 S1 g1 l t1 => ?_, xl⟩) fun us s1 ⟨vs, H1, I1, r1, G1, ρ1, pn1, xs, ys, S1, g1, l, hz, t1⟩ => ?_) hs hpl))
  · unfold dListZip at t1
    cases z : dZipT ds with
    | none => rw [z] at t1; exact t1.elim
    | some items =>
      rw [z] at t1
      obtain ⟨xs, ys, rfl, rfl⟩ := dZipT_some z
      exact ⟨G1, ρ1, pn1, xs, ys, S1, g1, l, t1.1, t1.2⟩
  · obtain ⟨v1, v2, rfl, dv1, dv2⟩ := l.two
    cases dv1 with
    | tup a1 la =>
      rename_i a xv
      cases dv2 with
      | tup b1 lb =>
        rename_i b yv
        obtain ⟨u1, u2, rfl, ru1, ru2⟩ : ∃ u1 u2, us = [u1, u2] ∧ RelV (.ref a) u1 ∧ RelV (.ref b) u2 := by
          cases r1 with
          | cons p q =>
            cases q with
            | cons p' q' =>
              cases q'
              exact ⟨_, _, rfl, p, p'⟩
        cases (show u1 = Value.ref a from ru1)
        cases (show u2 = Value.ref b from ru2)
        have nt : ∀ {xs : List V} (kvs : List (Key × V)), HO.tup xs ≠ .dK kvs := by intro _ _ z; cases z
        have ea := (S1.sub _ _ a1).ex nt
        have eb := (S1.sub _ _ b1).ex nt
        obtain ⟨its1, rv1, p1, _⟩ := I1.tuple (SqT.of ea)
        obtain ⟨its2, rv2, p2, _⟩ := I1.tuple (SqT.of eb)
        obtain ⟨o1, ho1, _⟩ := id p1
        obtain ⟨o2, ho2, _⟩ := id p2
        have hh : X.A.handled = none := I1.ok.hd hc
        refine call_zipT (show s1.heap.IsTuple a its1.toArray from p1) (show s1.heap.IsTuple b its2.toArray from p2) fun h' hz' hTI hTO h1 h2 hsz hk => PyProof.Rows.args_nil ?_
        have I2 : Inv X pins σ H1 { s1 with heap := h' } := I1.kept (t' := s1.toks) hk
        have ap := PySem.W.ktu_apart s1.heap.objs.size a b (Heap.lt_size ho1) (Heap.lt_size ho2)
        refine callType_codes (Q₁ := fun obj s₁ => obj = .ref h'.objs.size ∧ s₁ = { s1 with heap := h'.push { cls := .type "list", data := .seq #[] } }) PySem.F.called_list (PySem.F.typeCall_list_1 _) PySem.F.entry_list_init (code_list_new _ ⟨rfl, rfl⟩) fun obj s₁ h₁ => ?_
        obtain ⟨rfl, rfl⟩ := h₁
        have hS : (h'.push { cls := .type "list", data := .seq #[] }).get? h'.objs.size = some { cls := .type "list", data := .seq #[] } := Heap.get?_push_size _ rfl
        refine ⟨⟨_, hS, rfl⟩, PySem.F.args_list_init_2 _ _, ?_⟩
        have fr : H1 h'.objs.size = none := I2.hok.fresh (Nat.le_refl _)
        have I3 : Inv X pins σ (upd H1 h'.objs.size (.lst [])) { s1 with heap := h'.push { cls := .type "list", data := .seq #[] } } := I2.lnew (its := []) (t' := s1.toks) .nil (Nat.zero_le _)
        show wpAny _ _ (do let old ← Builtin.List.listItems (.ref h'.objs.size); Builtin.List.listUpdate (.ref h'.objs.size) (fun _ => #[]); letGo old.toList.reverse; Builtin.List.listExtendWith (.ref h'.objs.size) (.ref (s1.heap.objs.size + 4)) .none) _ _ _
        refine wpAny_bind ?_
        unfold Builtin.List.listItems
        refine wpAny_bind (wpAny_seqItems hS rfl (wpAny_pure ?_))
        show wpAny _ _ (updateSeq h'.objs.size (fun _ => #[]) >>= fun _ => letGo (#[] : Array Value).toList.reverse >>= fun _ => Builtin.List.listExtendWith (.ref h'.objs.size) (.ref (s1.heap.objs.size + 4)) .none) _ _ _
        refine wpAny_bind (wpAny_updateSeq hS rfl ?_)
        have I4 := I3.lset (f := fun _ => #[]) (its := []) (its' := []) (ys := []) (t' := s1.toks) upd_same hS rfl .nil (Nat.zero_le _)
        rw [upd_upd] at I4
        refine wpAny_bind (wpAny_letGo ?_)
        generalize hg4 : (h'.push { cls := .type "list", data := .seq #[] }).update h'.objs.size (Obj.mapSeq fun _ => #[]) = h4 at I4 ⊢
        have up4 : ∀ c o, c ≠ h'.objs.size → h'.get? c = some o → h4.get? c = some o := fun c o nc e => by
          rw [← hg4]
          exact (Heap.get?_update_other _ _ (Ne.symm nc)).trans (Heap.get?_push_of_some _ e)
        have sz4 : h4.objs.size = h'.objs.size + 1 := by rw [← hg4, Heap.size_update, Heap.size_push]
        have ltq : ∀ {c : Nat}, c < s1.heap.objs.size + 5 → c ≠ h'.objs.size := fun hc => by rw [hsz]; exact Nat.ne_of_lt hc
        have hz4 : IsZip h4 (s1.heap.objs.size + 4) (s1.heap.objs.size + 2) (s1.heap.objs.size + 3) .none := up4 _ _ (ltq (by omega)) hz'
        have hTI4 := up4 _ _ (ltq (by omega)) hTI
        have hTO4 := up4 _ _ (ltq (by omega)) hTO
        have hi1 : h4.IsTupleIter s1.heap.objs.size a 0 := h1.at fun o e => up4 _ _ (ltq (by omega)) e
        have hi2 : h4.IsTupleIter (s1.heap.objs.size + 1) b 0 := h2.at fun o e => up4 _ _ (ltq (by omega)) e
        have zst : ZSt h4 (s1.heap.objs.size + 4) (s1.heap.objs.size + 2) (s1.heap.objs.size + 3) s1.heap.objs.size (s1.heap.objs.size + 1) a b h'.objs.size 0 := ⟨hTI4, hi1, hi2, .inl ⟨hz4, _, _, hTO4⟩⟩
        have hTz : Shared.TypeIs { s1 with heap := h4 } (.ref (s1.heap.objs.size + 4)) "zip" := ⟨_, hz4, rfl⟩
        obtain ⟨S2, g2, gp, h0, np, nw⟩ := own_new (o := .lst []) S1 fr
        have nH : H h'.objs.size = none := by
          cases w : H h'.objs.size with
          | none => rfl
          | some u => exact absurd fr (g1.live _ (by rw [w]; simp))
        have fin : ∀ s5 : Shared, Inv X pins σ (upd H1 h'.objs.size (.lst [])) s5 → ZSt s5.heap (s1.heap.objs.size + 4) (s1.heap.objs.size + 2) (s1.heap.objs.size + 3) s1.heap.objs.size (s1.heap.objs.size + 1) a b h'.objs.size 0 → s1.heap.objs.size + 3 < s5.heap.objs.size →
            codeAny (model X.prog X.w) X.A.in1 (.builtin "list.extend.loop" ⟨[.ref h'.objs.size, .ref (s1.heap.objs.size + 4), .none], []⟩) (wants (fun r s₂ => r = .none ∧ EP X pins σ Q (.ref h'.objs.size) s₂) X.xe) s5 := fun s5 I5 zs5 l5 => by
          refine zip_loop (A1 := X.A.in1) (H := H) hh ap nH h0 nw (pc_ne S2 h0 hpc) hz (fun acc G' H' s L e h6 kp => ?_) _ [] G1 _ s5 a1 la b1 lb ⟨I5, S2, g1.trans g2, upd_same, gp, ?_, Nat.zero_le _, zs5, fun c hcm => ?_, l5⟩ rfl
          · refine ⟨rfl, .ref h'.objs.size, H', L.inv.turnedL (t' := s.toks) kp L.fp, rfl, ?_⟩
            have nw' : ¬ OwnAt σ ρ1 h'.objs.size := nw
            have SF := StR.freezeA L.st L.hq L.gq h0 nw'
            have gF := Gr.freezeA (o := .lst acc) L.gr L.gq nH
            have dF := L.dat
            rw [e, List.take_length] at dF
            exact k _ _ _ H' ρ1 pn1 SF gF (.lst upd_same (dF.keep (Same.new L.gq))) t1
          · simpa using DatL.nil
          · have hlt : @LE.le Nat _ s1.heap.objs.size c ∧ @LT.lt Nat _ c (s1.heap.objs.size + 5) := by
              have hc' : c = s1.heap.objs.size + 4 ∨ c = s1.heap.objs.size + 2 ∨ c = s1.heap.objs.size + 3 ∨ c = s1.heap.objs.size ∨ c = s1.heap.objs.size + 1 := by simpa using hcm
              rcases hc' with e | e | e | e | e <;> rw [e] <;> constructor <;> omega
            have f1 := I1.fpOk hlt.1 (I1.hok.fresh hlt.1)
            exact ⟨by rw [upd_ne (ltq hlt.2)]; exact f1.1, f1.2⟩
        unfold Builtin.List.listExtendWith
        refine wpAny_bind (wpAny_typeOf hTz ?_)
        have e1 : Builtin.List.listSameRef (.ref h'.objs.size) (.ref (s1.heap.objs.size + 4)) = false := by
          have : h'.objs.size ≠ s1.heap.objs.size + 4 := (ltq (by omega)).symm
          simp [Builtin.List.listSameRef, this]
        have e2 : (Value.type "zip" == Value.type "list") = false := by decide +kernel
        have e3 : (Value.type "zip" == Value.type "tuple") = false := by decide +kernel
        simp only [e1, e2, e3, Bool.or_false, Bool.false_eq_true, if_false]
        refine wpAny_bind (wpAny_pyIter_zip hz4 ?_)
        refine wpAny_bind (wpAny_holding (zip_hint hTz ?_))
        rw [if_pos (by rfl)]
        refine wpAny_bind (wpAny_rule (wpAny_bind ?_))
        show wpAny _ _ (updateSeq h'.objs.size (·.push .none) >>= fun _ => updateSeq h'.objs.size (·.pop)) _ _ _
        obtain ⟨_, w4, c4, r4, _, e4⟩ := I4.lstM upd_same
        cases r4
        refine wpAny_bind (wpAny_updateSeq e4 rfl ?_)
        have I5 := I4.lset (f := (·.push Value.none)) (its' := [Value.none]) (ys := [.non]) (t' := s1.toks) upd_same e4 (by simp) (.cons rfl .nil) (by rw [List.length_singleton, sizeLine_eq]; decide)
        obtain ⟨_, w5, c5, r5, _, e5⟩ := I5.lstM upd_same
        obtain ⟨u5, rfl, ru5⟩ := r5.one
        refine wpAny_updateSeq e5 rfl ?_ (by show 1 ≤ sizeLine; rw [sizeLine_eq]; decide) (by show 0 ≤ sizeLine + 1; exact Nat.zero_le _)
        have I6 := I5.lset (f := (·.pop)) (its := [u5]) (its' := []) (ys := []) (t' := s1.toks) upd_same e5 (by rfl) .nil (Nat.zero_le _)
        rw [upd_upd, upd_upd] at I6
        refine wpAny_pure ⟨plainId_quiet PySem.F.plain_extend_loop _, fin _ I6 ?_ ?_⟩
        · refine zst_keep zst (fun c o nc e => (Heap.get?_update_other _ _ (Ne.symm nc)).trans ((Heap.get?_update_other _ _ (Ne.symm nc)).trans e)) ?_ ?_ ?_ ?_ ?_ <;> exact ltq (by omega)
        · show s1.heap.objs.size + 3 < ((h4.update _ _).update _ _).objs.size
          rw [Heap.size_update, Heap.size_update, sz4, hsz]
          omega
end
end Td
end
section
set_option maxRecDepth 100000
set_option maxHeartbeats 4000000
/-! The data layer: return iter(self.f). -/
namespace Td
open PySem PySem.Spec PyProof.Rows L2 Lw
theorem it_self {X : Cx} {K : PySem.W.Frag} {mg : Str → Option Value} {scope : Scope} {C0 : Addr} {fl : Str} {p p1 p2 p3 : Pos} (hK : X.K = K) (hm : X.mg = mg) (hN : X.N = [("self" : Str)]) (hs : X.env.scope = scope) (hv : Vis scope "self") (hg : Gl X "iter")
    (cl : Cls K C0) (na : NoAttr K C0 fl) (hi : mg "iter" = none) : PE X (.Call (.Name "iter" p) [.Attribute (.Name "self" p1) fl p2] [] p3) (fun σ H Q => ∃ a dx t fs xs, σ = [some (.ref a)] ∧ H a = some (.ins C0 dx fs) ∧ fs.lookup fl = some (.ref t) ∧ SqT K H t xs ∧ ∀ it, H it = none → X.s_0.heap.objs.size ≤ it → Q (.ref it) (upd H it (ItT t it))) := by
  subst hK hm
  have hx : PE X (.Name "self" p1) (tVar 0) := pv 0 (by rw [hN]; rfl) (by rw [hs]; exact hv)
  refine PE.imp (pe_callB call_iterT hg hi (by decide +kernel) (pa_cons (pe_fld (f := fl) (pos := p2) hx rfl) pa_nil)) fun σ H Q q => ?_
  obtain ⟨a, dx, t, fs, xs, rfl, ea, el, st, q⟩ := q
  exact ⟨_, rfl, a, C0, dx, fs, _, rfl, ea, cl, na, el, t, xs, rfl, st, q⟩
end Td
end
section
set_option maxRecDepth 100000
set_option maxHeartbeats 4000000
/-! The data layer: an expression that reads own lists, its value none of them: they stay the frame's own. -/
namespace Td
open PySem PySem.Spec PyProof.Rows L2 Lw
mutual
def D.noL : D → Bool
  | .tup ds => D.noLL ds
  | .obj _ fs => D.noLF fs
  | .lst _ => false
  | .dic _ => false
  | .exc _ _ => false
  | _ => true
def D.noLL : List D → Bool
  | [] => true
  | d :: ds => D.noL d && D.noLL ds
def D.noLF : List (Str × D) → Bool
  | [] => true
  | (_, d) :: ds => D.noL d && D.noLF ds
end
/-- an object that is no list, no dict -/
def HO.noL : HO → Bool
  | .lst _ => false
  | .dK _ => false
  | _ => true
def dropNew (G G' : Hp) : Hp := fun b => match G' b with
  | some o => if (G b).isNone && !HO.noL o then none else some o
  | none => none
theorem dropNew_sub {G G' : Hp} {a : Addr} {o : HO} (h : dropNew G G' a = some o) : G' a = some o := by
  unfold dropNew at h
  cases q : G' a with
  | none => rw [q] at h; cases h
  | some u =>
    rw [q] at h
    dsimp only at h
    split at h
    · cases h
    · exact h
theorem dropNew_of {G G' : Hp} {a : Addr} {o : HO} (h : G' a = some o) (n : HO.noL o = true) : dropNew G G' a = some o := by
  unfold dropNew
  rw [h]
  simp [n]
theorem dropNew_same {G G' : Hp} (s : Same G G') : Same G (dropNew G G') := fun a o h => by
  unfold dropNew
  rw [s a o h]
  simp [h]
theorem dropNew_none {G G' : Hp} {a : Addr} (g : G a = none) (h : ∀ o, G' a = some o → HO.noL o = false) : dropNew G G' a = none := by
  unfold dropNew
  cases q : G' a with
  | none => rfl
  | some u => simp [g, h u q]
mutual
theorem dat_drop {K : PySem.W.Frag} {pp : PP} {G G' : Hp} : ∀ {v : V} {d : D}, Dat K pp G' v d → d.noL = true → Dat K pp (dropNew G G') v d
  | _, _, .non, _ => .non
  | _, _, .bl b, _ => .bl b
  | _, _, .int i, _ => .int i
  | _, _, .str x, _ => .str x
  | _, _, .ty n, _ => .ty n
  | _, _, .fn h, _ => .fn h
  | _, _, .pen h, _ => .pen h
  | _, .tup ds, .tup h l, n => .tup (dropNew_of h rfl) (dat_dropL l (by rw [D.noL] at n; exact n))
  | _, .lst ds, .lst _ _, n => by rw [D.noL] at n; cases n
  | _, .dic ds, .dic _ _ _, n => by rw [D.noL] at n; cases n
  | _, .exc _ _, .exc _ _ _ _, n => by rw [D.noL] at n; cases n
  | _, .obj C ds, .obj h1 h2 e l, n => .obj (dropNew_of h1 rfl) (dropNew_of h2 rfl) e (dat_dropF (by rw [D.noL] at n; exact n) l)
theorem dat_dropL {K : PySem.W.Frag} {pp : PP} {G G' : Hp} : ∀ {vs : List V} {ds : List D}, DatL K pp G' vs ds → D.noLL ds = true → DatL K pp (dropNew G G') vs ds
  | _, _, .nil, _ => .nil
  | _, d :: ds, .cons a l, n => by
    rw [D.noLL, Bool.and_eq_true] at n
    exact .cons (dat_drop a n.1) (dat_dropL l n.2)
theorem dat_dropF {K : PySem.W.Frag} {pp : PP} {G G' : Hp} : ∀ {vs : List V} {fs : List (Str × D)}, D.noLF fs = true → DatL K pp G' vs (fs.map (·.2)) → DatL K pp (dropNew G G') vs (fs.map (·.2))
  | _, [], _, .nil => .nil
  | _, (f, d) :: fs, n, .cons a l => by
    rw [D.noLF, Bool.and_eq_true] at n
    exact .cons (dat_drop a n.1) (dat_dropF n.2 l)
end
def SV.noO : SV → Bool
  | .oo _ _ => false
  | _ => true
def dPkN (T : TDE) : TDE := fun ρ pn Q X => ρ.all SV.noO = true ∧ T ρ pn (fun d _ pn1 => d.noL = true ∧ Q d ρ pn1) X
section
variable {X : Cx} {C : Cfg} {W : WX} {e : Expr} {T : TDE}
theorem pd_pkN (h : PD X C W e T) : PD X C W e (dPkN T) := by
  refine PE.imp h fun σ H Q q => ?_
  obtain ⟨lk, G, ρ, pn, Qd, Qx, S, ⟨na, t⟩, k, xl⟩ := q
  refine ⟨lk, G, ρ, pn, _, Qx, S, t, fun v d G1 H1 ρ1 pn1 S1 g1 dv t1 => ?_, xl⟩
  have S0 := S.undo S1 g1
  have np : ∀ {a : Addr} {o : HO}, H a = some o → (∀ xs, o ≠ .lst xs) → C.pp.p ≠ some a := fun {a o} e n z => by
    have P := (S.pen a z).2.2.ob
    rw [P] at e
    exact n _ (Option.some.inj e).symm
  have own : ∀ (i : Nat) (sv : SV) (a : Addr), ρ[i]? = some sv → sv.own = true → σ[i]? = some (some (.ref a)) → dropNew G G1 a = none := fun i sv a er o ea => by
    refine dropNew_none (S.placed er o ea).2 fun ob hb => ?_
    have sl := S.slot i sv er
    cases sv with
    | un => cases o
    | fz d => cases o
    | ol ds =>
      obtain ⟨b, xs, e1, q, _, _, z, _⟩ := sl
      rw [ea] at e1
      cases e1
      have h1 := g1.bu a _ q z
      rcases S1.sub a ob hb with w | ⟨⟨kvs, w⟩, _⟩
      · rw [h1] at w
        cases w
        rfl
      · rw [w]
        rfl
    | od ds =>
      obtain ⟨b, xs, e1, q, _, _, z, _⟩ := sl
      rw [ea] at e1
      cases e1
      have h1 := g1.bu a _ q (np q (by intro _ z; cases z))
      rcases S1.sub a ob hb with w | ⟨⟨kvs, w⟩, _⟩
      · rw [h1] at w
        cases w
        rfl
      · rw [w]
        rfl
    | oo T0 fs =>
      have := List.all_eq_true.mp na _ (List.mem_of_getElem? er)
      cases this
  have S2 := S0.more (dropNew_same g1.same) (fun a o q => S1.sub a o (dropNew_sub q)) (fun a q => S1.new a (by
    cases w : dropNew G G1 a with
    | none => exact absurd w q
    | some o => rw [dropNew_sub w]; simp)) (fun a ha => by
    cases w : dropNew G G1 a with
    | none => rfl
    | some o =>
      have z := dropNew_sub w
      rw [(S1.muG a ha).1] at z
      cases z) own
  have gnew : ∀ a, dropNew G G1 a ≠ none → G a ≠ none ∨ H a = none ∨ OwnAt σ ρ a := fun a q => by
    cases w : dropNew G G1 a with
    | none => exact absurd w q
    | some o =>
      rcases g1.new a (by rw [dropNew_sub w]; simp) with z | z | ⟨i, sv, z1, z2, z3⟩
      · exact .inl z
      · exact .inr (.inl z)
      · rw [own i sv a z1 z2 z3] at w
        cases w
  have g2 : Gr C.pp σ ρ G H ρ (dropNew G G1) H1 := ⟨dropNew_same g1.same, gnew, g1.bu, g1.live, fun _ h => h⟩
  exact k v d _ H1 ρ pn1 S2 g2 (dat_drop dv t1.1) t1.2
end
end Td
end
section
set_option maxRecDepth 100000
set_option maxHeartbeats 4000000
/-! The data layer: == of two plain values, a drawn number, the law's own def. -/
namespace Td
open PySem PySem.Spec PyProof.Rows L2 Lw
/-! ### == and != -/
def dEqA (neg : Bool) : D → D → (D → Prop) → Prop := fun d e Q => match d.flat, e.flat with
  | some v, some u => if scal v u = true then Q (.bl (decide (v = u) != neg)) else dEq neg d e Q
  | _, _ => dEq neg d e Q
theorem r_eqA {K : PySem.W.Frag} : R2D K (fun x y H Q => rEq x y H Q ∨ rEqD K x y H Q) (dEqA false) := by
  intro pp pn G H x y d e Qd Q ex dx dy t k
  unfold dEqA at t
  split at t
  · rename_i v u ev eu
    split at t
    · rename_i c
      obtain ⟨rfl, _⟩ := flat_of dx ev
      obtain ⟨rfl, _⟩ := flat_of dy eu
      exact .inl ⟨c, k _ _ G H ex (.bl _) (by simpa using t)⟩
    · exact .inr (r_eq pp pn G H x y d e Qd Q ex dx dy t k)
  · exact .inr (r_eq pp pn G H x y d e Qd Q ex dx dy t k)
theorem r_neA {K : PySem.W.Frag} : R2D K (fun x y H Q => rNe x y H Q ∨ rNeD K x y H Q) (dEqA true) := by
  intro pp pn G H x y d e Qd Q ex dx dy t k
  unfold dEqA at t
  split at t
  · rename_i v u ev eu
    split at t
    · rename_i c
      obtain ⟨rfl, _⟩ := flat_of dx ev
      obtain ⟨rfl, _⟩ := flat_of dy eu
      exact .inl ⟨c, k _ _ G H ex (.bl _) (by simpa using t)⟩
    · exact .inr (r_ne pp pn G H x y d e Qd Q ex dx dy t k)
  · exact .inr (r_ne pp pn G H x y d e Qd Q ex dx dy t k)
section
variable {X : Cx}
theorem op_eqA (hu : X.A.units + 64 < cLine) : OpR X (compareOp .Eq) (fun x y H Q => rEq x y H Q ∨ rEqD X.K x y H Q) := OpR.or op_eq (op_eqD hu)
theorem op_neA (hu : X.A.units + 64 < cLine) : OpR X (compareOp .NotEq) (fun x y H Q => rNe x y H Q ∨ rNeD X.K x y H Q) := OpR.or op_ne (op_neD hu)
end
/-! ### the pen -/
section
variable {P : Program} {w : World} {K : PySem.W.Frag} {mg : Str → Option Value} {base : Heap} {k : Nat} {f : Addr} {fd : FuncData} {ps : List Str} {sp : Sp}
/-- a number below many -/
def sDrawD : SpD := fun ds pn Q _ => ∃ m, ds = [.pen, .int m] ∧ pn.i ≤ 1000000 ∧ 0 < m ∧ m < 2 ^ 30 ∧ ∀ x : Int, 0 ≤ x → x < m → ∀ (i r : Int), pn.i ≤ i → i ≤ pn.i + 1 → Q (.int x) ⟨pn.ns, i, r⟩
theorem draw_D (F : FnOk P w K mg base CX0 k f fd ps Lw.spDraw) : FnOk P w K mg base (L2.CX P w) k f fd ps (spD K sDrawD) :=
  (fnOk_cx F).imp fun vs H Q E h => by
    obtain ⟨pp, G, pn, ds, Qd, Qx, x, l, ⟨m, rfl, hi, h0, h1, kk⟩, k1, k2⟩ := h
    obtain ⟨v, u, rfl, dv, du⟩ := l.two
    cases dv with
    | pen hp =>
      rename_i p
      cases du
      obtain ⟨_, gp, D⟩ := x.pen p hp
      refine ⟨p, pp.c, pn.ns, pn.i, pn.r, m, rfl, D, h0, by omega, hi, fun y i' r' H' d0 d1 i1 i2 D' B => ?_⟩
      exact k1 _ _ G H' ⟨pn.ns, i', r'⟩ (ex_pen x hp B D') (.int y) (kk y d0 d1 i' r' i1 i2)
/-! ### the law's own def -/
theorem fnG_cx0 (F : FnG P w K mg base (L2.CX P w) k f fd ps sp) (h : ∀ vs H Q E E', sp vs H Q E → sp vs H Q E') : FnG P w K mg base CX0 k f fd ps sp :=
  ⟨F.len, fun A outer s H args us vs Q E hG hr e0 b r q => codeAny_mono (F.run A outer s H args us vs Q (fun _ _ _ => False) hG hr e0 b r (h _ _ _ _ _ q)) fun r s' hq => by
    cases r with
    | error e =>
      obtain ⟨_, _, _, _, _, _, _, _, _, _, _, _, z⟩ := hq
      exact z.elim
    | ok fl => cases fl <;> exact hq⟩
structure CalP (P : Program) (w : World) (K : PySem.W.Frag) (mg : Str → Option Value) (base : Heap) (nm : Str) (k : Nat) (ps : List Str) (sp : Sp) (f : Addr) (fd : FuncData) : Prop where
  ok : FnOk P w K mg base CX0 k f fd ps sp
  gl : mg nm = some (.ref f)
  kp : PySem.W.keepIn K (.ref f) = true
  bi : Binds K fd ps []
def spLaw (K : PySem.W.Frag) : Sp := fun vs H Q _ => ∃ (a : Addr) (ns : List Int), vs = [.ref a] ∧ SqL K H a (ns.map V.int) ∧ ns.length ≤ 63 ∧ ∀ H', Q (.bl true) H'
abbrev G0h : Hp := fun _ => none
theorem stR_law {p c a : Addr} {H : Hp} {ns : List Int} (D : PenAt H p c ns 0 0) (n : Nat) :
    StR (cf K ⟨some p, c⟩ G0h H) [] (some (.ref a) :: some (.ref p) :: List.replicate n none) (.un :: .fz .pen :: List.replicate n .un) ⟨ns, 0, 0⟩ G0h H := by
  refine ⟨fun _ _ h => (by cases h), fun _ _ h => h, fun _ h => absurd rfl h, fun _ _ h _ => ⟨.inl h, fun _ => h⟩, fun _ h => h, (fun _ h => by cases h), fun b hb => ?_, fun q hq => ?_, by simp, fun i sv e => ?_, fun i j s t b e1 _ o1 => ?_⟩
  · have e : b = p := by simpa [cf] using hb
    subst e
    have z : H b ≠ none := by rw [D.ob]; simp
    exact ⟨rfl, z, z⟩
  · have e : p = q := by simpa [cf] using hq
    subst e
    exact ⟨by simp [cf], rfl, D⟩
  · match i, e with
    | 0, e => cases e; trivial
    | 1, e => cases e; exact ⟨_, rfl, .pen rfl⟩
    | i + 2, e =>
      have e' : (List.replicate n SV.un)[i]? = some sv := e
      obtain ⟨_, e2⟩ := List.getElem?_eq_some_iff.mp e'
      rw [List.getElem_replicate] at e2
      subst e2
      trivial
  · exfalso
    match i, e1 with
    | 0, e1 => cases e1; cases o1
    | 1, e1 => cases e1; cases o1
    | i + 2, e1 =>
      have e' : (List.replicate n SV.un)[i]? = some s := e1
      obtain ⟨_, e2⟩ := List.getElem?_eq_some_iff.mp e'
      rw [List.getElem_replicate] at e2
      subst e2
      cases o1
/-- what the law's body does behind its first row -/
def tLaw (K : PySem.W.Frag) (W : WX) (T : TDS) : TS := fun D σ H => ∃ p c, (cf K ⟨some p, c⟩ G0h H).pc ∧ tS (cf K ⟨some p, c⟩ G0h H) W T D σ H
theorem pss_law {X : Cx} {W : WX} {rest : List Stmt} {T : TDS} (h : ∀ p c H0, (cf K ⟨some p, c⟩ G0h H0).pc → PDSs X (cf K ⟨some p, c⟩ G0h H0) W rest T) : PSs X rest (tLaw K W T) :=
  ⟨fun pins s σ H D I q => by
    obtain ⟨p, c, hp, q⟩ := q
    exact (h p c H hp).run pins s σ H D I q⟩
theorem law_end {W : WX} {T : TDS} {D : Ends} {p c a : Addr} {H : Hp} {ns : List Int} {n : Nat} (P : PenAt H p c ns 0 0) (t : T { nx := fun _ _ => False, rt := fun d _ => d = .bl true } (.un :: .fz .pen :: List.replicate n .un) ⟨ns, 0, 0⟩)
    (k : ∀ H', D.rt (.bl true) H') : tLaw K W T D (some (.ref a) :: some (.ref p) :: List.replicate n none) H := by
  refine ⟨p, c, fun q e => ?_, [], G0h, _, _, _, stR_law P n, t, ⟨(fun _ _ _ _ _ _ _ q => q.elim), (fun _ _ _ _ _ _ _ q => q.elim), (fun _ _ _ _ _ _ _ q => q.elim), fun v d σ' ρ' pn' G' H' S' dv q => ?_, fun σ c d fs ds G' H' ρ' pn' S' e1 e2 e3 q => q.elim⟩⟩
  · show H c ≠ none
    rw [P.ce]
    simp
  · have q' : d = .bl true := q
    subst q'
    cases dv
    exact k H'
end
end Td
end
section
set_option maxRecDepth 100000
set_option maxHeartbeats 4000000
/-! Reasoning over readings: steps. -/
namespace Td
open PySem PySem.Spec PyProof.Rows L2 Lw
section
variable {T U V : TDE} {B B' : TDT} {Ts Us : TDA} {S1 S2 : TDS} {E : DE} {ρ : SL} {pn : Pn} {Q : QD} {X : XD} {Qb : Bool → SL → Pn → Prop} {Ql : List D → SL → Pn → Prop}
/-! ### rows -/
theorem s_seq (h : S1 { E with nx := S2 E } ρ pn) : dSeq S1 S2 E ρ pn := h
theorem s_next (h : E.nx ρ pn) : dNext E ρ pn := h
theorem s_ret (h : T ρ pn (fun d _ pn' => E.rt d pn') E.xd) : dRet T E ρ pn := h
theorem s_set {i : Nat} (h : T ρ pn (fun d ρ1 pn1 => E.nx (ρ1.set i (.fz d)) pn1) E.xd) : dSet i T E ρ pn := h
theorem s_if (h : B ρ pn (fun b ρ1 pn1 => if b = true then S1 E ρ1 pn1 else S2 E ρ1 pn1) E.xd) : dIfS B S1 S2 E ρ pn := h
theorem s_drop (h : T ρ pn (fun _ ρ1 pn1 => E.nx ρ1 pn1) E.xd) : dDrop T E ρ pn := h
theorem s_par2 {i j : Nat} (h : Ts ρ pn (fun ds ρ1 pn1 => match ds with
  | [d, e] => E.nx ((ρ1.set i (.fz d)).set j (.fz e)) pn1
  | _ => False) E.xd) : dPar2 i j Ts E ρ pn := h
theorem s_raise1 {C : Addr} {f : Str} (h : T ρ pn (fun d ρ1 pn1 => E.xd C [(f, d)] ρ1 pn1) E.xd) : dRaise1 C f T E ρ pn := h
theorem s_for {I : TDI} {g : TDG} (h : I ρ pn (fun items ρ1 pn1 => forW g S1 E items ρ1 pn1) E.xd) : dFor I g S1 E ρ pn := h
theorem s_setO {i : Nat} {To : TDO} (h : To ρ pn (fun sv ρ1 pn1 => E.nx (ρ1.set i sv) pn1) E.xd) : dSetO i To E ρ pn := h
theorem s_app {i : Nat} {ds0 : List D} (hi : ρ[i]? = some (.ol ds0)) (h : T ρ pn (fun d ρ1 pn1 => match ρ1[i]? with
    | some (.ol ds) => ds.length < sizeLine ∧ E.nx (ρ1.set i (.ol (ds ++ [d]))) pn1
    | _ => False) E.xd) : sApp i T E ρ pn := by
  unfold sApp
  rw [hi]
  exact h
theorem s_self {T0 : Addr} {j : Nat} {f : Str} (h : T ρ pn (fun d ρ1 pn1 => match ρ1[j]? with
  | some (.oo T1 fs) => T1 = T0 ∧ fs.length < 1000 ∧ E.nx (ρ1.set j (.oo T1 (putFD f d fs))) pn1
  | _ => False) E.xd) : sSelf T0 j f T E ρ pn := h
/-! ### expressions -/
theorem e_var {i : Nat} {d : D} (hi : ρ[i]? = some (.fz d)) (h : Q d ρ pn) : dVar i ρ pn Q X := by
  unfold dVar
  rw [hi]
  exact h
theorem e_varL {i : Nat} {ds : List D} (hi : ρ[i]? = some (.ol ds)) (h : Q (.lst ds) (ρ.set i (.fz (.lst ds))) pn) : dVar i ρ pn Q X := by
  unfold dVar
  rw [hi]
  exact h
theorem e_c {d : D} (h : Q d ρ pn) : dC d ρ pn Q X := h
theorem e_nil (h : Ql [] ρ pn) : dNil ρ pn Ql X := h
theorem e_cons (h : T ρ pn (fun d ρ1 pn1 => Ts ρ1 pn1 (fun ds ρ2 pn2 => Ql (d :: ds) ρ2 pn2) X) X) : dCons T Ts ρ pn Ql X := h
theorem e_two (h : T ρ pn (fun d ρ1 pn1 => U ρ1 pn1 (fun e => Ql [d, e]) X) X) : dTwo T U ρ pn Ql X := h
theorem e_op {rD : D → D → (D → Prop) → Prop} (h : T ρ pn (fun d ρ1 pn1 => U ρ1 pn1 (fun e ρ2 pn2 => rD d e fun z => Q z ρ2 pn2) X) X) : dOp rD T U ρ pn Q X := h
theorem e_un {rD : D → (D → Prop) → Prop} (h : T ρ pn (fun d ρ1 pn1 => rD d fun z => Q z ρ1 pn1) X) : dUn rD T ρ pn Q X := h
theorem e_cb {rD : List D → (D → Prop) → Prop} (h : Ts ρ pn (fun ds ρ1 pn1 => rD ds fun z => Q z ρ1 pn1) X) : dCB rD Ts ρ pn Q X := h
theorem e_call {sp : SpD} (h : Ts ρ pn (fun ds ρ1 pn1 => sp ds pn1 (fun d pn2 => Q d ρ1 pn2) (fun c fs pn2 => X c fs ρ1 pn2)) X) : dCall sp Ts ρ pn Q X := h
theorem e_make {C0 : Addr} {sp : SpI} (h : Ts ρ pn (fun ds ρ1 pn1 => sp ds pn1 (fun fs pn2 => Q (.obj C0 fs) ρ1 pn2) (fun c fs pn2 => X c fs ρ1 pn2)) X) : dMake C0 sp Ts ρ pn Q X := h
theorem e_makeKw {C0 : Addr} {n : Nat} {sp : SpI} (h : Ts ρ pn (fun es ρ1 pn1 => es.length = n ∧ sp es pn1 (fun fs pn2 => Q (.obj C0 fs) ρ1 pn2) (fun c fs pn2 => X c fs ρ1 pn2)) X) : dMakeKw C0 n sp Ts ρ pn Q X := h
theorem e_meth {C0 : Addr} {m : Str} {sp : SpD} (h : T ρ pn (fun d ρ1 pn1 => (∃ fs, d = .obj C0 fs ∧ fs.lookup m = none) ∧ Ts ρ1 pn1 (fun ds ρ2 pn2 => sp (d :: ds) pn2 (fun z pn3 => Q z ρ2 pn3) (fun c fs pn3 => X c fs ρ2 pn3)) X) X) : dMeth C0 m sp T Ts ρ pn Q X := h
theorem e_methK {C0 : Addr} {m : Str} {sp : SpD} {n : Nat} (h : T ρ pn (fun d ρ1 pn1 => (∃ fs, d = .obj C0 fs ∧ fs.lookup m = none) ∧ Ts ρ1 pn1 (fun es ρ2 pn2 => es.length = n ∧ sp (d :: es) pn2 (fun z pn3 => Q z ρ2 pn3) (fun c fs pn3 => X c fs ρ2 pn3)) X) X) : dMethK C0 m sp n T Ts ρ pn Q X := h
theorem e_step {rD : RxD} (h : Ts ρ pn (fun ds ρ1 pn1 => rD ds pn1 (fun z pn2 => Q z ρ1 pn2) (fun c fs pn2 => X c fs ρ1 pn2)) X) : dStep rD Ts ρ pn Q X := h
theorem e_if (h : B ρ pn (fun b ρ1 pn1 => if b = true then T ρ1 pn1 Q X else U ρ1 pn1 Q X) X) : dIf B T U ρ pn Q X := h
theorem e_andV (h : T ρ pn (qB fun b ρ1 pn1 => if b = true then U ρ1 pn1 Q X else Q (.bl false) ρ1 pn1) X) : dAndV T U ρ pn Q X := h
theorem e_orV (h : T ρ pn (qB fun b ρ1 pn1 => if b = true then Q (.bl true) ρ1 pn1 else U ρ1 pn1 Q X) X) : dOrV T U ρ pn Q X := h
theorem e_notV (h : T ρ pn (qB fun b => Q (.bl (!b))) X) : dNotV T ρ pn Q X := h
theorem e_chain {rD rE : D → D → (D → Prop) → Prop} (h : T ρ pn (fun d ρ1 pn1 => U ρ1 pn1 (fun e ρ2 pn2 => rD d e fun z => qB (fun b ρ3 pn3 => if b = true then V ρ3 pn3 (fun f ρ4 pn4 => rE e f fun z => Q z ρ4 pn4) X else Q (.bl false) ρ3 pn3) z ρ2 pn2) X) X) : dChain rD rE T U V ρ pn Q X := h
theorem e_tup (h : Ts ρ pn (fun ds ρ1 pn1 => ds.length ≤ sizeLine ∧ Q (.tup ds) ρ1 pn1) X) : dTup Ts ρ pn Q X := h
theorem e_lst (h : Ts ρ pn (fun ds ρ1 pn1 => ds.length ≤ sizeLine ∧ Q (.lst ds) ρ1 pn1) X) : dLst Ts ρ pn Q X := h
theorem o_lst {Qo : SV → SL → Pn → Prop} (h : Ts ρ pn (fun ds ρ1 pn1 => ds.length ≤ sizeLine ∧ Qo (.ol ds) ρ1 pn1) X) : oLst Ts ρ pn Qo X := h
theorem e_lc {I : TDI} {vs : List Nat} {g : TDG} {TT : TDT} {TE : TDE} (h : I ρ pn (fun items ρ1 pn1 => lcW vs g TT TE items [] (wipeD ρ1 vs) pn1 fun acc ρ2 pn2 => Q (.lst acc) (wipeD ρ2 vs) pn2) X) : dLc I vs g TT TE ρ pn Q X := h
theorem e_itA {f : List D → Option (List D)} (h : Ts ρ pn (fun ds ρ1 pn1 => match f ds with
  | some ds => Ql ds ρ1 pn1
  | none => False) X) : dItA f Ts ρ pn Ql X := h
theorem e_pk (h : T ρ pn (fun d _ pn1 => d.flat.isSome = true ∧ Q d ρ pn1) X) : dPk T ρ pn Q X := h
theorem e_pkN (ha : ρ.all SV.noO = true) (h : T ρ pn (fun d _ pn1 => d.noL = true ∧ Q d ρ pn1) X) : dPkN T ρ pn Q X := ⟨ha, h⟩
theorem e_yes (h : Qb true ρ pn) : dYes ρ pn Qb X := h
/-! ### tests -/
theorem t_tst (h : T ρ pn (qB Qb) X) : dTst T ρ pn Qb X := h
theorem t_tru (h : T ρ pn (qT Qb) X) : dTru T ρ pn Qb X := h
theorem t_not (h : B ρ pn (fun b => Qb (!b)) X) : dNot B ρ pn Qb X := h
theorem t_and (h : B ρ pn (fun b ρ1 pn1 => if b = true then B' ρ1 pn1 Qb X else Qb false ρ1 pn1) X) : dAnd B B' ρ pn Qb X := h
theorem t_or (h : B ρ pn (fun b ρ1 pn1 => if b = true then Qb true ρ1 pn1 else B' ρ1 pn1 Qb X) X) : dOr B B' ρ pn Qb X := h
theorem q_bl {b : Bool} (h : Qb b ρ pn) : qB Qb (.bl b) ρ pn := h
theorem q_t {d : D} {b : Bool} (e : d.truth = some b) (h : Qb b ρ pn) : qT Qb d ρ pn := by
  unfold qT
  rw [e]
  exact h
theorem q_tb {b : Bool} (h : Qb b ρ pn) : qT Qb (.bl b) ρ pn := h
theorem if_t {b : Bool} {A C : Prop} (e : b = true) (h : A) : if b = true then A else C := by
  rw [if_pos e]; exact h
theorem if_f {b : Bool} {A C : Prop} (e : b = false) (h : C) : if b = true then A else C := by
  rw [e, if_neg Bool.false_ne_true]; exact h
theorem if_tt {A C : Prop} (h : A) : if true = true then A else C := if_t rfl h
theorem if_ff {A C : Prop} (h : C) : if false = true then A else C := if_f rfl h
theorem if_2 {b : Bool} {A C : Prop} (h : b = true → A) (h' : b = false → C) : if b = true then A else C := by
  cases b
  · exact if_ff (h' rfl)
  · exact if_tt (h rfl)
theorem if_any {b : Bool} {A : Prop} (h : A) : if b = true then A else A := by cases b <;> simpa using h
/-! ### what operations hand on -/
theorem v_add {i j : Int} {Q : D → Prop} (h : Q (.int (i + j))) : dAddA (.int i) (.int j) Q := h
theorem v_sub {i j : Int} {Q : D → Prop} (h : Q (.int (i - j))) : dSub (.int i) (.int j) Q := h
theorem v_addL {a b : List D} {Q : D → Prop} (l : a.length + b.length ≤ sizeLine) (h : Q (.lst (a ++ b))) : dAddA (.lst a) (.lst b) Q := ⟨l, h⟩
theorem v_addT {a b : List D} {Q : D → Prop} (l : a.length + b.length ≤ sizeLine) (h : Q (.tup (a ++ b))) : dAddA (.tup a) (.tup b) Q := ⟨l, h⟩
theorem v_lenL {a : List D} {Q : D → Prop} (h : Q (.int a.length)) : L1 dLen [.lst a] Q := h
theorem v_lenT {a : List D} {Q : D → Prop} (h : Q (.int a.length)) : L1 dLen [.tup a] Q := h
theorem v_tupL {a : List D} {Q : D → Prop} (h : Q (.tup a)) : L1 dTuple [.lst a] Q := h
theorem v_tupT {a : List D} {Q : D → Prop} (h : Q (.tup a)) : L1 dTuple [.tup a] Q := h
theorem v_lstL {a : List D} {Q : D → Prop} (h : Q (.lst a)) : L1 dList [.lst a] Q := h
theorem v_lstT {a : List D} {Q : D → Prop} (h : Q (.lst a)) : L1 dList [.tup a] Q := h
theorem v_pow10 {j : Int} {Q : D → Prop} (c : CPow 10 j) (h : Q (.int (10 ^ j.toNat))) : dPow (.int 10) (.int j) Q := ⟨c, h⟩
theorem intsD_map (ns : List Int) : intsD (ns.map D.int) = some ns := by
  induction ns with
  | nil => rfl
  | cons n t ih => simp [intsD, ih]
theorem boolsD_map (ns : List Bool) : boolsD (ns.map D.bl) = some ns := by
  induction ns with
  | nil => rfl
  | cons n t ih => simp [boolsD, ih]
theorem strsD_map (ns : List Str) : strsD (ns.map D.str) = some ns := by
  induction ns with
  | nil => rfl
  | cons n t ih => simp [strsD, ih]
theorem v_sumL {ns : List Int} {Q : D → Prop} (h : Q (.int ns.sum)) : L1 dSum2 [.lst (ns.map D.int)] Q := by
  show dSum2 _ _
  unfold dSum2
  rw [show (D.lst (ns.map D.int)).seq.bind intsD = some ns from intsD_map ns]
  exact h
theorem v_sumT {ns : List Int} {Q : D → Prop} (h : Q (.int ns.sum)) : L1 dSum2 [.tup (ns.map D.int)] Q := by
  show dSum2 _ _
  unfold dSum2
  rw [show (D.tup (ns.map D.int)).seq.bind intsD = some ns from intsD_map ns]
  exact h
theorem v_all {bs : List Bool} {Q : D → Prop} (h : Q (.bl (bs.all id))) : L1 dAll [.lst (bs.map D.bl)] Q := by
  show dAll _ _
  unfold dAll
  rw [show (D.lst (bs.map D.bl)).lst?.bind boolsD = some bs from boolsD_map bs]
  exact h
theorem v_maxL {ns : List Int} {Q : D → Prop} (h0 : 0 < ns.length) (h : ∀ m, m ∈ ns → (∀ y, y ∈ ns → y ≤ m) → Q (.int m)) : L1 dMaxL [.lst (ns.map D.int)] Q := by
  show dMaxL _ _
  unfold dMaxL
  rw [show (D.lst (ns.map D.int)).lst?.bind intsD = some ns from intsD_map ns]
  exact ⟨h0, h⟩
theorem atI_nat {α : Type} {xs : List α} {k : Nat} {x : α} (h : xs[k]? = some x) : atI xs (k : Int) = some x := by
  have hl := (List.getElem?_eq_some_iff.mp h).1
  simp only [atI, ixN]
  rw [if_pos (by omega), if_pos (by omega)]
  simpa using h
theorem v_ixL {ds : List D} {k : Nat} {d : D} {Q : D → Prop} (e : ds[k]? = some d) (h : Q d) : dIx (.lst ds) (.int k) Q := by
  show (match atI ds (k : Int) with | some z => Q z | none => False)
  rw [atI_nat e]
  exact h
theorem v_ixT {ds : List D} {k : Nat} {d : D} {Q : D → Prop} (e : ds[k]? = some d) (h : Q d) : dIx (.tup ds) (.int k) Q := by
  show (match atI ds (k : Int) with | some z => Q z | none => False)
  rw [atI_nat e]
  exact h
theorem rng1 {n : Nat} (h : n < 2 ^ 62) : dRange1 [.int n] = some ((List.range n).map fun i => .int (i : Int)) := by
  simp only [dRange1]
  rw [if_pos (by omega)]
  simp
theorem rng2 {a b : Int} (h1 : -(2 ^ 62) ≤ a) (h2 : b < 2 ^ 62) (h3 : a < 2 ^ 62) (h4 : -(2 ^ 62) ≤ b) : dRange2 [.int a, .int b] = some ((List.range (b - a).toNat).map fun (i : Nat) => .int (a + i)) := by
  simp only [dRange2]
  rw [if_pos (by omega)]
/-! ### turns -/
/-- a comprehension whose element is told by a function; st: the slots of a turn -/
theorem lcW_gen {vs : List Nat} {g : TDG} {TT : TDT} {TE : TDE} {ρ : SL} (st : D → SL) (p : D → Bool) (f : D → D) :
    ∀ (items acc : List D) {Q : List D → SL → Pn → Prop},
      (∀ d ∈ items, ∀ Q, Q (st d) → g d ρ Q) → (∀ d ∈ items, wipeD (st d) vs = ρ) → (∀ d ∈ items, ∀ Q : Bool → SL → Pn → Prop, Q (p d) (st d) pn → TT (st d) pn Q X0) →
      (∀ d ∈ items, p d = true → ∀ Q : QD, Q (f d) (st d) pn → TE (st d) pn Q X0) → acc.length + items.length ≤ sizeLine →
      Q (acc ++ (items.filter p).map f) ρ pn → lcW vs g TT TE items acc ρ pn Q
  | [], acc, Q, _, _, _, _, _, k => by simpa [lcW] using k
  | d :: r, acc, Q, hg, hw, ht, he, hl, k => by
    have hl' : acc.length + (r.length + 1) ≤ sizeLine := by simpa using hl
    refine hg d List.mem_cons_self _ (ht d List.mem_cons_self _ ?_)
    cases hp : p d with
    | true =>
      refine if_tt (he d List.mem_cons_self hp _ ⟨by omega, ?_⟩)
      rw [hw d List.mem_cons_self]
      refine lcW_gen st p f r (acc ++ [f d]) (fun d h => hg d (List.mem_cons_of_mem _ h)) (fun d h => hw d (List.mem_cons_of_mem _ h)) (fun d h => ht d (List.mem_cons_of_mem _ h)) (fun d h => he d (List.mem_cons_of_mem _ h)) (by simp; omega) ?_
      simpa [List.filter_cons, hp] using k
    | false =>
      refine if_ff ?_
      rw [hw d List.mem_cons_self]
      refine lcW_gen st p f r acc (fun d h => hg d (List.mem_cons_of_mem _ h)) (fun d h => hw d (List.mem_cons_of_mem _ h)) (fun d h => ht d (List.mem_cons_of_mem _ h)) (fun d h => he d (List.mem_cons_of_mem _ h)) (by omega) ?_
      simpa [List.filter_cons, hp] using k
/-- [e for i in ..] -/
theorem lc_map {i : Nat} {TE : TDE} {ρ : SL} (f : D → D) {items : List D} {Q : List D → SL → Pn → Prop} (hw : ρ.set i .un = ρ) (he : ∀ d ∈ items, ∀ Q : QD, Q (f d) (ρ.set i (.fz d)) pn → TE (ρ.set i (.fz d)) pn Q X0) (hl : items.length ≤ sizeLine)
    (k : Q (items.map f) ρ pn) : lcW [i] (gN i) dYes TE items [] ρ pn Q := by
  refine lcW_gen (fun d => ρ.set i (.fz d)) (fun _ => true) f items [] (fun d _ Q h => h) (fun d _ => by show (ρ.set i (.fz d)).set i .un = ρ; rw [List.set_set, hw]) (fun d _ Q h => h) (fun d h _ => he d h) (by simpa using hl) ?_
  rw [List.nil_append, show items.filter (fun _ => true) = items from List.filter_eq_self.mpr fun _ _ => rfl]
  exact k
/-- [e for i in .. if p] -/
theorem lc_filt {i : Nat} {TT : TDT} {TE : TDE} {ρ : SL} (p : D → Bool) (f : D → D) {items : List D} {Q : List D → SL → Pn → Prop} (hw : ρ.set i .un = ρ) (ht : ∀ d ∈ items, ∀ Q : Bool → SL → Pn → Prop, Q (p d) (ρ.set i (.fz d)) pn → TT (ρ.set i (.fz d)) pn Q X0)
    (he : ∀ d ∈ items, p d = true → ∀ Q : QD, Q (f d) (ρ.set i (.fz d)) pn → TE (ρ.set i (.fz d)) pn Q X0) (hl : items.length ≤ sizeLine)
    (k : Q ((items.filter p).map f) ρ pn) : lcW [i] (gN i) TT TE items [] ρ pn Q := by
  refine lcW_gen (fun d => ρ.set i (.fz d)) p f items [] (fun d _ Q h => h) (fun d _ => by show (ρ.set i (.fz d)).set i .un = ρ; rw [List.set_set, hw]) ht he (by simpa using hl) ?_
  simpa using k
/-- the parts of a pair -/
def D.p1 : D → D
  | .tup [a, _] => a
  | _ => .non
def D.p2 : D → D
  | .tup [_, b] => b
  | _ => .non
/-- [e for i, j in pairs if p] -/
theorem lc_pair {i j : Nat} {TT : TDT} {TE : TDE} {ρ : SL} (p : D → D → Bool) (f : D → D → D) {items : List (D × D)} {Q : List D → SL → Pn → Prop} (hw : (ρ.set j .un).set i .un = ρ) (hij : i ≠ j)
    (ht : ∀ a b, (a, b) ∈ items → ∀ Q : Bool → SL → Pn → Prop, Q (p a b) ((ρ.set i (.fz a)).set j (.fz b)) pn → TT ((ρ.set i (.fz a)).set j (.fz b)) pn Q X0)
    (he : ∀ a b, (a, b) ∈ items → p a b = true → ∀ Q : QD, Q (f a b) ((ρ.set i (.fz a)).set j (.fz b)) pn → TE ((ρ.set i (.fz a)).set j (.fz b)) pn Q X0) (hl : items.length ≤ sizeLine)
    (k : Q ((items.filter fun x => p x.1 x.2).map fun x => f x.1 x.2) ρ pn) : lcW [i, j] (gT [i, j]) TT TE (items.map fun x => .tup [x.1, x.2]) [] ρ pn Q := by
  refine lcW_gen (fun d => (ρ.set i (.fz d.p1)).set j (.fz d.p2)) (fun d => p d.p1 d.p2) (fun d => f d.p1 d.p2) _ [] (fun d h Q q => ?_) (fun d h => ?_) (fun d h => ?_) (fun d h => ?_) (by simpa using hl) ?_
  · obtain ⟨⟨a, b⟩, _, rfl⟩ := List.mem_map.mp h
    exact ⟨rfl, q⟩
  · show (((ρ.set i (.fz d.p1)).set j (.fz d.p2)).set j .un).set i .un = ρ
    rw [List.set_set, List.set_comm _ _ hij, List.set_set]
    exact hw
  · obtain ⟨⟨a, b⟩, m, rfl⟩ := List.mem_map.mp h
    exact ht a b m
  · obtain ⟨⟨a, b⟩, m, rfl⟩ := List.mem_map.mp h
    exact he a b m
  · rw [List.nil_append, List.filter_map, List.map_map]
    exact k
/-- item by item -/
inductive All2 {α β : Type} (P : α → β → Prop) : List α → List β → Prop
  | nil : All2 P [] []
  | cons {a : α} {b : β} {as : List α} {bs : List β} : P a b → All2 P as bs → All2 P (a :: as) (b :: bs)
theorem All2.length {α β : Type} {P : α → β → Prop} : ∀ {as : List α} {bs : List β}, All2 P as bs → as.length = bs.length
  | _, _, .nil => rfl
  | _, _, .cons _ t => by rw [List.length_cons, List.length_cons, t.length]
/-- draws: the pen goes on -/
theorem lc_draw {i : Nat} {TE : TDE} {ρ : SL} (P : D → D → Prop) (k : Nat) (N : Int) (hw : ρ.set i .un = ρ) :
    ∀ (items acc : List D) {pn : Pn} {Q : List D → SL → Pn → Prop},
      (∀ d ∈ items, ∀ (pn : Pn) (Q : QD), pn.i + k ≤ N → (∀ x pn', P d x → pn.i ≤ pn'.i → pn'.i ≤ pn.i + k → Q x (ρ.set i (.fz d)) pn') → TE (ρ.set i (.fz d)) pn Q X0) →
      pn.i + k * items.length ≤ N → acc.length + items.length ≤ sizeLine →
      (∀ xs pn', All2 P items xs → pn.i ≤ pn'.i → pn'.i ≤ pn.i + k * items.length → Q (acc ++ xs) ρ pn') → lcW [i] (gN i) dYes TE items acc ρ pn Q
  | [], acc, pn, Q, _, _, _, h => by
    have := h [] pn .nil (Int.le_refl _) (by simp)
    simpa [lcW] using this
  | d :: r, acc, pn, Q, he, hn, hl, h => by
    have hl' : acc.length + (r.length + 1) ≤ sizeLine := by simpa using hl
    have hn' : pn.i + k * (r.length + 1 : Nat) ≤ N := by simpa using hn
    rw [show ((r.length + 1 : Nat) : Int) = (r.length : Int) + 1 from rfl, Int.mul_add, Int.mul_one] at hn'
    have kr : (0 : Int) ≤ k * r.length := Int.mul_nonneg (by omega) (by omega)
    refine if_tt (C := lcW [i] (gN i) dYes TE r acc (wipeD (ρ.set i (.fz d)) [i]) pn Q) (he d List.mem_cons_self pn _ (by omega) fun x pn' hx i1 i2 => ⟨by omega, ?_⟩)
    rw [show wipeD (ρ.set i (.fz d)) [i] = ρ from by show (ρ.set i (.fz d)).set i .un = ρ; rw [List.set_set, hw]]
    refine lc_draw P k N hw r (acc ++ [x]) (fun d h => he d (List.mem_cons_of_mem _ h)) (by omega) (by simp; omega) fun xs pn2 hxs j1 j2 => ?_
    have := h (x :: xs) pn2 (.cons hx hxs) (by omega) (by rw [List.length_cons, show ((r.length + 1 : Nat) : Int) = (r.length : Int) + 1 from rfl, Int.mul_add, Int.mul_one]; omega)
    simpa using this
/-- a for by its invariant -/
theorem forW_inv {g : TDG} {body : TDS} {E : DE} {items : List D} (I : Nat → SL → Pn → Prop) {ρ : SL} {pn : Pn} (h0 : I 0 ρ pn)
    (step : ∀ (k : Nat) (d : D) (ρ : SL) (pn : Pn) (E' : DE), items[k]? = some d → I k ρ pn → (∀ ρ pn, I (k + 1) ρ pn → E'.nx ρ pn) → (∀ ρ pn, I (k + 1) ρ pn → E'.ct ρ pn) → (∀ ρ pn, E.nx ρ pn → E'.bk ρ pn) → E'.rt = E.rt → E'.xd = E.xd → g d ρ fun ρ1 => body E' ρ1 pn)
    (fin : ∀ ρ pn, I items.length ρ pn → E.nx ρ pn) : forW g body E items ρ pn := by
  suffices H : ∀ (r : List D) (k : Nat) (ρ : SL) (pn : Pn), items.drop k = r → k ≤ items.length → I k ρ pn → forW g body E r ρ pn from H items 0 ρ pn rfl (Nat.zero_le _) h0
  intro r
  induction r with
  | nil =>
    intro k ρ pn e hk h
    have : k = items.length := by
      have := congrArg List.length e
      simp at this
      omega
    subst this
    exact fin ρ pn h
  | cons d r ih =>
    intro k ρ pn e hk h
    have hd : items[k]? = some d := by
      have := congrArg (fun l => l[0]?) e
      simpa using this
    have hr : items.drop (k + 1) = r := by
      have := congrArg (List.drop 1) e
      simpa [List.drop_drop, Nat.add_comm] using this
    have hk' : k + 1 ≤ items.length := (List.getElem?_eq_some_iff.mp hd).1
    exact step k d ρ pn _ hd h (fun ρ pn q => ih (k + 1) ρ pn hr hk' q) (fun ρ pn q => ih (k + 1) ρ pn hr hk' q) (fun _ _ q => q) rfl rfl
end
/-! ### plain data: == and repr -/
/-- plain data, its depth and its size -/
def Ok (n b : Nat) (d : D) : Prop := ∃ p, d.py = some p ∧ d.py2 = some p ∧ p.showable = true ∧ p.canLay0 = true ∧ p.depth ≤ n ∧ p.leavesShort 1921 = true ∧ p.bulk ≤ b
def OkL (n b : Nat) (ds : List D) : Prop := ∃ ps, D.pyL ds = some ps ∧ D.py2s ds = some ps ∧ PyData.showableAll ps = true ∧ PyData.canLayAll0 ps = true ∧ PyData.depthAll ps ≤ n ∧ PyData.leavesShortAll 1921 ps = true ∧ PyData.bulkAll ps ≤ b
theorem ok_non : Ok 0 0 .non := ⟨.none, rfl, rfl, rfl, rfl, Nat.le_refl _, rfl, Nat.le_refl _⟩
theorem ok_bl (b : Bool) : Ok 0 0 (.bl b) := ⟨.bool b, rfl, rfl, rfl, rfl, Nat.le_refl _, rfl, Nat.le_refl _⟩
theorem ok_int {i : Int} (h : i.natAbs < 2 ^ 1900) : Ok 0 0 (.int i) := by
  have hl : i.natAbs.log2 < 1920 := by
    by_cases z : i.natAbs = 0
    · rw [z]; decide
    · exact Nat.lt_trans ((Nat.log2_lt z).mpr h) (by decide)
  have hs : (PyData.shown (.int i)).length ≤ 1921 := by simp only [PyData.shown]; exact PyProof.Rows.int_text_len_1921 hl
  exact ⟨.int i, rfl, rfl, by simpa only [PyData.showable, decide_eq_true_eq] using hl, rfl, Nat.le_refl _, by simpa only [PyData.leavesShort, decide_eq_true_eq] using hs, Nat.le_refl _⟩
theorem okL_nil {n : Nat} : OkL n 0 [] := ⟨[], rfl, rfl, rfl, rfl, Nat.zero_le _, rfl, Nat.le_refl _⟩
theorem okL_cons {n b c : Nat} {d : D} {ds : List D} (h : Ok n b d) (hs : OkL n c ds) : OkL n (b + 1 + c) (d :: ds) := by
  obtain ⟨p, a1, a2, a3, a4, a5, a6, a7⟩ := h
  obtain ⟨ps, c1, c2, c3, c4, c5, c6, c7⟩ := hs
  refine ⟨p :: ps, ?_, ?_, ?_, ?_, ?_, ?_, ?_⟩
  · rw [D.pyL, a1, c1]
  · rw [D.py2s, a2, c2]
  · rw [PyData.showableAll, a3, c3]; rfl
  · rw [PyData.canLayAll0, a4, c4]; rfl
  · rw [PyData.depthAll]; omega
  · rw [PyData.leavesShortAll, a6, c6]; rfl
  · rw [PyData.bulkAll]; omega
theorem Ok.lst {n b : Nat} {ds : List D} (h : OkL n b ds) : Ok (n + 1) b (.lst ds) := by
  obtain ⟨ps, c1, c2, c3, c4, c5, c6, c7⟩ := h
  refine ⟨.list ps, ?_, ?_, ?_, ?_, ?_, ?_, ?_⟩
  · rw [D.py, c1]; rfl
  · rw [D.py2, c2]
  · rw [PyData.showable, c3]
  · rw [PyData.canLay0, c4]
  · rw [PyData.depth]; omega
  · rw [PyData.leavesShort, c6]
  · rw [PyData.bulk]; omega
theorem Ok.tup {n b : Nat} {ds : List D} (h : OkL n b ds) : Ok (n + 1) b (.tup ds) := by
  obtain ⟨ps, c1, c2, c3, c4, c5, c6, c7⟩ := h
  refine ⟨.tuple ps, ?_, ?_, ?_, ?_, ?_, ?_, ?_⟩
  · rw [D.py, c1]; rfl
  · rw [D.py2, c2]
  · rw [PyData.showable, c3]
  · rw [PyData.canLay0, c4]
  · rw [PyData.depth]; omega
  · rw [PyData.leavesShort, c6]
  · rw [PyData.bulk]; omega
theorem Ok.mono {n b m c : Nat} {d : D} (h : Ok n b d) (h1 : n ≤ m) (h2 : b ≤ c) : Ok m c d := by
  obtain ⟨p, a1, a2, a3, a4, a5, a6, a7⟩ := h
  exact ⟨p, a1, a2, a3, a4, by omega, a6, by omega⟩
theorem okL_all {n b : Nat} : ∀ {ds : List D}, (∀ d ∈ ds, Ok n b d) → OkL n ((b + 1) * ds.length) ds
  | [], _ => okL_nil
  | d :: ds, h => by
    have z := okL_cons (h d List.mem_cons_self) (okL_all fun d m => h d (List.mem_cons_of_mem _ m))
    rw [List.length_cons, Nat.mul_succ, Nat.add_comm]
    exact z
theorem okL_ints {ns : List Int} (h : ∀ i ∈ ns, i.natAbs < 2 ^ 1900) : OkL 0 ns.length (ns.map D.int) := by
  have z := okL_all (n := 0) (b := 0) (ds := ns.map D.int) fun d m => by
    obtain ⟨i, hi, rfl⟩ := List.mem_map.mp m
    exact ok_int (h i hi)
  simpa using z
mutual
theorem eqv_refl : ∀ p : PyData, p.canLay0 = true → PyData.eqv p p = true
  | .none, _ => rfl
  | .bool b, _ => by simp [PyData.eqv]
  | .int i, _ => by simp [PyData.eqv]
  | .str x, _ => by simp [PyData.eqv]
  | .list xs, h => by rw [PyData.eqv]; exact eqvAll_refl xs (by rwa [PyData.canLay0] at h)
  | .tuple xs, h => by rw [PyData.eqv]; exact eqvAll_refl xs (by rwa [PyData.canLay0] at h)
  | .dict _, h => by rw [PyData.canLay0] at h; cases h
theorem eqvAll_refl : ∀ ps : List PyData, PyData.canLayAll0 ps = true → PyData.eqvAll ps ps = true
  | [], _ => rfl
  | p :: ps, h => by
    rw [PyData.canLayAll0, Bool.and_eq_true] at h
    rw [PyData.eqvAll, eqv_refl p h.1, eqvAll_refl ps h.2]
    rfl
end
theorem eqD_refl {n b : Nat} {d : D} (h : Ok n b d) (hn : n ≤ 64) : eqD? d d = some true := by
  obtain ⟨p, a1, a2, a3, a4, a5, a6, a7⟩ := h
  unfold eqD?
  have s : SeqAt.shaped p = true := by
    unfold SeqAt.shaped
    rw [a4, Bool.true_and, decide_eq_true_eq]
    omega
  simp only [a1, s, and_self, if_true, eqv_refl p a4]
theorem scal_refl : ∀ {d : D} {v : V}, d.flat = some v → scal v v = true := fun {d v} e => by
  cases d <;> first | (cases e; done) | (cases e; rfl)
theorem v_eq_same {n b : Nat} {neg : Bool} {d : D} {Q : D → Prop} (h : Ok n b d) (hn : n ≤ 64) (k : Q (.bl (!neg))) : dEqA neg d d Q := by
  unfold dEqA
  split
  · rename_i v u e1 e2
    rw [e1] at e2
    cases e2
    rw [if_pos (scal_refl e1)]
    simpa using k
  · unfold dEq
    rw [eqD_refl h hn]
    simpa using k
/-- the text of plain data -/
noncomputable def D.text (d : D) : Str := match d.py2 with
  | some p => p.shown
  | none => ""
theorem v_repr {n b : Nat} {d : D} {Q : D → Prop} (h : Ok n b d) (hn : n ≤ 60) (hb : b ≤ 8000) (k : Q (.str d.text)) : ∃ d1, [d] = [d1] ∧ dRepr d1 Q := by
  obtain ⟨p, a1, a2, a3, a4, a5, a6, a7⟩ := h
  refine ⟨d, rfl, p, a2, a3, by omega, ?_, ?_⟩
  · have z := PyData.shown_le_bulk 1921 (by omega) p a6
    rw [sizeLine_eq]
    have : (1921 + 2) * p.bulk ≤ 1923 * 8000 := Nat.mul_le_mul (Nat.le_refl _) (by omega)
    omega
  · have e : d.text = p.shown := by
      unfold D.text
      rw [a2]
    rw [← e]
    exact k
theorem v_eq_str {neg : Bool} {x : Str} {Q : D → Prop} (k : Q (.bl (!neg))) : dEqA neg (.str x) (.str x) Q := by
  show (if scal (V.str x) (V.str x) = true then Q (.bl (decide (V.str x = V.str x) != neg)) else dEq neg (.str x) (.str x) Q)
  rw [if_pos (show scal (V.str x) (V.str x) = true from rfl)]
  simpa using k
theorem v_eq_int {neg : Bool} {i j : Int} {Q : D → Prop} (k : Q (.bl (decide (i = j) != neg))) : dEqA neg (.int i) (.int j) Q := by
  show (if scal (V.int i) (V.int j) = true then Q (.bl (decide (V.int i = V.int j) != neg)) else dEq neg (.int i) (.int j) Q)
  rw [if_pos (show scal (V.int i) (V.int j) = true from rfl)]
  simpa using k
theorem eqvAll_ints : ∀ (as bs : List Int), PyData.eqvAll (as.map .int) (bs.map .int) = decide (as = bs)
  | [], [] => rfl
  | [], _ :: _ => rfl
  | _ :: _, [] => rfl
  | a :: as, b :: bs => by
    rw [List.map_cons, List.map_cons, PyData.eqvAll, PyData.eqv, eqvAll_ints as bs, Bool.eq_iff_iff]
    simp
theorem pyL_ints : ∀ ns : List Int, D.pyL (ns.map D.int) = some (ns.map .int)
  | [] => rfl
  | n :: t => by rw [List.map_cons, D.pyL, pyL_ints t]; rfl
theorem shaped_ints' (ns : List Int) : PyData.canLayAll0 (ns.map .int) = true ∧ PyData.depthAll (ns.map .int) = 0 := by
  induction ns with
  | nil => exact ⟨rfl, rfl⟩
  | cons n t ih => exact ⟨by rw [List.map_cons, PyData.canLayAll0, ih.1]; rfl, by rw [List.map_cons, PyData.depthAll, ih.2]; rfl⟩
theorem v_eq_ints {neg : Bool} {as bs : List Int} {Q : D → Prop} (k : Q (.bl (decide (as = bs) != neg))) : dEqA neg (.tup (as.map .int)) (.tup (bs.map .int)) Q := by
  show dEq neg _ _ Q
  unfold dEq eqD?
  have s : ∀ ns : List Int, SeqAt.shaped (.tuple (ns.map .int)) = true := fun ns => by
    unfold SeqAt.shaped
    rw [PyData.canLay0, (shaped_ints' ns).1, PyData.depth, (shaped_ints' ns).2]
    rfl
  simp only [D.py, pyL_ints, Option.map_some, s, and_self, if_true, PyData.eqv, eqvAll_ints]
  exact k
theorem v_eq_intsL {neg : Bool} {as bs : List Int} {Q : D → Prop} (k : Q (.bl (decide (as = bs) != neg))) : dEqA neg (.lst (as.map .int)) (.lst (bs.map .int)) Q := by
  show dEq neg _ _ Q
  unfold dEq eqD?
  have s : ∀ ns : List Int, SeqAt.shaped (.list (ns.map .int)) = true := fun ns => by
    unfold SeqAt.shaped
    rw [PyData.canLay0, (shaped_ints' ns).1, PyData.depth, (shaped_ints' ns).2]
    rfl
  simp only [D.py, pyL_ints, Option.map_some, s, and_self, if_true, PyData.eqv, eqvAll_ints]
  exact k
/-- kinds of values -/
structure Kit (K : PySem.W.Frag) : Prop where
  ib : PySem.W.kitOne K (.type "int") (.type "bool") = some false
  lt : PySem.W.kitOne K (.type "list") (.type "tuple") = some false
  tl : PySem.W.kitOne K (.type "tuple") (.type "list") = some false
end Td
end
section
set_option maxRecDepth 100000
set_option maxHeartbeats 4000000
/-! Reasoning over readings: what a step takes apart. -/
namespace Td
open PySem PySem.Spec PyProof.Rows L2 Lw
section
variable {T U V : TDE} {B B' : TDT} {Ts Us : TDA} {S1 S2 : TDS} {E : DE} {ρ : SL} {pn : Pn} {Q : QD} {X : XD} {Qb : Bool → SL → Pn → Prop} {Ql : List D → SL → Pn → Prop} {Qp : Option Int → SL → Pn → Prop} {k : D → Prop}
/-! ### sources of walks -/
def itR (f : D → Option (List D)) (d : D) (k : List D → Prop) : Prop := match f d with
  | some ds => k ds
  | none => False
theorem e_itL (h : T ρ pn (fun d ρ1 pn1 => itR D.lst? d fun ds => Ql ds ρ1 pn1) X) : dItS T ρ pn Ql X := Or.inl h
theorem e_itT (h : T ρ pn (fun d ρ1 pn1 => itR D.tup? d fun ds => Ql ds ρ1 pn1) X) : dItS T ρ pn Ql X := Or.inr (Or.inl h)
theorem i_lst {ds : List D} {k : List D → Prop} (h : k ds) : itR D.lst? (.lst ds) k := h
theorem i_tup {ds : List D} {k : List D → Prop} (h : k ds) : itR D.tup? (.tup ds) k := h
def itA (f : List D → Option (List D)) (ds : List D) (k : List D → Prop) : Prop := match f ds with
  | some ds => k ds
  | none => False
theorem e_itB {f : List D → Option (List D)} (h : Ts ρ pn (fun ds ρ1 pn1 => itA f ds fun ds => Ql ds ρ1 pn1) X) : dItA f Ts ρ pn Ql X := h
theorem i_some {f : List D → Option (List D)} {ds items : List D} {k : List D → Prop} (e : f ds = some items) (h : k items) : itA f ds k := by
  unfold itA
  rw [e]
  exact h
theorem i_rng1 {n : Nat} {k : List D → Prop} (l : n < 2 ^ 62) (h : k ((List.range n).map fun (i : Nat) => .int (i : Int))) : itA dRange1 [.int n] k := by
  have e : dRange1 [.int (n : Int)] = some ((List.range n).map fun (i : Nat) => .int (i : Int)) := rng1 l
  generalize dRange1 = f at e ⊢
  exact i_some e h
theorem i_rng2 {a b : Int} {k : List D → Prop} (l : -(2 ^ 62) ≤ a ∧ a < 2 ^ 62 ∧ -(2 ^ 62) ≤ b ∧ b < 2 ^ 62) (h : k ((List.range (b - a).toNat).map fun (i : Nat) => .int (a + i))) : itA dRange2 [.int a, .int b] k := by
  have e : dRange2 [.int a, .int b] = some ((List.range (b - a).toNat).map fun (i : Nat) => .int (a + i)) := rng2 l.1 l.2.2.2 l.2.1 l.2.2.1
  generalize dRange2 = f at e ⊢
  exact i_some e h
theorem i_zipT {as bs : List D} {k : List D → Prop} (h : k ((as.zip bs).map fun p => .tup [p.1, p.2])) : itA dZipT [.tup as, .tup bs] k := h
theorem i_zipL {as bs : List D} {k : List D → Prop} (h : k ((as.zip bs).map fun p => .tup [p.1, p.2])) : itA dZip [.lst as, .lst bs] k := h
def ownR (C0 : Addr) (fl : Str) (d : D) (k : List D → Prop) : Prop := match d with
  | .obj C1 fs => C1 = C0 ∧ (match fs.lookup fl with
    | some (.tup ds) => k ds
    | _ => False)
  | _ => False
theorem e_own {C0 : Addr} {fl : Str} (h : T ρ pn (fun d ρ1 pn1 => ownR C0 fl d fun ds => Ql ds ρ1 pn1) X) : dOwnIt C0 fl T ρ pn Ql X := h
theorem i_own {C0 : Addr} {fl : Str} {fs : List (Str × D)} {ds : List D} {k : List D → Prop} (e : fs.lookup fl = some (.tup ds)) (h : k ds) : ownR C0 fl (.obj C0 fs) k := by
  show C0 = C0 ∧ _
  rw [e]
  exact ⟨rfl, h⟩
/-! ### rows -/
theorem s_par {i j : Nat} (h : T ρ pn (fun d ρ1 pn1 => U ρ1 pn1 (fun e ρ2 pn2 => E.nx ((ρ2.set i (.fz d)).set j (.fz e)) pn2) E.xd) E.xd) : dPar2 i j (dCons T (dCons U dNil)) E ρ pn := h
def seqR (d : D) (k : List D → Prop) : Prop := match d.seq with
  | some xs => k xs
  | none => False
theorem seq_L {ds : List D} {k : List D → Prop} (h : k ds) : seqR (.lst ds) k := h
theorem seq_T {ds : List D} {k : List D → Prop} (h : k ds) : seqR (.tup ds) k := h
theorem s_par3 {i j l : Nat} {T1 T2 T3 : TDE} (h : T1 ρ pn (fun d1 ρ1 pn1 => T2 ρ1 pn1 (fun d2 ρ2 pn2 => seqR d2 fun xs => T3 ρ2 pn2 (fun d3 ρ3 pn3 => seqR d3 fun ys => E.nx (((ρ3.set i (.fz d1)).set j (.ol xs)).set l (.ol ys)) pn3) E.xd) E.xd) E.xd) : dPar3 i j l T1 T2 T3 E ρ pn := h
def appR (i : Nat) (d : D) (ρ : SL) (k : SL → Prop) : Prop := match ρ[i]? with
  | some (.ol ds) => ds.length < sizeLine ∧ k (ρ.set i (.ol (ds ++ [d])))
  | _ => False
theorem s_ap {i : Nat} {ds0 : List D} (hi : ρ[i]? = some (.ol ds0)) (h : T ρ pn (fun d ρ1 pn1 => appR i d ρ1 fun ρ2 => E.nx ρ2 pn1) E.xd) : sApp i T E ρ pn := s_app hi h
theorem ap {i : Nat} {d : D} {ds : List D} {k : SL → Prop} (e : ρ[i]? = some (.ol ds)) (l : ds.length < sizeLine) (h : k (ρ.set i (.ol (ds ++ [d])))) : appR i d ρ k := by
  unfold appR
  rw [e]
  exact ⟨l, h⟩
def selfR (T0 : Addr) (j : Nat) (f : Str) (d : D) (ρ : SL) (k : SL → Prop) : Prop := match ρ[j]? with
  | some (.oo T1 fs) => T1 = T0 ∧ fs.length < 1000 ∧ k (ρ.set j (.oo T1 (putFD f d fs)))
  | _ => False
theorem s_sf {T0 : Addr} {j : Nat} {f : Str} (h : T ρ pn (fun d ρ1 pn1 => selfR T0 j f d ρ1 fun ρ2 => E.nx ρ2 pn1) E.xd) : sSelf T0 j f T E ρ pn := h
theorem sf {T0 : Addr} {j : Nat} {f : Str} {d : D} {fs fs' : List (Str × D)} {k : SL → Prop} (e : ρ[j]? = some (.oo T0 fs)) (l : fs.length < 1000) (e2 : putFD f d fs = fs') (h : k (ρ.set j (.oo T0 fs'))) : selfR T0 j f d ρ k := by
  unfold selfR
  rw [e, e2.symm] at *
  exact ⟨rfl, l, by rw [e2]; exact h⟩
/-- x[i] = e where the list is the frame's own -/
def ixLR (j : Nat) (d e : D) (ρ : SL) (k : SL → Prop) : Prop := match ρ[j]?, e with
    | some (.ol ds), .int i => (match ixN ds.length i with
      | some m => k (ρ.set j (.ol (ds.set m d)))
      | none => False)
    | _, _ => False
theorem s_ixL {j : Nat} {ds0 : List D} (hv : U ρ pn (fun d ρ1 pn1 => ∃ ds0, ρ1[j]? = some (.ol ds0) ∧ T ρ1 pn1 (fun e ρ2 pn2 => ixLR j d e ρ2 fun ρ3 => E.nx ρ3 pn2) E.xd) E.xd)
    (m : ∀ {ρ pn} {Q Q' : QD}, (∀ d ρ pn, Q d ρ pn → Q' d ρ pn) → U ρ pn Q E.xd → U ρ pn Q' E.xd) : sIxL j T U E ρ pn :=
  m (fun d ρ1 pn1 ⟨ds0, e, h⟩ => by
    show (match ρ1[j]? with | some (.ol _) => _ | _ => False)
    rw [e]
    exact h) hv
/-! ### slices -/
def slR (d : D) (l h : Option Int) (k : D → Prop) : Prop := match d with
  | .lst ds => k (.lst (cutD ds l h))
  | .tup ds => k (.tup (cutD ds l h))
  | .str z => z.length ≤ sizeLine ∧ k (.str (cutS z l h))
  | _ => False
theorem e_sl {Tl Th : TDO'} (h : T ρ pn (fun d ρ1 pn1 => Tl ρ1 pn1 (fun l ρ2 pn2 => Th ρ2 pn2 (fun h ρ3 pn3 => slR d l h fun z => Q z ρ3 pn3) X) X) X) : dSlA T Tl Th ρ pn Q X := h
theorem sl_L {ds : List D} {l h : Option Int} (q : k (.lst (cutD ds l h))) : slR (.lst ds) l h k := q
theorem sl_T {ds : List D} {l h : Option Int} (q : k (.tup (cutD ds l h))) : slR (.tup ds) l h k := q
def pR (d : D) (k : Int → Prop) : Prop := match d with
  | .int i => k i
  | _ => False
theorem e_p (h : T ρ pn (fun d ρ1 pn1 => pR d fun i => Qp (some i) ρ1 pn1) X) : dP T ρ pn Qp X := h
theorem p_int {i : Int} {k : Int → Prop} (h : k i) : pR (.int i) k := h
theorem e_noP (h : Qp none ρ pn) : dNoP ρ pn Qp X := h
theorem cut_nat {ds : List D} {a b : Nat} (h : a ≤ ds.length) : cutD ds (some (a : Int)) (some (b : Int)) = (ds.drop a).take (b - a) := by
  unfold cutD
  rw [HT.sIx_nat, HT.sIx_nat, Nat.min_eq_left h]
  by_cases hb : b ≤ ds.length
  · rw [Nat.min_eq_left hb]
  · rw [Nat.min_eq_right (by omega), List.take_of_length_le (by simp), List.take_of_length_le (by simp; omega)]
theorem cut_from {ds : List D} {a : Nat} (h : a ≤ ds.length) : cutD ds (some (a : Int)) none = ds.drop a := by
  unfold cutD
  rw [HT.sIx_nat, HT.sIx_none, Nat.min_eq_left h, List.take_of_length_le (by simp)]
/-! ### operations -/
theorem v_cmp {p : Int → Int → Bool} {q : Str → Str → Bool} {i j : Int} (h : k (.bl (p i j))) : cmpD p q (.int i) (.int j) k := h
theorem v_fld {T0 : Addr} {f : Str} {fs : List (Str × D)} {z : D} (e : fs.lookup f = some z) (h : k z) : dFld T0 f (.obj T0 fs) k := by
  show T0 = T0 ∧ _
  rw [e]
  exact ⟨rfl, h⟩
theorem v_isN {neg : Bool} {d : D} {b : Bool} (e : (match d with | .non => !neg | _ => neg) = b) (h : k (.bl b)) : dIsN neg d .non k := by
  subst e
  exact h
theorem v_isN0 {neg : Bool} (h : k (.bl (!neg))) : dIsN neg .non .non k := h
theorem v_isi {K : PySem.W.Frag} {d c : D} {b : Bool} (h1 : d.clsOk K) {t u : Value} (e1 : d.tyv = some t) (e2 : c.clv = some u) (e3 : PySem.W.kitOne K t u = some b) (h : k (.bl b)) : L2' (dIsi K) [d, c] k := ⟨h1, t, u, b, e1, e2, e3, h⟩
theorem v_isiT {K : PySem.W.Frag} {d : D} {cs : List D} {us : List Value} {b : Bool} (h1 : d.clsOk K) {t : Value} (e1 : d.tyv = some t) (e2 : clvs cs = some us) (e3 : PySem.W.kitAny K t us = some b) (h : k (.bl b)) : L2' (dIsiT K) [d, .tup cs] k := ⟨h1, t, cs, us, b, e1, rfl, e2, e3, h⟩
theorem v_neg {i : Int} (h : k (.int (-i))) : dNegI (.int i) k := h
theorem v_revL {ds : List D} (h : k (.lst ds.reverse)) : dRevL (.lst ds) k := h
theorem v_max2 {i j : Int} (h : k (.int (max i j))) : L2' dMax2 [.int i, .int j] k := by
  show k (.int (if j > i then j else i))
  have e : (if j > i then j else i) = max i j := by split <;> omega
  rw [e]
  exact h
theorem v_intI {i : Int} (h : k (.int i)) : L1 dInt [.int i] k := h
theorem v_repT {ds : List D} {n : Nat} (h1 : ds ≠ []) (h2 : n ≤ 1000) (h3 : ds.length ≤ 1000) (h : k (.tup (List.replicate n ds).flatten)) : dRepA (.tup ds) (.int n) k := ⟨h1, by omega, by omega, h3, by simpa using h⟩
end
end Td
namespace Td
open PySem PySem.Spec PyProof.Rows L2 Lw
theorem i_rngI {j : Int} {k : List D → Prop} (l : -(2 ^ 62) ≤ j ∧ j < 2 ^ 62) (h : k ((List.range j.toNat).map fun (i : Nat) => .int (i : Int))) : itA dRange1 [.int j] k := by
  have e : dRange1 [.int j] = some ((List.range j.toNat).map fun (i : Nat) => .int (i : Int)) := by
    simp only [dRange1]
    rw [if_pos l]
    simp
  generalize dRange1 = f at e ⊢
  exact i_some e h
theorem v_ixLI {ds : List D} {i : Int} {n : Nat} {d : D} {k : D → Prop} (ei : i = n) (e : ds[n]? = some d) (h : k d) : dIx (.lst ds) (.int i) k := by
  subst ei
  exact v_ixL e h
theorem v_ixTI {ds : List D} {i : Int} {n : Nat} {d : D} {k : D → Prop} (ei : i = n) (e : ds[n]? = some d) (h : k d) : dIx (.tup ds) (.int i) k := by
  subst ei
  exact v_ixT e h
end Td

namespace Td
open PySem PySem.Spec PyProof.Rows L2 Lw
theorem if_nt {A C : Prop} (h : C) : if (!true) = true then A else C := if_f rfl h
theorem if_nf {A C : Prop} (h : A) : if (!false) = true then A else C := if_t rfl h
/-- a list or a tuple of whole numbers -/
def SqD (d : D) (ns : List Int) : Prop := d = .lst (ns.map D.int) ∨ d = .tup (ns.map D.int)
theorem sqL (ns : List Int) : SqD (.lst (ns.map D.int)) ns := .inl rfl
theorem sqT (ns : List Int) : SqD (.tup (ns.map D.int)) ns := .inr rfl
theorem w_len {d : D} {ns : List Int} {k : D → Prop} (s : SqD d ns) (h : k (.int ns.length)) : L1 dLen [d] k := by
  have e : ((ns.map D.int).length : Int) = ns.length := by rw [List.length_map]
  rcases s with rfl | rfl
  · exact v_lenL (by rw [e]; exact h)
  · exact v_lenT (by rw [e]; exact h)
theorem w_tup {d : D} {ns : List Int} {k : D → Prop} (s : SqD d ns) (h : k (.tup (ns.map D.int))) : L1 dTuple [d] k := by
  rcases s with rfl | rfl <;> exact h
theorem w_sum {d : D} {ns : List Int} {k : D → Prop} (s : SqD d ns) (h : k (.int ns.sum)) : L1 dSum2 [d] k := by
  rcases s with rfl | rfl
  · exact v_sumL h
  · exact v_sumT h
theorem w_ix {d : D} {ns : List Int} {i : Int} {n : Nat} {x : Int} {k : D → Prop} (s : SqD d ns) (ei : i = n) (e : ns[n]? = some x) (h : k (.int x)) : dIx d (.int i) k := by
  have e' : (ns.map D.int)[n]? = some (.int x) := by rw [List.getElem?_map, e]; rfl
  rcases s with rfl | rfl
  · exact v_ixLI ei e' h
  · exact v_ixTI ei e' h
/-- a cut of such a list -/
theorem w_cut {d : D} {ns : List Int} {a b : Nat} {k : D → Prop} (s : SqD d ns) (h : a ≤ ns.length) (q : ∀ d', SqD d' ((ns.drop a).take (b - a)) → k d') : slR d (some (a : Int)) (some (b : Int)) k := by
  rcases s with rfl | rfl
  · refine sl_L ?_
    rw [cut_nat (by simpa using h), ← List.map_drop, ← List.map_take]
    exact q _ (sqL _)
  · refine sl_T ?_
    rw [cut_nat (by simpa using h), ← List.map_drop, ← List.map_take]
    exact q _ (sqT _)
theorem w_from {d : D} {ns : List Int} {a : Nat} {k : D → Prop} (s : SqD d ns) (h : a ≤ ns.length) (q : ∀ d', SqD d' (ns.drop a) → k d') : slR d (some (a : Int)) none k := by
  rcases s with rfl | rfl
  · refine sl_L ?_
    rw [cut_from (by simpa using h), ← List.map_drop]
    exact q _ (sqL _)
  · refine sl_T ?_
    rw [cut_from (by simpa using h), ← List.map_drop]
    exact q _ (sqT _)
end Td

namespace Td
open PySem PySem.Spec PyProof.Rows L2 Lw
theorem w_eqI {neg : Bool} {i j : Int} {Q : D → Prop} (e : i = j) (k : Q (.bl (!neg))) : dEqA neg (.int i) (.int j) Q := v_eq_int (by rw [decide_eq_true e]; simpa using k)
theorem w_neI {neg : Bool} {i j : Int} {Q : D → Prop} (e : i ≠ j) (k : Q (.bl neg)) : dEqA neg (.int i) (.int j) Q := v_eq_int (by rw [decide_eq_false e]; simpa using k)
theorem w_eqS {neg : Bool} {d e : D} {n b : Nat} {Q : D → Prop} (h : Ok n b d) (hn : n ≤ 64) (ed : d = e) (k : Q (.bl (!neg))) : dEqA neg d e Q := by
  subst ed
  exact v_eq_same h hn k
theorem w_eqTr {as bs : List Int} {neg : Bool} {Q : D → Prop} (e : as = bs) (k : Q (.bl (!neg))) : dEqA neg (.tup (as.map .int)) (.tup (bs.map .int)) Q := v_eq_ints (by rw [decide_eq_true e]; simpa using k)
theorem if_tn {A C : Prop} (h : C) : if (true != true) = true then A else C := if_f rfl h
theorem if_fn {A C : Prop} (h : C) : if (false != false) = true then A else C := if_f rfl h
end Td
namespace Td
open PySem PySem.Spec PyProof.Rows L2 Lw
theorem i_rngDown {i : Int} {k : List D → Prop} (l : -(2 ^ 62) ≤ i ∧ i < 2 ^ 62) (h : k ((List.range (i + 1).toNat).map fun (k : Nat) => .int (i - k))) : itA dRange3 [.int i, .int (-1), .int (-1)] k := by
  have e : dRange3 [.int i, .int (-1), .int (-1)] = some ((List.range (i + 1).toNat).map fun (k : Nat) => .int (i - k)) := by
    have z := dRange3_down (i := i) (j := -1) l.1 l.2 (by decide) (by decide)
    rw [z]
    have e1 : i - (-1) = i + 1 := by omega
    rw [e1]
    congr 1
    apply List.map_congr_left
    intro k _
    congr 1
    omega
  generalize dRange3 = f at e ⊢
  exact i_some e h
theorem g_n {i : Nat} {d : D} {ρ : SL} {Q : SL → Prop} (h : Q (ρ.set i (.fz d))) : gN i d ρ Q := h
end Td
namespace Td
open PySem PySem.Spec PyProof.Rows L2 Lw
theorem w_fromT {ns : List Int} {a : Int} {n : Nat} {k : D → Prop} (ea : a = n) (h : n ≤ ns.length) (q : k (.tup ((ns.drop n).map D.int))) : slR (.tup (ns.map D.int)) (some a) none k := by
  subst ea
  refine sl_T ?_
  rw [cut_from (by simpa using h), ← List.map_drop]
  exact q
theorem w_eqNil {neg : Bool} {ds : List D} {n b : Nat} {Q : D → Prop} (h : OkL n b ds) (hn : n < 64) (k : Q (.bl (ds.isEmpty != neg))) : dEqA neg (.lst ds) (.lst []) Q := by
  show dEq neg _ _ Q
  obtain ⟨ps, c1, c2, c3, c4, c5, c6, c7⟩ := h
  unfold dEq eqD?
  have s : SeqAt.shaped (.list ps) = true := by
    unfold SeqAt.shaped
    rw [PyData.canLay0, c4, PyData.depth, Bool.true_and, decide_eq_true_eq]
    omega
  have s0 : SeqAt.shaped (.list []) = true := rfl
  have e : PyData.eqvAll ps [] = ds.isEmpty := by
    cases ds with
    | nil => rw [D.pyL] at c1; cases c1; rfl
    | cons d t =>
      rw [D.pyL] at c1
      cases q1 : d.py <;> rw [q1] at c1
      · cases c1
      · cases q2 : D.pyL t <;> rw [q2] at c1 <;> cases c1
        rfl
  simp only [D.py, c1, Option.map_some, D.pyL, s, s0, and_self, if_true, PyData.eqv, e]
  exact k
end Td
namespace Td
open PySem PySem.Spec PyProof.Rows L2 Lw
theorem v_fldE {T0 : Addr} {f : Str} {fs : List (Str × D)} {z : D} {k : D → Prop} (e : fs.lookup f = some z) (h : k z) : dFldE T0 f (.exc T0 fs) k := by
  show T0 = T0 ∧ _
  rw [e]
  exact ⟨rfl, h⟩
end Td

namespace Td
open PySem PySem.Spec PyProof.Rows L2 Lw
theorem v_listZip {as bs : List D} {k : D → Prop} (l : ((as.zip bs).map fun p => D.tup [p.1, p.2]).length < sizeLine) (h : k (.lst ((as.zip bs).map fun p => .tup [p.1, p.2]))) : dListZip [.tup as, .tup bs] k := ⟨l, h⟩
end Td
namespace Td
open PySem PySem.Spec PyProof.Rows L2 Lw
theorem big_lt : 10 ^ 200 < 2 ^ 1900 := by decide +kernel
theorem ok_small {i : Int} (h : i.natAbs ≤ 10 ^ 200) : Ok 0 0 (.int i) := ok_int (Nat.lt_of_le_of_lt h big_lt)
theorem ok_100 {i : Int} (h0 : 0 ≤ i) (h : i ≤ 1000) : Ok 0 0 (.int i) := ok_small (Nat.le_trans (show i.natAbs ≤ 1000 by omega) (by decide))
theorem okL_small {ns : List Int} (h : ∀ i ∈ ns, i.natAbs ≤ 10 ^ 200) : OkL 0 ns.length (ns.map D.int) := okL_ints fun i hi => Nat.lt_of_le_of_lt (h i hi) big_lt
end Td

namespace Td
open PySem PySem.Spec PyProof.Rows L2 Lw
theorem w_cutI {d : D} {ns : List Int} {a b : Nat} {i j : Int} {k : D → Prop} (s : SqD d ns) (h : a ≤ ns.length) (ei : i = a) (ej : j = b) (q : ∀ d', SqD d' ((ns.drop a).take (b - a)) → k d') : slR d (some i) (some j) k := by
  subst ei ej
  exact w_cut s h q
end Td
namespace Td
open PySem PySem.Spec PyProof.Rows L2 Lw
theorem w_eqLr {as bs : List Int} {neg : Bool} {Q : D → Prop} (e : as = bs) (k : Q (.bl (!neg))) : dEqA neg (.lst (as.map .int)) (.lst (bs.map .int)) Q := v_eq_intsL (by rw [decide_eq_true e]; simpa using k)
/-- x[i] = e, the list the frame's own -/
theorem s_ixC {j : Nat} {i : Int} {d : D} {E : DE} {ρ : SL} {pn : Pn} {ds : List D} {m : Nat} (e : ρ[j]? = some (.ol ds)) (em : ixN ds.length i = some m) (h : E.nx (ρ.set j (.ol (ds.set m d))) pn) : sIxL j (dC (.int i)) (dC d) E ρ pn := by
  unfold sIxL dC
  simp only [e, em]
  exact h
theorem ixN_0 {n : Nat} (h : 0 < n) : ixN n 0 = some 0 := by
  simp only [ixN]
  rw [if_pos (by omega), if_pos (by simpa using h)]
  rfl
theorem noLL_ints : ∀ ns : List Int, D.noLL (ns.map D.int) = true
  | [] => rfl
  | n :: t => by rw [List.map_cons, D.noLL, noLL_ints t]; rfl
theorem i_zipO {C0 : Addr} {fl : Str} {fs gs : List (Str × D)} {xs ys : List D} {k : List D → Prop} (e1 : fs.lookup fl = some (.tup xs)) (e2 : gs.lookup fl = some (.tup ys)) (h : k ((xs.zip ys).map fun p => .tup [p.1, p.2])) : itA (dZipO C0 fl) [.obj C0 fs, .obj C0 gs] k := by
  have e : dZipO C0 fl [.obj C0 fs, .obj C0 gs] = some ((xs.zip ys).map fun p => .tup [p.1, p.2]) := by
    simp only [dZipO, e1, e2, and_self, if_true]
  generalize dZipO C0 fl = f at e ⊢
  exact i_some e h
theorem rd_own {C : Addr} {side : D → Prop} {sp : SpD} {fs : List (Str × D)} {e : D} {pn : Pn} {Q : D → Pn → Prop} {X : Addr → List (Str × D) → Pn → Prop} (hs : side e) (h : sp [.obj C fs, e] pn Q X) : rdOwn C side sp [.obj C fs, e] pn Q X := ⟨fs, e, rfl, hs, h⟩
theorem rd_ne {C : Addr} {side : D → Prop} {sp : SpD} {fs : List (Str × D)} {e : D} {pn : Pn} {Q : D → Pn → Prop} {X : Addr → List (Str × D) → Pn → Prop} (hs : side e) (h : sp [.obj C fs, e] pn (fun z pn' => ∃ b, z = .bl b ∧ Q (.bl (!b)) pn') X) : rdNe C side sp [.obj C fs, e] pn Q X := ⟨fs, e, rfl, hs, h⟩
theorem rd_get {C : Addr} {sp : SpD} {fs : List (Str × D)} {e : D} {pn : Pn} {Q : D → Pn → Prop} {X : Addr → List (Str × D) → Pn → Prop} (h : sp [.obj C fs, e] pn Q X) : rdGet C sp [.obj C fs, e] pn Q X := ⟨fs, e, rfl, h⟩
theorem rd_len {C : Addr} {sp : SpD} {fs : List (Str × D)} {pn : Pn} {Q : D → Pn → Prop} {X : Addr → List (Str × D) → Pn → Prop} (h : sp [.obj C fs] pn (fun z pn' => ∃ i : Int, z = .int i ∧ 0 ≤ i ∧ i < 2 ^ 63 ∧ Q (.int i) pn') X) : rdLen C sp [.obj C fs] pn Q X := ⟨fs, rfl, h⟩
theorem s_augO {j : Nat} {rD : RxD} {T : TDE} {a : D} {E : DE} {ρ : SL} {pn : Pn} (e : ρ[j]? = some (.fz a)) (h : T ρ pn (fun d ρ1 pn1 => rD [a, d] pn1 (fun z pn2 => E.nx (ρ1.set j (.fz z)) pn2) (fun c fs pn2 => E.xd c fs ρ1 pn2)) E.xd) : sAugO j rD T E ρ pn := by
  unfold sAugO
  rw [e]
  exact h
end Td
namespace Td
open PySem PySem.Spec PyProof.Rows L2 Lw
theorem rho {P : SL → Pn → Prop} {ρ ρ' : SL} {pn : Pn} (e : ρ = ρ') (h : P ρ' pn) : P ρ pn := by
  subst e
  exact h
end Td
end
section
set_option maxRecDepth 100000
set_option maxHeartbeats 4000000
/-! What the top has written: how it is read. -/
namespace Td
open PySem PySem.Spec PyProof.Rows L2 Lw
/-- the data of the def that stands there -/
def fdAt (K : PySem.W.Frag) (a : Addr) : FuncData := match K.lookup a with
  | some o => (match o.data with
    | .func g => g
    | _ => PySem.W.fnOf "" "" ⟨[], [], none, [], [], none, []⟩ [] ⟨.function, [], false, false, []⟩ .none .none .none .none none .none .none)
  | none => PySem.W.fnOf "" "" ⟨[], [], none, [], [], none, []⟩ [] ⟨.function, [], false, false, []⟩ .none .none .none .none none .none .none
theorem fun_at {K : PySem.W.Frag} {x qual : Str} {st : Stmt} {f : Addr} {oc : Value} {od an : Option Addr} {osl : Array (Option Value)} {kV doc pm cdv ct : Value}
    (l : K.lookup f = some ⟨oc, od, .func (PySem.W.fnOf x qual (defArgs st) (defBody st) (defScope st) .none kV doc pm an cdv ct), osl⟩)
    (b : (PySem.W.codeIn K cdv qual && PySem.W.keepIn K (.ref f)) = true) : Fun K x qual st f (fdAt K f) := by
  obtain ⟨c, k⟩ := Bool.and_eq_true_iff.mp b
  have e : fdAt K f = PySem.W.fnOf x qual (defArgs st) (defBody st) (defScope st) .none kV doc pm an cdv ct := by
    unfold fdAt
    rw [l]
  rw [e]
  exact fun_mk l c k
/-- a look at an own error class over ValueError -/
def clsB (K : PySem.W.Frag) (C : Addr) : Bool := match K.lookup C with
  | some ⟨.type "type", _, .cls d, sl⟩ => (match d.mro, sl.toList with
    | .ref D :: bm, [_, _, _, _, some (.builtin n), _] => D == C && (n == "ValueError.__new__" && (!d.hasDel && (d.hasDict && PySem.HandSPX.refsVE bm)))
    | _, _ => false)
  | _ => false
theorem clsB_of {K : PySem.W.Frag} {C : Addr} (q : clsB K C = true) :
    ∃ nm q N bs bm sn sub ab col dd k0 k1 k2 k3 k5, K.lookup C = some (excClassObj nm q C N bs bm true sn sub ab col dd k0 k1 k2 k3 k5 "ValueError.__new__") ∧ PySem.HandSPX.refsVE bm = true := by
  unfold clsB at q
  split at q
  · rename_i dd d sl ho
    split at q
    · rename_i D bm k0 k1 k2 k3 n k5 hm hs
      simp only [Bool.and_eq_true, beq_iff_eq, Bool.not_eq_true'] at q
      obtain ⟨rfl, rfl, hdel, hdi, hr⟩ := q
      obtain ⟨nm, bs, mro, ns, qn, hd, sn, sub, ab, col, del⟩ := d
      dsimp only at hm hdel hdi
      subst hm hdel hdi
      have hsl : sl = #[k0, k1, k2, k3, some (.builtin "ValueError.__new__"), k5] := by
        obtain ⟨l⟩ := sl
        simp only at hs
        rw [hs]
      subst hsl
      exact ⟨nm, qn, ns, bs, bm, sn, sub, ab, col, dd, k0, k1, k2, k3, k5, ho, hr⟩
    · cases q
  · cases q
def exB (K : PySem.W.Frag) (C : Addr) : Bool :=
  PySem.W.findIn K (.ref C) "__getattribute__" == some (some (.builtin "BaseException.__getattribute__")) && (PySem.W.findIn K (.ref C) "__getattr__" == some none && (PySem.W.subIn K (.ref C) (.type "BaseException") == some true && (PySem.W.hasDictIn K C &&
  (PySem.W.findIn K (.ref C) "__class__" == some (some (.builtin "object.__class__")) && (PySem.W.specialIn K (.builtin "object.__class__") "__get__" == some (some (.builtin "getset_descriptor.__get__")) && (PySem.W.takesIn K (.builtin "object.__class__") == some true && PySem.W.mroIn K C (.type "object") == some true))))))
theorem exB_of {K : PySem.W.Frag} {C : Addr} (q : exB K C = true) : ExcC K C := by
  unfold exB at q
  simp only [Bool.and_eq_true, beq_iff_eq] at q
  obtain ⟨h1, h2, h3, h4, h5, h6, h7, h8⟩ := q
  exact ⟨h1, h2, h3, h4, h5, h6, h7, h8⟩
def oxB (K : PySem.W.Frag) (C fI : Addr) : Bool :=
  clsB K C && (exB K C && (PySem.W.findIn K (.ref C) "__setattr__" == some (some (.builtin "object.__setattr__")) && (PySem.W.typeIn K (.ref C) == some (.type "type") && (PySem.W.keepIn K (.ref C) &&
  (PySem.W.findIn K (.ref C) "__init__" == some (some (.ref fI)) && PySem.W.typeIn K (.ref fI) == some (.type "function"))))))
theorem oxB_of {K : PySem.W.Frag} {C fI : Addr} (q : oxB K C fI = true) : ExK K C ∧ PySem.W.findIn K (.ref C) "__init__" = some (some (.ref fI)) ∧ PySem.W.typeIn K (.ref fI) = some (.type "function") := by
  unfold oxB at q
  simp only [Bool.and_eq_true, beq_iff_eq] at q
  obtain ⟨h1, h2, h3, h4, h5, h6, h7⟩ := q
  have e := exB_of h2
  exact ⟨⟨⟨clsB_of h1, h3, e.hs, h4, h5⟩, e⟩, h6, h7⟩
section
variable {P : Program} {w : World} {K : PySem.W.Frag} {mg : Str → Option Value} {base : Heap} {nm f g qual : Str} {st : Stmt} {C fI : Addr} {fd : FuncData}
theorem cl1_mk (q : oxB K C fI = true) (no : (PySem.W.findIn K (.ref C) f == some none) = true) (gl : mg nm = some (.ref C)) (F : Fun K "__init__" qual st fI fd)
    (ok : OexC K C → PySem.W.findIn K (.ref C) f = some none → FnOk P w K mg base CX0 1 fI fd ["self", f] (spI1 C f))
    (hb : ∀ (kV doc pm : Value) (an : Option Addr) (cdv ct x v : Value), PySem.bindArgs (PySem.W.fnOf "__init__" qual (defArgs st) (defBody st) (defScope st) .none kV doc pm an cdv ct) ⟨[x, v], []⟩ = pure ([("self", x), (f, v)] : List (Str × Value)))
    (hk : ∀ (kV doc pm : Value) (an : Option Addr) (cdv ct x v : Value), PySem.bindArgs (PySem.W.fnOf "__init__" qual (defArgs st) (defBody st) (defScope st) .none kV doc pm an cdv ct) ⟨[x], [(f, v)]⟩ = pure ([("self", x), (f, v)] : List (Str × Value))) :
    Cl1 P w K mg base nm f C fI fd := by
  obtain ⟨e, h6, h7⟩ := oxB_of q
  have no' := beq_iff_eq.mp no
  have fn := ok e.toOexC no'
  obtain ⟨oc, od, kV, doc, pm, an, cdv, ct, osl, rfl, lk, hcd⟩ := F.ex
  exact { toExK := e, gl := gl, ini := h6, typ := h7, fn := fn, bp := fun s x v => .of_eq (hb _ _ _ _ _ _ x v), bk := fun s x v => .of_eq (hk _ _ _ _ _ _ x v), no := no' }
theorem cl2_mk (q : oxB K C fI = true) (no : (PySem.W.findIn K (.ref C) f == some none) = true) (no2 : (PySem.W.findIn K (.ref C) g == some none) = true) (gl : mg nm = some (.ref C)) (F : Fun K "__init__" qual st fI fd)
    (ok : OexC K C → PySem.W.findIn K (.ref C) f = some none → PySem.W.findIn K (.ref C) g = some none → FnOk P w K mg base CX0 1 fI fd ["self", f, g] (spI2 C f g))
    (hb : ∀ (kV doc pm : Value) (an : Option Addr) (cdv ct x v u : Value), PySem.bindArgs (PySem.W.fnOf "__init__" qual (defArgs st) (defBody st) (defScope st) .none kV doc pm an cdv ct) ⟨[x, v, u], []⟩ = pure ([("self", x), (f, v), (g, u)] : List (Str × Value)))
    (hk : ∀ (kV doc pm : Value) (an : Option Addr) (cdv ct x v u : Value), PySem.bindArgs (PySem.W.fnOf "__init__" qual (defArgs st) (defBody st) (defScope st) .none kV doc pm an cdv ct) ⟨[x], [(f, v), (g, u)]⟩ = pure ([("self", x), (f, v), (g, u)] : List (Str × Value)))
    (hq : ∀ (kV doc pm : Value) (an : Option Addr) (cdv ct x v u : Value), PySem.bindArgs (PySem.W.fnOf "__init__" qual (defArgs st) (defBody st) (defScope st) .none kV doc pm an cdv ct) ⟨[x], [(g, u), (f, v)]⟩ = pure ([("self", x), (f, v), (g, u)] : List (Str × Value))) :
    Cl2 P w K mg base nm f g C fI fd := by
  obtain ⟨e, h6, h7⟩ := oxB_of q
  have no' := beq_iff_eq.mp no
  have no2' := beq_iff_eq.mp no2
  have fn := ok e.toOexC no' no2'
  obtain ⟨oc, od, kV, doc, pm, an, cdv, ct, osl, rfl, lk, hcd⟩ := F.ex
  exact { toExK := e, gl := gl, ini := h6, typ := h7, fn := fn, bp := fun s x v u => .of_eq (hb _ _ _ _ _ _ x v u), bk := fun s x v u => .of_eq (hk _ _ _ _ _ _ x v u), bq := fun s x v u => .of_eq (hq _ _ _ _ _ _ x v u), no := no', no2 := no2' }
end

section
variable {K : PySem.W.Frag} {x qual : Str} {params : Arguments} {body : List Stmt} {scope : Scope} {f : Addr} {oc : Value} {od an : Option Addr} {osl : Array (Option Value)} {dV kV doc pm cdv ct : Value} {dvs : List V} {kws : List (Str × V)} {fd : FuncData} {ps ks : List Str} {n : Nat} {is : List Nat}
theorem funD_at (l : K.lookup f = some ⟨oc, od, .func (PySem.W.fnOf x qual params body scope dV kV doc pm an cdv ct), osl⟩)
    (b : (PySem.W.codeIn K cdv qual && PySem.W.keepIn K (.ref f)) = true) (hd : DflV K dV dvs) : FunD K x qual params body scope dvs [] f (fdAt K f) := by
  obtain ⟨c, k⟩ := Bool.and_eq_true_iff.mp b
  have e : fdAt K f = PySem.W.fnOf x qual params body scope dV kV doc pm an cdv ct := by
    unfold fdAt
    rw [l]
  exact ⟨⟨oc, od, dV, kV, doc, pm, an, cdv, ct, osl, e, by rw [e]; exact l, c, hd, .inl rfl⟩, k⟩
theorem kb_of (F : FunD K x qual params body scope [] kws f fd) (h : ∀ (kV doc pm : Value) (an : Option Addr) (cdv ct : Value) (us ws : List Value), us.length = n → ws.length = ks.length → bindArgs (PySem.W.fnOf x qual params body scope .none kV doc pm an cdv ct) ⟨us, ks.zip ws⟩ = pure (ps.zip (pickL is (us ++ ws)))) :
    ∀ (s : Shared) (us ws : List Value), K.In s.heap → us.length = n → ws.length = ks.length → BindsTo s fd ⟨us, ks.zip ws⟩ (ps.zip (pickL is (us ++ ws))) := by
  intro s us ws _ l1 l2
  obtain ⟨oc, od, dV, kV, doc, pm, an, cdv, ct, osl, rfl, lk, hcd, hD, hK⟩ := F.ex
  rcases hD with ⟨_, rfl⟩ | ⟨e, _⟩
  · exact .of_eq (h kV doc pm an cdv ct us ws l1 l2)
  · exact absurd rfl e
theorem kbI_of (F : FunD K x qual params body scope dvs kws f fd) (hd : dvs ≠ []) (h : ∀ (T : Addr) (kV doc pm : Value) (an : Option Addr) (cdv ct : Value) (x1 : Value) (ws its : List Value), ws.length = ks.length → its.length = dvs.length →
      ∃ k, bindArgs (PySem.W.fnOf x qual params body scope (.ref T) kV doc pm an cdv ct) ⟨[x1], ks.zip ws⟩ = seqItems? (.ref T) >>= k ∧ k (some its.toArray) = pure (ps.zip (x1 :: pickL is ws))) :
    ∀ (s : Shared) (x1 : Value) (ws : List Value), K.In s.heap → ws.length = ks.length → BindsTo s fd ⟨[x1], ks.zip ws⟩ (ps.zip (x1 :: pickL is ws)) := by
  intro s x1 ws X l2
  obtain ⟨oc, od, dV, kV, doc, pm, an, cdv, ct, osl, rfl, lk, hcd, hD, hK⟩ := F.ex
  rcases hD with ⟨e, _⟩ | ⟨_, T, o, its, m, rfl, lT, oT, rT⟩
  · exact absurd e hd
  · obtain ⟨k, e1, e2⟩ := h T kV doc pm an cdv ct x1 ws its l2 rT.length.symm
    refine BindsTo.of_looks fun M => ?_
    rw [e1]
    exact looks_items X lT oT (.of_pure e2)
theorem kbIN_of (F : FunD K x qual params body scope [] kws f fd) (h : ∀ (kV doc pm : Value) (an : Option Addr) (cdv ct : Value) (x1 : Value) (ws : List Value), ws.length = ks.length →
      bindArgs (PySem.W.fnOf x qual params body scope .none kV doc pm an cdv ct) ⟨[x1], ks.zip ws⟩ = pure (ps.zip (x1 :: pickL is ws))) :
    ∀ (s : Shared) (x1 : Value) (ws : List Value), K.In s.heap → ws.length = ks.length → BindsTo s fd ⟨[x1], ks.zip ws⟩ (ps.zip (x1 :: pickL is ws)) := by
  intro s x1 ws _ l2
  obtain ⟨oc, od, dV, kV, doc, pm, an, cdv, ct, osl, rfl, lk, hcd, hD, hK⟩ := F.ex
  rcases hD with ⟨_, rfl⟩ | ⟨e, _⟩
  · exact .of_eq (h kV doc pm an cdv ct x1 ws l2)
  · exact absurd rfl e
theorem vals_nil {us : List Value} (h : Vals [] us) : us = [] := by cases h; rfl
end
end Td
end
section
set_option maxRecDepth 100000
set_option maxHeartbeats 4000000
namespace G50
open PySem PySem.Spec PyProof.Rows L2 Lw Td
def top (i : Nat) : Stmt := PySem.Challenge.pw_stayhouse_k50_lines_reckoned.main.body.getD i (.Pass ⟨0, 0, 0, 0⟩)
structure Txt (mg : Str → Option Value) : Prop where
  n_all : mg "all" = none
  n_bool : mg "bool" = none
  n_int : mg "int" = none
  n_isinstance : mg "isinstance" = none
  n_iter : mg "iter" = none
  n_len : mg "len" = none
  n_list : mg "list" = none
  n_max : mg "max" = none
  n_range : mg "range" = none
  n_repr : mg "repr" = none
  n_sum : mg "sum" = none
  n_tuple : mg "tuple" = none
  n_zip : mg "zip" = none
  g_MOST_SUMS : ∃ t, mg "MOST_SUMS" = some (.int (6) t)
structure Er where
  StayError : Addr
  BadLines : Addr
  BadNumber : Addr
  Lines : Addr
structure EcF (K : PySem.W.Frag) (mg : Str → Option Value) (nm : Str) (C : Addr) : Prop where
  gl : mg nm = some (.ref C)
  lk : (K.lookup C).isSome = true
  ex : ExcC K C
structure Fa_Lines (K : PySem.W.Frag) (mg : Str → Option Value) (Z : Er) : Prop where
  gl : mg "Lines" = some (.ref Z.Lines)
  lk : (K.lookup Z.Lines).isSome = true
  cl : Cls K Z.Lines
  ci : ClsI K Z.Lines
  sf : PySem.W.selfFirst K Z.Lines = true
  ne : PySem.W.findIn K (.ref Z.Lines) "__ne__" = some (some (.builtin "object.__ne__"))
  sb : PySem.W.subIn K (.ref Z.Lines) (.type "object") = some true
  noi : Ty.NoI K Z.Lines "add"
  na_sums : NoAttr K Z.Lines "sums"
  na_caps : NoAttr K Z.Lines "caps"
section
variable {P : Program} {w : World} {K : PySem.W.Frag} {mg : Str → Option Value} {base : Heap}
def S__law_pick (K : PySem.W.Frag) (Z : Er) : SpD := sPickD
theorem sc__law_chain : FnScope [("_law_pen_here" : Str), ("_law_many" : Str), ("_law_some" : Str), ("_law_first" : Str), ("_law_at" : Str)] [("_law_pen_here" : Str)] (defScope (top 37)) := ⟨rfl, rfl, rfl, by decide +kernel, rfl, by decide +kernel, by decide +kernel⟩
def T__law_chain (K : PySem.W.Frag) (Z : Er) : TDS := dSeq (dSet 1 (dCall (S__law_pick K Z) (dCons (dVar 0) (dCons (dLst (dCons (dC (.int 1)) (dCons (dC (.int 2)) (dCons (dC (.int 2)) (dCons (dC (.int 3)) (dCons (dC (.int 3)) (dCons (dC (.int 4)) (dCons (dC (.int 6)) (dNil))))))))) (dNil))))) (dSeq (dSet 2 (dLst (dCons (dC (.int 0)) (dCons (dC (.int 1)) (dCons (dC (.int 2)) (dCons (dC (.int 5)) (dCons (dC (.int 10)) (dCons (dOp dPow (dC (.int 10)) (dC (.int 29))) (dNil))))))))) (dSeq (dSet 3 (dLc (dItA dRange1 (dCons (dVar 1) (dNil))) [4] (gN 4) (dYes) (dCall (S__law_pick K Z) (dCons (dVar 0) (dCons (dVar 2) (dNil)))))) (dRet (dTup (dCons (dVar 3) (dCons (dLc (dItA dRange1 (dCons (dOp dSub (dVar 1) (dC (.int 1))) (dNil))) [4] (gN 4) (dYes) (dCall (S__law_pick K Z) (dCons (dVar 0) (dCons (dLst (dCons (dC (.int 0)) (dCons (dC (.int 0)) (dCons (dC (.int 1)) (dCons (dC (.int 3)) (dCons (dC (.int 10)) (dCons (dOp dPow (dC (.int 10)) (dC (.int 30))) (dNil)))))))) (dNil))))) (dNil)))))))
def S__law_chain (K : PySem.W.Frag) (Z : Er) : SpD := bodyD [("_law_pen_here" : Str), ("_law_many" : Str), ("_law_some" : Str), ("_law_first" : Str), ("_law_at" : Str)] 1 (T__law_chain K Z)
theorem c__law_chain {Z : Er} {f : Addr} {fd : FuncData} (F : FunD K "_law_chain" "_law_chain" (defArgs (top 37)) (defBody (top 37)) (defScope (top 37)) [] [] f fd) (T : Txt mg) (hN : base.NoDigits) {f__law_pick : Addr} {d__law_pick : FuncData} (G__law_pick : FD P w K mg base "_law_pick" 2 [("_law_pen_here" : Str), ("_law_some" : Str)] (S__law_pick K Z) f__law_pick d__law_pick) : FnOk P w K mg base (L2.CX P w) 3 f fd [("_law_pen_here" : Str)] (spD K (S__law_chain K Z)) := by
  refine fn_F F sc__law_chain rfl fun cdv A outer s H E pp G0 H0 hpc hr tk => ?_
  have hu := hr.units
  exact pds_cons (pds_set (i := 1) sc__law_chain.nd rfl (by first | exact Or.inl rfl | exact Or.inr rfl) (pd_call G__law_pick rfl (hr.mono (by omega)) (by rfl) (fun σ => passAt tk σ) (pda_cons (pd_var (pv 0)) (pda_cons (pd_lst (pda_cons (pd_cst pe_int fun _ _ _ => .int _) (pda_cons (pd_cst pe_int fun _ _ _ => .int _) (pda_cons (pd_cst pe_int fun _ _ _ => .int _) (pda_cons (pd_cst pe_int fun _ _ _ => .int _) (pda_cons (pd_cst pe_int fun _ _ _ => .int _) (pda_cons (pd_cst pe_int fun _ _ _ => .int _) (pda_cons (pd_cst pe_int fun _ _ _ => .int _) (pda_nil))))))))) (pda_nil))))) (pds_cons (pds_set (i := 2) sc__law_chain.nd rfl (by first | exact Or.inl rfl | exact Or.inr rfl) (pd_lst (pda_cons (pd_cst pe_int fun _ _ _ => .int _) (pda_cons (pd_cst pe_int fun _ _ _ => .int _) (pda_cons (pd_cst pe_int fun _ _ _ => .int _) (pda_cons (pd_cst pe_int fun _ _ _ => .int _) (pda_cons (pd_cst pe_int fun _ _ _ => .int _) (pda_cons (pd_op op_pow r_pow (pd_cst pe_int fun _ _ _ => .int _) (pd_cst pe_int fun _ _ _ => .int _)) (pda_nil))))))))) (pds_cons (pds_setLc (own := [("_law_at", 4)]) (by rfl) sc__law_chain.nd (i := 3) rfl rfl (by rfl) (by decide) (pdi_range1 (by rfl) T.n_range (pda_cons (pd_var (pv 1)) (pda_nil))) (blkOk_by (N := [("_law_pen_here" : Str), ("_law_many" : Str), ("_law_some" : Str), ("_law_first" : Str), ("_law_at" : Str)]) (sc := defScope (top 37)) (own := [("_law_at", 4)]) (by decide +kernel)) (fun _ _ _ _ _ => pdg_name (i := 4) sc__law_chain.nd rfl (by first | exact Or.inl rfl | exact Or.inr rfl)) (fun _ _ _ _ _ => pdts_nil) (fun _ _ _ _ _ => pd_call G__law_pick rfl (hr.mono (by omega)) (by rfl) (fun _ => pass_no) (pda_cons (pd_var (pv 0)) (pda_cons (pd_var (pv 2)) (pda_nil))))) (pds_one (pds_ret (pd_tup (pda_cons (pd_var (pv 3)) (pda_cons (pd_lc (own := [("_law_at", 4)]) (by rfl) sc__law_chain.nd (by decide) (pdi_range1 (by rfl) T.n_range (pda_cons (pd_op op_sub r_sub (pd_var (pv 1)) (pd_cst pe_int fun _ _ _ => .int _)) (pda_nil))) (blkOk_by (N := [("_law_pen_here" : Str), ("_law_many" : Str), ("_law_some" : Str), ("_law_first" : Str), ("_law_at" : Str)]) (sc := defScope (top 37)) (own := [("_law_at", 4)]) (by decide +kernel)) (fun _ _ _ _ _ => pdg_name (i := 4) sc__law_chain.nd rfl (by first | exact Or.inl rfl | exact Or.inr rfl)) (fun _ _ _ _ _ => pdts_nil) (fun _ _ _ _ _ => pd_call G__law_pick rfl (hr.mono (by omega)) (by rfl) (fun _ => pass_no) (pda_cons (pd_var (pv 0)) (pda_cons (pd_lst (pda_cons (pd_cst pe_int fun _ _ _ => .int _) (pda_cons (pd_cst pe_int fun _ _ _ => .int _) (pda_cons (pd_cst pe_int fun _ _ _ => .int _) (pda_cons (pd_cst pe_int fun _ _ _ => .int _) (pda_cons (pd_cst pe_int fun _ _ _ => .int _) (pda_cons (pd_op op_pow r_pow (pd_cst pe_int fun _ _ _ => .int _) (pd_cst pe_int fun _ _ _ => .int _)) (pda_nil)))))))) (pda_nil))))) (pda_nil))))))))
theorem sc_is_sequence : FnScope [("value" : Str)] [("value" : Str)] (defScope (top 4)) := ⟨rfl, rfl, rfl, by decide +kernel, rfl, by decide +kernel, by decide +kernel⟩
def T_is_sequence (K : PySem.W.Frag) (Z : Er) : TDS := dRet (dCB (L2' (dIsiT K)) (dCons (dVar 0) (dCons (dTup (dCons (dC (.ty "list")) (dCons (dC (.ty "tuple")) (dNil)))) (dNil))))
def S_is_sequence (K : PySem.W.Frag) (Z : Er) : SpD := bodyD [("value" : Str)] 1 (T_is_sequence K Z)
theorem c_is_sequence {Z : Er} {f : Addr} {fd : FuncData} (F : FunD K "is_sequence" "is_sequence" (defArgs (top 4)) (defBody (top 4)) (defScope (top 4)) [] [] f fd) (T : Txt mg) (hN : base.NoDigits)  : FnOk P w K mg base (L2.CX P w) 1 f fd [("value" : Str)] (spD K (S_is_sequence K Z)) := by
  refine fn_F F sc_is_sequence rfl fun cdv A outer s H E pp G0 H0 hpc hr tk => ?_
  have hu := hr.units
  exact pds_one (pds_ret (pd_callB call_isiT r_isiT (by rfl) T.n_isinstance (by decide +kernel) (pda_cons (pd_var (pv 0)) (pda_cons (pd_tup (pda_cons (pd_cst (pe_bltn (v := .ty "list") (by rfl) T.n_list (by decide +kernel) rfl) fun _ _ _ => .ty _) (pda_cons (pd_cst (pe_bltn (v := .ty "tuple") (by rfl) T.n_tuple (by decide +kernel) rfl) fun _ _ _ => .ty _) (pda_nil)))) (pda_nil)))))
theorem sc_is_integer : FnScope [("value" : Str)] [("value" : Str)] (defScope (top 1)) := ⟨rfl, rfl, rfl, by decide +kernel, rfl, by decide +kernel, by decide +kernel⟩
def T_is_integer (K : PySem.W.Frag) (Z : Er) : TDS := dRet (dAndV (dCB (L2' (dIsi K)) (dCons (dVar 0) (dCons (dC (.ty "int")) (dNil)))) (dNotV (dCB (L2' (dIsi K)) (dCons (dVar 0) (dCons (dC (.ty "bool")) (dNil))))))
def S_is_integer (K : PySem.W.Frag) (Z : Er) : SpD := bodyD [("value" : Str)] 1 (T_is_integer K Z)
theorem c_is_integer {Z : Er} {f : Addr} {fd : FuncData} (F : FunD K "is_integer" "is_integer" (defArgs (top 1)) (defBody (top 1)) (defScope (top 1)) [] [] f fd) (T : Txt mg) (hN : base.NoDigits)  : FnOk P w K mg base (L2.CX P w) 1 f fd [("value" : Str)] (spD K (S_is_integer K Z)) := by
  refine fn_F F sc_is_integer rfl fun cdv A outer s H E pp G0 H0 hpc hr tk => ?_
  have hu := hr.units
  exact pds_one (pds_ret (pd_and (pd_callB call_isi r_isi (by rfl) T.n_isinstance (by decide +kernel) (pda_cons (pd_var (pv 0)) (pda_cons (pd_cst (pe_bltn (v := .ty "int") (by rfl) T.n_int (by decide +kernel) rfl) fun _ _ _ => .ty _) (pda_nil)))) (pd_one (pd_not (pd_callB call_isi r_isi (by rfl) T.n_isinstance (by decide +kernel) (pda_cons (pd_var (pv 0)) (pda_cons (pd_cst (pe_bltn (v := .ty "bool") (by rfl) T.n_bool (by decide +kernel) rfl) fun _ _ _ => .ty _) (pda_nil))))))))
theorem sc_is_amount : FnScope [("value" : Str)] [("value" : Str)] (defScope (top 3)) := ⟨rfl, rfl, rfl, by decide +kernel, rfl, by decide +kernel, by decide +kernel⟩
def T_is_amount (K : PySem.W.Frag) (Z : Er) : TDS := dRet (dAndV (dCall (S_is_integer K Z) (dCons (dVar 0) (dNil))) (dOp (cmpD (fun i j => decide (j ≤ i)) fun a b => !ltS a b) (dVar 0) (dC (.int 0))))
def S_is_amount (K : PySem.W.Frag) (Z : Er) : SpD := bodyD [("value" : Str)] 1 (T_is_amount K Z)
theorem c_is_amount {Z : Er} {f : Addr} {fd : FuncData} (F : FunD K "is_amount" "is_amount" (defArgs (top 3)) (defBody (top 3)) (defScope (top 3)) [] [] f fd) (T : Txt mg) (hN : base.NoDigits) {f_is_integer : Addr} {d_is_integer : FuncData} (G_is_integer : FD P w K mg base "is_integer" 1 [("value" : Str)] (S_is_integer K Z) f_is_integer d_is_integer) : FnOk P w K mg base (L2.CX P w) 2 f fd [("value" : Str)] (spD K (S_is_amount K Z)) := by
  refine fn_F F sc_is_amount rfl fun cdv A outer s H E pp G0 H0 hpc hr tk => ?_
  have hu := hr.units
  exact pds_one (pds_ret (pd_and (pd_call G_is_integer rfl (hr.mono (by omega)) (by rfl) (fun σ => passAt tk σ) (pda_cons (pd_var (pv 0)) (pda_nil))) (pd_one (pd_cmp op_geA r_cmp (pd_var (pv 0)) (pd_cst pe_int fun _ _ _ => .int _) (nomark _)))))
theorem sc_are_amounts : FnScope [("value" : Str), ("number" : Str)] [("value" : Str)] (defScope (top 23)) := ⟨rfl, rfl, rfl, by decide +kernel, rfl, by decide +kernel, by decide +kernel⟩
def T_are_amounts (K : PySem.W.Frag) (Z : Er) : TDS := dRet (dAndV (dCall (S_is_sequence K Z) (dCons (dVar 0) (dNil))) (dCB (L1 dAll) (dCons (dLc (dItS (dVar 0)) [1] (gN 1) (dYes) (dCall (S_is_amount K Z) (dCons (dVar 1) (dNil)))) (dNil))))
def S_are_amounts (K : PySem.W.Frag) (Z : Er) : SpD := bodyD [("value" : Str), ("number" : Str)] 1 (T_are_amounts K Z)
theorem c_are_amounts {Z : Er} {f : Addr} {fd : FuncData} (F : FunD K "are_amounts" "are_amounts" (defArgs (top 23)) (defBody (top 23)) (defScope (top 23)) [] [] f fd) (T : Txt mg) (hN : base.NoDigits) {f_is_sequence : Addr} {d_is_sequence : FuncData} (G_is_sequence : FD P w K mg base "is_sequence" 1 [("value" : Str)] (S_is_sequence K Z) f_is_sequence d_is_sequence) {f_is_amount : Addr} {d_is_amount : FuncData} (G_is_amount : FD P w K mg base "is_amount" 2 [("value" : Str)] (S_is_amount K Z) f_is_amount d_is_amount) : FnOk P w K mg base (L2.CX P w) 3 f fd [("value" : Str)] (spD K (S_are_amounts K Z)) := by
  refine fn_F F sc_are_amounts rfl fun cdv A outer s H E pp G0 H0 hpc hr tk => ?_
  have hu := hr.units
  exact pds_one (pds_ret (pd_and (pd_call G_is_sequence rfl (hr.mono (by omega)) (by rfl) (fun σ => passAt tk σ) (pda_cons (pd_var (pv 0)) (pda_nil))) (pd_one (pd_callB (cr_all rfl) r_all (by rfl) T.n_all (by decide +kernel) (pda_cons (pd_lc (own := [("number", 1)]) (by rfl) sc_are_amounts.nd (by decide) (pdi_seq (pd_var (pv 0)) rfl) (blkOk_by (N := [("value" : Str), ("number" : Str)]) (sc := defScope (top 23)) (own := [("number", 1)]) (by decide +kernel)) (fun _ _ _ _ _ => pdg_name (i := 1) sc_are_amounts.nd rfl (by first | exact Or.inl rfl | exact Or.inr rfl)) (fun _ _ _ _ _ => pdts_nil) (fun _ _ _ _ _ => pd_call G_is_amount rfl (hr.mono (by omega)) (by rfl) (fun _ => pass_no) (pda_cons (pd_var (pv 1)) (pda_nil)))) (pda_nil))))))
theorem sc_Lines___init__ : FnScope [("self" : Str), ("sums" : Str), ("caps" : Str)] [("self" : Str), ("sums" : Str), ("caps" : Str)] (defScope (inClass (top 26) 0)) := ⟨rfl, rfl, rfl, by decide +kernel, rfl, by decide +kernel, by decide +kernel⟩
def T_Lines___init__ (K : PySem.W.Frag) (Z : Er) : TDS := dSeq (dIfS (dOr (dNot (dTru (dCall (S_are_amounts K Z) (dCons (dVar 1) (dNil))))) (dNot (dTst (dChain (cmpD (fun i j => decide (i ≤ j)) fun a b => !ltS b a) (cmpD (fun i j => decide (i ≤ j)) fun a b => !ltS b a) (dC (.int 1)) (dCB (L1 dLen) (dCons (dVar 1) (dNil))) (dC (.int (6))))))) (dRaise1 Z.BadLines "part" (dC (.str "sums"))) (dNext)) (dSeq (dIfS (dAnd (dTst (dOp (dIsN true) (dVar 2) (dC .non))) (dOr (dNot (dTru (dCall (S_are_amounts K Z) (dCons (dVar 2) (dNil))))) (dTst (dOp (dEqA true) (dCB (L1 dLen) (dCons (dVar 2) (dNil))) (dOp dSub (dCB (L1 dLen) (dCons (dVar 1) (dNil))) (dC (.int 1))))))) (dRaise1 Z.BadLines "part" (dC (.str "caps"))) (dNext)) (dSeq (sSelf Z.Lines 0 "sums" (dCB (L1 dTuple) (dCons (dVar 1) (dNil)))) (sSelf Z.Lines 0 "caps" (dIf (dTst (dOp (dIsN false) (dVar 2) (dC .non))) (dOp dRepA (dTup (dCons (dC (.int 0)) (dNil))) (dOp dSub (dCB (L1 dLen) (dCons (dVar 1) (dNil))) (dC (.int 1)))) (dCB (L1 dTuple) (dCons (dVar 2) (dNil)))))))
def S_Lines___init__ (K : PySem.W.Frag) (Z : Er) : SpI := bodyI Z.Lines [("self" : Str), ("sums" : Str), ("caps" : Str)] 2 (T_Lines___init__ K Z)
theorem c_Lines___init__ {Z : Er} {f : Addr} {fd : FuncData} (F : FunD K "__init__" "Lines.__init__" (defArgs (inClass (top 26) 0)) (defBody (inClass (top 26) 0)) (defScope (inClass (top 26) 0)) [.non] [] f fd) (T : Txt mg) (hN : base.NoDigits) {f_are_amounts : Addr} {d_are_amounts : FuncData} (G_are_amounts : FD P w K mg base "are_amounts" 3 [("value" : Str)] (S_are_amounts K Z) f_are_amounts d_are_amounts) {i_BadLines : Addr} {e_BadLines : FuncData} (X_BadLines : Cl1 P w K mg base "BadLines" "part" Z.BadLines i_BadLines e_BadLines) (FA_Lines : Fa_Lines K mg Z) : FnOk P w K mg base (L2.CX P w) 4 f fd [("self" : Str), ("sums" : Str), ("caps" : Str)] (spI K Z.Lines (S_Lines___init__ K Z)) := by
  refine fn_I F sc_Lines___init__ rfl (by decide) fun cdv A outer s H E pp xx dxx G0 H0 hpc hr tk => ?_
  have hu := hr.units
  exact pds_cons (pds_if (PW.pt (pdw_or (pdt_not (pdt_truth rfl (pd_call G_are_amounts rfl (hr.mono (by omega)) (by rfl) (fun σ => passAt tk σ) (pda_cons (pd_var (pv 1)) (pda_nil))))) (pdw_or1 (pdt_not (pdt_chain op_leA r_cmp op_leA r_cmp (pd_cst pe_int fun _ _ _ => .int _) (pd_callB call_len r_len (by rfl) T.n_len (by decide +kernel) (pda_cons (pd_var (pv 1)) (pda_nil))) ((T.g_MOST_SUMS.elim fun _ h => pd_cst (pe_glob (v := .int (6)) (by rfl) h ⟨_, rfl⟩) fun _ _ _ => .int _))))))) (pds_one (pds_raise1 X_BadLines rfl rfl tk (hr.mono (by omega)) (by rfl) (pd_cst pe_str fun _ _ _ => .str _))) (pds_nil)) (pds_cons (pds_if (PW.pt (pdw_and (pdt_cmp op_notN r_notN (pd_var (pv 2)) (pd_cst pe_non fun _ _ _ => .non) (nomark _)) (pdw_and1 (PW.pt (pdw_or (pdt_not (pdt_truth rfl (pd_call G_are_amounts rfl (hr.mono (by omega)) (by rfl) (fun σ => passAt tk σ) (pda_cons (pd_var (pv 2)) (pda_nil))))) (pdw_or1 (pdt_cmp (op_neA hu) r_neA (pd_callB call_len r_len (by rfl) T.n_len (by decide +kernel) (pda_cons (pd_var (pv 2)) (pda_nil))) (pd_op op_sub r_sub (pd_callB call_len r_len (by rfl) T.n_len (by decide +kernel) (pda_cons (pd_var (pv 1)) (pda_nil))) (pd_cst pe_int fun _ _ _ => .int _)) (nomark _)))))))) (pds_one (pds_raise1 X_BadLines rfl rfl tk (hr.mono (by omega)) (by rfl) (pd_cst pe_str fun _ _ _ => .str _))) (pds_nil)) (pds_cons (pds_self rfl FA_Lines.cl FA_Lines.na_sums (pv 0) (pd_callTy call_tuple_of r_tuple (by rfl) T.n_tuple (by decide +kernel) (pda_cons (pd_var (pv 1)) (pda_nil)))) (pds_one (pds_self rfl FA_Lines.cl FA_Lines.na_caps (pv 0) (pd_ifExp (pdt_cmp op_isN r_isN (pd_var (pv 2)) (pd_cst pe_non fun _ _ _ => .non) (nomark _)) (pd_op op_repA r_repA (pd_tup (pda_cons (pd_cst pe_int fun _ _ _ => .int _) (pda_nil))) (pd_op op_sub r_sub (pd_callB call_len r_len (by rfl) T.n_len (by decide +kernel) (pda_cons (pd_var (pv 1)) (pda_nil))) (pd_cst pe_int fun _ _ _ => .int _))) (pd_callTy call_tuple_of r_tuple (by rfl) T.n_tuple (by decide +kernel) (pda_cons (pd_var (pv 2)) (pda_nil))))))))
theorem sc_Lines___len__ : FnScope [("self" : Str)] [("self" : Str)] (defScope (inClass (top 26) 2)) := ⟨rfl, rfl, rfl, by decide +kernel, rfl, by decide +kernel, by decide +kernel⟩
def T_Lines___len__ (K : PySem.W.Frag) (Z : Er) : TDS := dRet (dCB (L1 dLen) (dCons (dUn (dFld Z.Lines "sums") (dVar 0)) (dNil)))
def S_Lines___len__ (K : PySem.W.Frag) (Z : Er) : SpD := bodyD [("self" : Str)] 1 (T_Lines___len__ K Z)
theorem c_Lines___len__ {Z : Er} {f : Addr} {fd : FuncData} (F : FunD K "__len__" "Lines.__len__" (defArgs (inClass (top 26) 2)) (defBody (inClass (top 26) 2)) (defScope (inClass (top 26) 2)) [] [] f fd) (T : Txt mg) (hN : base.NoDigits) (FA_Lines : Fa_Lines K mg Z) : FnOk P w K mg base (L2.CX P w) 1 f fd [("self" : Str)] (spD K (S_Lines___len__ K Z)) := by
  refine fn_F F sc_Lines___len__ rfl fun cdv A outer s H E pp G0 H0 hpc hr tk => ?_
  have hu := hr.units
  exact pds_one (pds_ret (pd_callB call_len r_len (by rfl) T.n_len (by decide +kernel) (pda_cons (pd_fld rfl FA_Lines.cl FA_Lines.na_sums (pd_var (pv 0))) (pda_nil))))
theorem sc_Lines___iter__ : FnScope [("self" : Str)] [("self" : Str)] (defScope (inClass (top 26) 4)) := ⟨rfl, rfl, rfl, by decide +kernel, rfl, by decide +kernel, by decide +kernel⟩
theorem c_Lines___iter__ {Z : Er} {g : Addr} {fd : FuncData} (F : FunD K "__iter__" "Lines.__iter__" (defArgs (inClass (top 26) 4)) (defBody (inClass (top 26) 4)) (defScope (inClass (top 26) 4)) [] [] g fd) (b : Binds K fd [("self" : Str)] []) (T : Txt mg) (FA_Lines : Fa_Lines K mg Z) : FIt P w K mg base 1 Z.Lines g "sums" := by
  refine fit_of F sc_Lines___iter__ b fun X hK hm hN hs hf => ?_
  exact it_self hK hm hN hs (Or.inl rfl) (by show X.env.scope.names.lookup ("iter" : Str) = _; rw [hs]; rfl) FA_Lines.cl FA_Lines.na_sums T.n_iter
theorem sc_is_within : FnScope [("value" : Str), ("least" : Str), ("most" : Str)] [("value" : Str), ("least" : Str), ("most" : Str)] (defScope (top 2)) := ⟨rfl, rfl, rfl, by decide +kernel, rfl, by decide +kernel, by decide +kernel⟩
def T_is_within (K : PySem.W.Frag) (Z : Er) : TDS := dRet (dAndV (dCall (S_is_integer K Z) (dCons (dVar 0) (dNil))) (dChain (cmpD (fun i j => decide (i ≤ j)) fun a b => !ltS b a) (cmpD (fun i j => decide (i ≤ j)) fun a b => !ltS b a) (dVar 1) (dVar 0) (dVar 2)))
def S_is_within (K : PySem.W.Frag) (Z : Er) : SpD := bodyD [("value" : Str), ("least" : Str), ("most" : Str)] 3 (T_is_within K Z)
theorem c_is_within {Z : Er} {f : Addr} {fd : FuncData} (F : FunD K "is_within" "is_within" (defArgs (top 2)) (defBody (top 2)) (defScope (top 2)) [] [] f fd) (T : Txt mg) (hN : base.NoDigits) {f_is_integer : Addr} {d_is_integer : FuncData} (G_is_integer : FD P w K mg base "is_integer" 1 [("value" : Str)] (S_is_integer K Z) f_is_integer d_is_integer) : FnOk P w K mg base (L2.CX P w) 2 f fd [("value" : Str), ("least" : Str), ("most" : Str)] (spD K (S_is_within K Z)) := by
  refine fn_F F sc_is_within rfl fun cdv A outer s H E pp G0 H0 hpc hr tk => ?_
  have hu := hr.units
  exact pds_one (pds_ret (pd_and (pd_call G_is_integer rfl (hr.mono (by omega)) (by rfl) (fun σ => passAt tk σ) (pda_cons (pd_var (pv 0)) (pda_nil))) (pd_one (pd_chain op_leA r_cmp op_leA r_cmp (pd_var (pv 1)) (pd_var (pv 0)) (pd_var (pv 2))))))
theorem sc_Lines___getitem__ : FnScope [("self" : Str), ("j" : Str)] [("self" : Str), ("j" : Str)] (defScope (inClass (top 26) 3)) := ⟨rfl, rfl, rfl, by decide +kernel, rfl, by decide +kernel, by decide +kernel⟩
def T_Lines___getitem__ (K : PySem.W.Frag) (Z : Er) : TDS := dSeq (dIfS (dNot (dTru (dCall (S_is_within K Z) (dCons (dVar 1) (dCons (dC (.int 1)) (dCons (dCB (L1 dLen) (dCons (dUn (dFld Z.Lines "sums") (dVar 0)) (dNil))) (dNil))))))) (dRaise1 Z.BadNumber "value" (dVar 1)) (dNext)) (dRet (dOp dIx (dUn (dFld Z.Lines "sums") (dVar 0)) (dOp dSub (dVar 1) (dC (.int 1)))))
def S_Lines___getitem__ (K : PySem.W.Frag) (Z : Er) : SpD := bodyD [("self" : Str), ("j" : Str)] 2 (T_Lines___getitem__ K Z)
theorem c_Lines___getitem__ {Z : Er} {f : Addr} {fd : FuncData} (F : FunD K "__getitem__" "Lines.__getitem__" (defArgs (inClass (top 26) 3)) (defBody (inClass (top 26) 3)) (defScope (inClass (top 26) 3)) [] [] f fd) (T : Txt mg) (hN : base.NoDigits) (FA_Lines : Fa_Lines K mg Z) {f_is_within : Addr} {d_is_within : FuncData} (G_is_within : FD P w K mg base "is_within" 2 [("value" : Str), ("least" : Str), ("most" : Str)] (S_is_within K Z) f_is_within d_is_within) {i_BadNumber : Addr} {e_BadNumber : FuncData} (X_BadNumber : Cl1 P w K mg base "BadNumber" "value" Z.BadNumber i_BadNumber e_BadNumber) : FnOk P w K mg base (L2.CX P w) 3 f fd [("self" : Str), ("j" : Str)] (spD K (S_Lines___getitem__ K Z)) := by
  refine fn_F F sc_Lines___getitem__ rfl fun cdv A outer s H E pp G0 H0 hpc hr tk => ?_
  have hu := hr.units
  exact pds_cons (pds_if (pdt_not (pdt_truth rfl (pd_call G_is_within rfl (hr.mono (by omega)) (by rfl) (fun σ => passAt tk σ) (pda_cons (pd_var (pv 1)) (pda_cons (pd_cst pe_int fun _ _ _ => .int _) (pda_cons (pd_callB call_len r_len (by rfl) T.n_len (by decide +kernel) (pda_cons (pd_fld rfl FA_Lines.cl FA_Lines.na_sums (pd_var (pv 0))) (pda_nil))) (pda_nil))))))) (pds_one (pds_raise1 X_BadNumber rfl rfl tk (hr.mono (by omega)) (by rfl) (pd_var (pv 1)))) (pds_nil)) (pds_one (pds_ret (pd_ix rfl (pd_fld rfl FA_Lines.cl FA_Lines.na_sums (pd_var (pv 0))) (pd_op op_sub r_sub (pd_var (pv 1)) (pd_cst pe_int fun _ _ _ => .int _)) (fun _ _ => rfl))))
theorem sc_Lines_reach : FnScope [("self" : Str), ("i" : Str), ("j" : Str)] [("self" : Str), ("i" : Str), ("j" : Str)] (defScope (inClass (top 26) 5)) := ⟨rfl, rfl, rfl, by decide +kernel, rfl, by decide +kernel, by decide +kernel⟩
def T_Lines_reach (K : PySem.W.Frag) (Z : Er) : TDS := dSeq (dIfS (dNot (dTru (dCall (S_is_within K Z) (dCons (dVar 1) (dCons (dC (.int 1)) (dCons (dCB (L1 dLen) (dCons (dUn (dFld Z.Lines "sums") (dVar 0)) (dNil))) (dNil))))))) (dRaise1 Z.BadNumber "value" (dVar 1)) (dNext)) (dSeq (dIfS (dNot (dTru (dCall (S_is_within K Z) (dCons (dVar 2) (dCons (dVar 1) (dCons (dCB (L1 dLen) (dCons (dUn (dFld Z.Lines "sums") (dVar 0)) (dNil))) (dNil))))))) (dRaise1 Z.BadNumber "value" (dVar 2)) (dNext)) (dRet (dOp dAddA (dCB (L1 dSum2) (dCons (dSlA (dUn (dFld Z.Lines "sums") (dVar 0)) (dP (dOp dSub (dVar 1) (dC (.int 1)))) (dP (dVar 2))) (dNil))) (dIf (dTst (dOp (cmpD (fun i j => decide (j < i)) fun a b => ltS b a) (dVar 1) (dC (.int 1)))) (dOp dIx (dUn (dFld Z.Lines "caps") (dVar 0)) (dOp dSub (dVar 1) (dC (.int 2)))) (dC (.int 0))))))
def S_Lines_reach (K : PySem.W.Frag) (Z : Er) : SpD := bodyD [("self" : Str), ("i" : Str), ("j" : Str)] 3 (T_Lines_reach K Z)
theorem c_Lines_reach {Z : Er} {f : Addr} {fd : FuncData} (F : FunD K "reach" "Lines.reach" (defArgs (inClass (top 26) 5)) (defBody (inClass (top 26) 5)) (defScope (inClass (top 26) 5)) [] [] f fd) (T : Txt mg) (hN : base.NoDigits) (FA_Lines : Fa_Lines K mg Z) {f_is_within : Addr} {d_is_within : FuncData} (G_is_within : FD P w K mg base "is_within" 2 [("value" : Str), ("least" : Str), ("most" : Str)] (S_is_within K Z) f_is_within d_is_within) {i_BadNumber : Addr} {e_BadNumber : FuncData} (X_BadNumber : Cl1 P w K mg base "BadNumber" "value" Z.BadNumber i_BadNumber e_BadNumber) : FnOk P w K mg base (L2.CX P w) 3 f fd [("self" : Str), ("i" : Str), ("j" : Str)] (spD K (S_Lines_reach K Z)) := by
  refine fn_F F sc_Lines_reach rfl fun cdv A outer s H E pp G0 H0 hpc hr tk => ?_
  have hu := hr.units
  exact pds_cons (pds_if (pdt_not (pdt_truth rfl (pd_call G_is_within rfl (hr.mono (by omega)) (by rfl) (fun σ => passAt tk σ) (pda_cons (pd_var (pv 1)) (pda_cons (pd_cst pe_int fun _ _ _ => .int _) (pda_cons (pd_callB call_len r_len (by rfl) T.n_len (by decide +kernel) (pda_cons (pd_fld rfl FA_Lines.cl FA_Lines.na_sums (pd_var (pv 0))) (pda_nil))) (pda_nil))))))) (pds_one (pds_raise1 X_BadNumber rfl rfl tk (hr.mono (by omega)) (by rfl) (pd_var (pv 1)))) (pds_nil)) (pds_cons (pds_if (pdt_not (pdt_truth rfl (pd_call G_is_within rfl (hr.mono (by omega)) (by rfl) (fun σ => passAt tk σ) (pda_cons (pd_var (pv 2)) (pda_cons (pd_var (pv 1)) (pda_cons (pd_callB call_len r_len (by rfl) T.n_len (by decide +kernel) (pda_cons (pd_fld rfl FA_Lines.cl FA_Lines.na_sums (pd_var (pv 0))) (pda_nil))) (pda_nil))))))) (pds_one (pds_raise1 X_BadNumber rfl rfl tk (hr.mono (by omega)) (by rfl) (pd_var (pv 2)))) (pds_nil)) (pds_one (pds_ret (pd_op op_addA r_addA (pd_callB (cr_sum2 rfl) r_sum2 (by rfl) T.n_sum (by decide +kernel) (pda_cons (pd_slA rfl (pd_fld rfl FA_Lines.cl FA_Lines.na_sums (pd_var (pv 0))) (pdp_some (pd_op op_sub r_sub (pd_var (pv 1)) (pd_cst pe_int fun _ _ _ => .int _))) (pdp_some (pd_var (pv 2)))) (pda_nil))) (pd_ifExp (pdt_cmp op_gtA r_cmp (pd_var (pv 1)) (pd_cst pe_int fun _ _ _ => .int _) (nomark _)) (pd_ix rfl (pd_fld rfl FA_Lines.cl FA_Lines.na_caps (pd_var (pv 0))) (pd_op op_sub r_sub (pd_var (pv 1)) (pd_cst pe_int fun _ _ _ => .int _)) (fun _ _ => rfl)) (pd_cst pe_int fun _ _ _ => .int _))))))
theorem sc__law_there : FnScope [("_law_chain_here" : Str), ("_law_low" : Str), ("_law_high" : Str)] [("_law_chain_here" : Str), ("_law_low" : Str), ("_law_high" : Str)] (defScope (top 39)) := ⟨rfl, rfl, rfl, by decide +kernel, rfl, by decide +kernel, by decide +kernel⟩
def T__law_there (K : PySem.W.Frag) (Z : Er) : TDS := dRet (dOp dAddA (dCB (L1 dSum2) (dCons (dSlA (dOp dIx (dVar 0) (dC (.int 0))) (dP (dOp dSub (dVar 1) (dC (.int 1)))) (dP (dVar 2))) (dNil))) (dIf (dTst (dOp (cmpD (fun i j => decide (j < i)) fun a b => ltS b a) (dVar 1) (dC (.int 1)))) (dOp dIx (dOp dIx (dVar 0) (dC (.int 1))) (dOp dSub (dVar 1) (dC (.int 2)))) (dC (.int 0))))
def S__law_there (K : PySem.W.Frag) (Z : Er) : SpD := bodyD [("_law_chain_here" : Str), ("_law_low" : Str), ("_law_high" : Str)] 3 (T__law_there K Z)
theorem c__law_there {Z : Er} {f : Addr} {fd : FuncData} (F : FunD K "_law_there" "_law_there" (defArgs (top 39)) (defBody (top 39)) (defScope (top 39)) [] [] f fd) (T : Txt mg) (hN : base.NoDigits)  : FnOk P w K mg base (L2.CX P w) 1 f fd [("_law_chain_here" : Str), ("_law_low" : Str), ("_law_high" : Str)] (spD K (S__law_there K Z)) := by
  refine fn_F F sc__law_there rfl fun cdv A outer s H E pp G0 H0 hpc hr tk => ?_
  have hu := hr.units
  exact pds_one (pds_ret (pd_op op_addA r_addA (pd_callB (cr_sum2 rfl) r_sum2 (by rfl) T.n_sum (by decide +kernel) (pda_cons (pd_slA rfl (pd_ix rfl (pd_var (pv 0)) (pd_cst pe_int fun _ _ _ => .int _) (fun _ _ => rfl)) (pdp_some (pd_op op_sub r_sub (pd_var (pv 1)) (pd_cst pe_int fun _ _ _ => .int _))) (pdp_some (pd_var (pv 2)))) (pda_nil))) (pd_ifExp (pdt_cmp op_gtA r_cmp (pd_var (pv 1)) (pd_cst pe_int fun _ _ _ => .int _) (nomark _)) (pd_ix rfl (pd_ix rfl (pd_var (pv 0)) (pd_cst pe_int fun _ _ _ => .int _) (fun _ _ => rfl)) (pd_op op_sub r_sub (pd_var (pv 1)) (pd_cst pe_int fun _ _ _ => .int _)) (fun _ _ => rfl)) (pd_cst pe_int fun _ _ _ => .int _))))
theorem sc__law_paid : FnScope [("_law_pen_here" : Str), ("_law_many" : Str), ("_law_at" : Str)] [("_law_pen_here" : Str), ("_law_many" : Str)] (defScope (top 38)) := ⟨rfl, rfl, rfl, by decide +kernel, rfl, by decide +kernel, by decide +kernel⟩
def T__law_paid (K : PySem.W.Frag) (Z : Er) : TDS := dRet (dLc (dItA dRange1 (dCons (dVar 1) (dNil))) [2] (gN 2) (dYes) (dCall (S__law_pick K Z) (dCons (dVar 0) (dCons (dLst (dCons (dC (.int 0)) (dCons (dC (.int 0)) (dCons (dC (.int 1)) (dCons (dC (.int 2)) (dCons (dC (.int 4)) (dCons (dC (.int 7)) (dCons (dOp dPow (dC (.int 10)) (dC (.int 29))) (dNil))))))))) (dNil)))))
def S__law_paid (K : PySem.W.Frag) (Z : Er) : SpD := bodyD [("_law_pen_here" : Str), ("_law_many" : Str), ("_law_at" : Str)] 2 (T__law_paid K Z)
theorem c__law_paid {Z : Er} {f : Addr} {fd : FuncData} (F : FunD K "_law_paid" "_law_paid" (defArgs (top 38)) (defBody (top 38)) (defScope (top 38)) [] [] f fd) (T : Txt mg) (hN : base.NoDigits) {f__law_pick : Addr} {d__law_pick : FuncData} (G__law_pick : FD P w K mg base "_law_pick" 2 [("_law_pen_here" : Str), ("_law_some" : Str)] (S__law_pick K Z) f__law_pick d__law_pick) : FnOk P w K mg base (L2.CX P w) 3 f fd [("_law_pen_here" : Str), ("_law_many" : Str)] (spD K (S__law_paid K Z)) := by
  refine fn_F F sc__law_paid rfl fun cdv A outer s H E pp G0 H0 hpc hr tk => ?_
  have hu := hr.units
  exact pds_one (pds_ret (pd_lc (own := [("_law_at", 2)]) (by rfl) sc__law_paid.nd (by decide) (pdi_range1 (by rfl) T.n_range (pda_cons (pd_var (pv 1)) (pda_nil))) (blkOk_by (N := [("_law_pen_here" : Str), ("_law_many" : Str), ("_law_at" : Str)]) (sc := defScope (top 38)) (own := [("_law_at", 2)]) (by decide +kernel)) (fun _ _ _ _ _ => pdg_name (i := 2) sc__law_paid.nd rfl (by first | exact Or.inl rfl | exact Or.inr rfl)) (fun _ _ _ _ _ => pdts_nil) (fun _ _ _ _ _ => pd_call G__law_pick rfl (hr.mono (by omega)) (by rfl) (fun _ => pass_no) (pda_cons (pd_var (pv 0)) (pda_cons (pd_lst (pda_cons (pd_cst pe_int fun _ _ _ => .int _) (pda_cons (pd_cst pe_int fun _ _ _ => .int _) (pda_cons (pd_cst pe_int fun _ _ _ => .int _) (pda_cons (pd_cst pe_int fun _ _ _ => .int _) (pda_cons (pd_cst pe_int fun _ _ _ => .int _) (pda_cons (pd_cst pe_int fun _ _ _ => .int _) (pda_cons (pd_op op_pow r_pow (pd_cst pe_int fun _ _ _ => .int _) (pd_cst pe_int fun _ _ _ => .int _)) (pda_nil))))))))) (pda_nil))))))
theorem sc__law_shorts : FnScope [("_law_chain_here" : Str), ("_law_paid_here" : Str), ("_law_low" : Str), ("_law_found" : Str), ("_law_many" : Str), ("_law_some" : Str), ("_law_high" : Str)] [("_law_chain_here" : Str), ("_law_paid_here" : Str)] (defScope (top 40)) := ⟨rfl, rfl, rfl, by decide +kernel, rfl, by decide +kernel, by decide +kernel⟩
def T__law_shorts (K : PySem.W.Frag) (Z : Er) : TDS := dSeq (dPar2 3 4 (dCons (dLst (dNil)) (dCons (dCB (L1 dLen) (dCons (dVar 1) (dNil))) (dNil)))) (dSeq (dFor (dItA dRange2 (dCons (dC (.int 1)) (dCons (dOp dAddA (dVar 4) (dC (.int 1))) (dNil)))) (gN 2) (dSeq (dSet 5 (dLc (dItA dRange2 (dCons (dVar 2) (dCons (dOp dAddA (dVar 4) (dC (.int 1))) (dNil)))) [6] (gN 6) (dTst (dOp (cmpD (fun i j => decide (j < i)) fun a b => ltS b a) (dCB (L1 dSum2) (dCons (dSlA (dVar 1) (dP (dOp dSub (dVar 2) (dC (.int 1)))) (dP (dVar 6))) (dNil))) (dCall (S__law_there K Z) (dCons (dVar 0) (dCons (dVar 2) (dCons (dVar 6) (dNil))))))) (dVar 6))) (dSet 3 (dOp dAddA (dVar 3) (dLc (dItS (dVar 5)) [6] (gN 6) (dYes) (dTup (dCons (dVar 2) (dCons (dVar 6) (dNil))))))))) (dRet (dVar 3)))
def S__law_shorts (K : PySem.W.Frag) (Z : Er) : SpD := bodyD [("_law_chain_here" : Str), ("_law_paid_here" : Str), ("_law_low" : Str), ("_law_found" : Str), ("_law_many" : Str), ("_law_some" : Str), ("_law_high" : Str)] 2 (T__law_shorts K Z)
theorem c__law_shorts {Z : Er} {f : Addr} {fd : FuncData} (F : FunD K "_law_shorts" "_law_shorts" (defArgs (top 40)) (defBody (top 40)) (defScope (top 40)) [] [] f fd) (T : Txt mg) (hN : base.NoDigits) {f__law_there : Addr} {d__law_there : FuncData} (G__law_there : FD P w K mg base "_law_there" 1 [("_law_chain_here" : Str), ("_law_low" : Str), ("_law_high" : Str)] (S__law_there K Z) f__law_there d__law_there) : FnOk P w K mg base (L2.CX P w) 2 f fd [("_law_chain_here" : Str), ("_law_paid_here" : Str)] (spD K (S__law_shorts K Z)) := by
  refine fn_F F sc__law_shorts rfl fun cdv A outer s H E pp G0 H0 hpc hr tk => ?_
  have hu := hr.units
  exact pds_cons (pds_par2 (i := 3) (j := 4) rfl sc__law_shorts.nd rfl rfl (by decide) rfl rfl (pda_cons (pd_lst (pda_nil)) (pda_cons (pd_callB call_len r_len (by rfl) T.n_len (by decide +kernel) (pda_cons (pd_var (pv 1)) (pda_nil))) (pda_nil))) (by rfl)) (pds_cons (pds_for (passes_of rfl) rfl (pdi_range2 (by rfl) T.n_range (pda_cons (pd_cst pe_int fun _ _ _ => .int _) (pda_cons (pd_op op_addA r_addA (pd_var (pv 4)) (pd_cst pe_int fun _ _ _ => .int _)) (pda_nil)))) (pdg_name (i := 2) sc__law_shorts.nd rfl (by first | exact Or.inl rfl | exact Or.inr rfl)) (pds_cons (pds_setLc (own := [("_law_high", 6)]) (by rfl) sc__law_shorts.nd (i := 5) rfl rfl (by rfl) (by decide) (pdi_range2 (by rfl) T.n_range (pda_cons (pd_var (pv 2)) (pda_cons (pd_op op_addA r_addA (pd_var (pv 4)) (pd_cst pe_int fun _ _ _ => .int _)) (pda_nil)))) (blkOk_by (N := [("_law_chain_here" : Str), ("_law_paid_here" : Str), ("_law_low" : Str), ("_law_found" : Str), ("_law_many" : Str), ("_law_some" : Str), ("_law_high" : Str)]) (sc := defScope (top 40)) (own := [("_law_high", 6)]) (by decide +kernel)) (fun _ _ _ _ _ => pdg_name (i := 6) sc__law_shorts.nd rfl (by first | exact Or.inl rfl | exact Or.inr rfl)) (fun _ _ _ _ _ => pdts_one (pdt_cmp op_gtA r_cmp (pd_callB (cr_sum2 rfl) r_sum2 (by rfl) T.n_sum (by decide +kernel) (pda_cons (pd_slA rfl (pd_var (pv 1)) (pdp_some (pd_op op_sub r_sub (pd_var (pv 2)) (pd_cst pe_int fun _ _ _ => .int _))) (pdp_some (pd_var (pv 6)))) (pda_nil))) (pd_call G__law_there rfl (hr.mono (by omega)) (by rfl) (fun _ => pass_no) (pda_cons (pd_var (pv 0)) (pda_cons (pd_var (pv 2)) (pda_cons (pd_var (pv 6)) (pda_nil))))) (nomark _))) (fun _ _ _ _ _ => pd_var (pv 6))) (pds_one (pds_set (i := 3) sc__law_shorts.nd rfl (by first | exact Or.inl rfl | exact Or.inr rfl) (pd_op op_addA r_addA (pd_var (pv 3)) (pd_lc (own := [("_law_high", 6)]) (by rfl) sc__law_shorts.nd (by decide) (pdi_seq (pd_var (pv 5)) rfl) (blkOk_by (N := [("_law_chain_here" : Str), ("_law_paid_here" : Str), ("_law_low" : Str), ("_law_found" : Str), ("_law_many" : Str), ("_law_some" : Str), ("_law_high" : Str)]) (sc := defScope (top 40)) (own := [("_law_high", 6)]) (by decide +kernel)) (fun _ _ _ _ _ => pdg_name (i := 6) sc__law_shorts.nd rfl (by first | exact Or.inl rfl | exact Or.inr rfl)) (fun _ _ _ _ _ => pdts_nil) (fun _ _ _ _ _ => pd_tup (pda_cons (pd_var (pv 2)) (pda_cons (pd_var (pv 6)) (pda_nil)))))))))) (pds_one (pds_ret (pd_var (pv 3)))))
theorem sc_check_spent : FnScope [("lines" : Str), ("spent" : Str)] [("lines" : Str), ("spent" : Str)] (defScope (top 25)) := ⟨rfl, rfl, rfl, by decide +kernel, rfl, by decide +kernel, by decide +kernel⟩
def T_check_spent (K : PySem.W.Frag) (Z : Er) : TDS := dIfS (dOr (dNot (dTru (dCall (S_are_amounts K Z) (dCons (dVar 1) (dNil))))) (dTst (dOp (dEqA true) (dCB (L1 dLen) (dCons (dVar 1) (dNil))) (dCB (L1 dLen) (dCons (dUn (dFld Z.Lines "sums") (dVar 0)) (dNil)))))) (dRaise1 Z.BadLines "part" (dC (.str "spent"))) (dNext)
def S_check_spent (K : PySem.W.Frag) (Z : Er) : SpD := bodyD [("lines" : Str), ("spent" : Str)] 2 (T_check_spent K Z)
theorem c_check_spent {Z : Er} {f : Addr} {fd : FuncData} (F : FunD K "check_spent" "check_spent" (defArgs (top 25)) (defBody (top 25)) (defScope (top 25)) [] [] f fd) (T : Txt mg) (hN : base.NoDigits) {f_are_amounts : Addr} {d_are_amounts : FuncData} (G_are_amounts : FD P w K mg base "are_amounts" 3 [("value" : Str)] (S_are_amounts K Z) f_are_amounts d_are_amounts) (FA_Lines : Fa_Lines K mg Z) {i_BadLines : Addr} {e_BadLines : FuncData} (X_BadLines : Cl1 P w K mg base "BadLines" "part" Z.BadLines i_BadLines e_BadLines) : FnOk P w K mg base (L2.CX P w) 4 f fd [("lines" : Str), ("spent" : Str)] (spD K (S_check_spent K Z)) := by
  refine fn_F F sc_check_spent rfl fun cdv A outer s H E pp G0 H0 hpc hr tk => ?_
  have hu := hr.units
  exact pds_one (pds_if (PW.pt (pdw_or (pdt_not (pdt_truth rfl (pd_call G_are_amounts rfl (hr.mono (by omega)) (by rfl) (fun σ => passAt tk σ) (pda_cons (pd_var (pv 1)) (pda_nil))))) (pdw_or1 (pdt_cmp (op_neA hu) r_neA (pd_callB call_len r_len (by rfl) T.n_len (by decide +kernel) (pda_cons (pd_var (pv 1)) (pda_nil))) (pd_callB call_len r_len (by rfl) T.n_len (by decide +kernel) (pda_cons (pd_fld rfl FA_Lines.cl FA_Lines.na_sums (pd_var (pv 0))) (pda_nil))) (nomark _))))) (pds_one (pds_raise1 X_BadLines rfl rfl tk (hr.mono (by omega)) (by rfl) (pd_cst pe_str fun _ _ _ => .str _))) (pds_nil))
theorem sc_wanted_of : FnScope [("sums" : Str), ("spent" : Str), ("wanted" : Str), ("more" : Str), ("j" : Str)] [("sums" : Str), ("spent" : Str)] (defScope (top 27)) := ⟨rfl, rfl, rfl, by decide +kernel, rfl, by decide +kernel, by decide +kernel⟩
def T_wanted_of (K : PySem.W.Frag) (Z : Er) : TDS := dSeq (dSetO 2 (oLst (dNil))) (dSeq (dSet 3 (dC (.int 0))) (dSeq (dFor (dItA dRange3 (dCons (dOp dSub (dCB (L1 dLen) (dCons (dVar 0) (dNil))) (dC (.int 1))) (dCons (dUn dNegI (dC (.int 1))) (dCons (dUn dNegI (dC (.int 1))) (dNil))))) (gN 4) (dSeq (dSet 3 (dCB (L2' dMax2) (dCons (dC (.int 0)) (dCons (dOp dSub (dOp dAddA (dOp dIx (dVar 1) (dVar 4)) (dVar 3)) (dOp dIx (dVar 0) (dVar 4))) (dNil))))) (sApp 2 (dVar 3)))) (dRet (dCB (L1 dTuple) (dCons (dUn dRevL (dVar 2)) (dNil))))))
def S_wanted_of (K : PySem.W.Frag) (Z : Er) : SpD := bodyD [("sums" : Str), ("spent" : Str), ("wanted" : Str), ("more" : Str), ("j" : Str)] 2 (T_wanted_of K Z)
theorem c_wanted_of {Z : Er} {f : Addr} {fd : FuncData} (F : FunD K "wanted_of" "wanted_of" (defArgs (top 27)) (defBody (top 27)) (defScope (top 27)) [] [] f fd) (T : Txt mg) (hN : base.NoDigits)  : FnOk P w K mg base (L2.CX P w) 1 f fd [("sums" : Str), ("spent" : Str)] (spD K (S_wanted_of K Z)) := by
  refine fn_F F sc_wanted_of rfl fun cdv A outer s H E pp G0 H0 hpc hr tk => ?_
  have hu := hr.units
  exact pds_cons (pds_setO (i := 2) sc_wanted_of.nd rfl (by first | exact Or.inl rfl | exact Or.inr rfl) (pdo_lst (pda_nil))) (pds_cons (pds_set (i := 3) sc_wanted_of.nd rfl (by first | exact Or.inl rfl | exact Or.inr rfl) (pd_cst pe_int fun _ _ _ => .int _)) (pds_cons (pds_for (passes_of rfl) rfl (pdi_range3 (by rfl) T.n_range (pda_cons (pd_op op_sub r_sub (pd_callB call_len r_len (by rfl) T.n_len (by decide +kernel) (pda_cons (pd_var (pv 0)) (pda_nil))) (pd_cst pe_int fun _ _ _ => .int _)) (pda_cons (pd_un un_neg r_neg (pd_cst pe_int fun _ _ _ => .int _)) (pda_cons (pd_un un_neg r_neg (pd_cst pe_int fun _ _ _ => .int _)) (pda_nil))))) (pdg_name (i := 4) sc_wanted_of.nd rfl (by first | exact Or.inl rfl | exact Or.inr rfl)) (pds_cons (pds_set (i := 3) sc_wanted_of.nd rfl (by first | exact Or.inl rfl | exact Or.inr rfl) (pd_callB (call_max2 rfl) r_max2 (by rfl) T.n_max (by decide +kernel) (pda_cons (pd_cst pe_int fun _ _ _ => .int _) (pda_cons (pd_op op_sub r_sub (pd_op op_addA r_addA (pd_ix rfl (pd_var (pv 1)) (pd_var (pv 4)) (fun _ _ => rfl)) (pd_var (pv 3))) (pd_ix rfl (pd_var (pv 0)) (pd_var (pv 4)) (fun _ _ => rfl))) (pda_nil))))) (pds_one (pds_app (pv 2) hpc (pd_var (pv 3)))))) (pds_one (pds_ret (pd_callTy call_tuple_of r_tuple (by rfl) T.n_tuple (by decide +kernel) (pda_cons (pd_revL rfl (pd_var (pv 2))) (pda_nil)))))))
theorem sc_Lines_wanted : FnScope [("self" : Str), ("spent" : Str)] [("self" : Str), ("spent" : Str)] (defScope (inClass (top 26) 6)) := ⟨rfl, rfl, rfl, by decide +kernel, rfl, by decide +kernel, by decide +kernel⟩
def T_Lines_wanted (K : PySem.W.Frag) (Z : Er) : TDS := dSeq (dDrop (dCall (S_check_spent K Z) (dCons (dVar 0) (dCons (dVar 1) (dNil))))) (dRet (dCall (S_wanted_of K Z) (dCons (dUn (dFld Z.Lines "sums") (dVar 0)) (dCons (dVar 1) (dNil)))))
def S_Lines_wanted (K : PySem.W.Frag) (Z : Er) : SpD := bodyD [("self" : Str), ("spent" : Str)] 2 (T_Lines_wanted K Z)
theorem c_Lines_wanted {Z : Er} {f : Addr} {fd : FuncData} (F : FunD K "wanted" "Lines.wanted" (defArgs (inClass (top 26) 6)) (defBody (inClass (top 26) 6)) (defScope (inClass (top 26) 6)) [] [] f fd) (T : Txt mg) (hN : base.NoDigits) {f_check_spent : Addr} {d_check_spent : FuncData} (G_check_spent : FD P w K mg base "check_spent" 4 [("lines" : Str), ("spent" : Str)] (S_check_spent K Z) f_check_spent d_check_spent) (FA_Lines : Fa_Lines K mg Z) {f_wanted_of : Addr} {d_wanted_of : FuncData} (G_wanted_of : FD P w K mg base "wanted_of" 1 [("sums" : Str), ("spent" : Str)] (S_wanted_of K Z) f_wanted_of d_wanted_of) : FnOk P w K mg base (L2.CX P w) 5 f fd [("self" : Str), ("spent" : Str)] (spD K (S_Lines_wanted K Z)) := by
  refine fn_F F sc_Lines_wanted rfl fun cdv A outer s H E pp G0 H0 hpc hr tk => ?_
  have hu := hr.units
  exact pds_cons (pds_expr (pd_call G_check_spent rfl (hr.mono (by omega)) (by rfl) (fun σ => passAt tk σ) (pda_cons (pd_var (pv 0)) (pda_cons (pd_var (pv 1)) (pda_nil))))) (pds_one (pds_ret (pd_call G_wanted_of rfl (hr.mono (by omega)) (by rfl) (fun σ => passAt tk σ) (pda_cons (pd_fld rfl FA_Lines.cl FA_Lines.na_sums (pd_var (pv 0))) (pda_cons (pd_var (pv 1)) (pda_nil))))))
theorem sc__law_into : FnScope [("_law_chain_here" : Str), ("_law_paid_here" : Str), ("_law_found" : Str), ("_law_at" : Str), ("_law_some" : Str), ("_law_end" : Str), ("_law_one" : Str)] [("_law_chain_here" : Str), ("_law_paid_here" : Str)] (defScope (top 41)) := ⟨rfl, rfl, rfl, by decide +kernel, rfl, by decide +kernel, by decide +kernel⟩
def T__law_into (K : PySem.W.Frag) (Z : Er) : TDS := dSeq (dSetO 2 (oLst (dNil))) (dSeq (dFor (dItA dRange1 (dCons (dCB (L1 dLen) (dCons (dVar 1) (dNil))) (dNil))) (gN 3) (dSeq (dSet 4 (dLc (dItA dRange2 (dCons (dOp dAddA (dVar 3) (dC (.int 1))) (dCons (dOp dAddA (dCB (L1 dLen) (dCons (dVar 1) (dNil))) (dC (.int 1))) (dNil)))) [5] (gN 5) (dYes) (dOp dSub (dCB (L1 dSum2) (dCons (dSlA (dVar 1) (dP (dVar 3)) (dP (dVar 5))) (dNil))) (dCB (L1 dSum2) (dCons (dSlA (dOp dIx (dVar 0) (dC (.int 0))) (dP (dVar 3)) (dP (dVar 5))) (dNil)))))) (sApp 2 (dCB (L1 dMaxL) (dCons (dLc (dItS (dOp dAddA (dLst (dCons (dC (.int 0)) (dNil))) (dVar 4))) [6] (gN 6) (dYes) (dCB (L1 dInt) (dCons (dVar 6) (dNil)))) (dNil)))))) (dRet (dCB (L1 dTuple) (dCons (dVar 2) (dNil)))))
def S__law_into (K : PySem.W.Frag) (Z : Er) : SpD := bodyD [("_law_chain_here" : Str), ("_law_paid_here" : Str), ("_law_found" : Str), ("_law_at" : Str), ("_law_some" : Str), ("_law_end" : Str), ("_law_one" : Str)] 2 (T__law_into K Z)
theorem c__law_into {Z : Er} {f : Addr} {fd : FuncData} (F : FunD K "_law_into" "_law_into" (defArgs (top 41)) (defBody (top 41)) (defScope (top 41)) [] [] f fd) (T : Txt mg) (hN : base.NoDigits)  : FnOk P w K mg base (L2.CX P w) 1 f fd [("_law_chain_here" : Str), ("_law_paid_here" : Str)] (spD K (S__law_into K Z)) := by
  refine fn_F F sc__law_into rfl fun cdv A outer s H E pp G0 H0 hpc hr tk => ?_
  have hu := hr.units
  exact pds_cons (pds_setO (i := 2) sc__law_into.nd rfl (by first | exact Or.inl rfl | exact Or.inr rfl) (pdo_lst (pda_nil))) (pds_cons (pds_for (passes_of rfl) rfl (pdi_range1 (by rfl) T.n_range (pda_cons (pd_callB call_len r_len (by rfl) T.n_len (by decide +kernel) (pda_cons (pd_var (pv 1)) (pda_nil))) (pda_nil))) (pdg_name (i := 3) sc__law_into.nd rfl (by first | exact Or.inl rfl | exact Or.inr rfl)) (pds_cons (pds_setLc (own := [("_law_end", 5)]) (by rfl) sc__law_into.nd (i := 4) rfl rfl (by rfl) (by decide) (pdi_range2 (by rfl) T.n_range (pda_cons (pd_op op_addA r_addA (pd_var (pv 3)) (pd_cst pe_int fun _ _ _ => .int _)) (pda_cons (pd_op op_addA r_addA (pd_callB call_len r_len (by rfl) T.n_len (by decide +kernel) (pda_cons (pd_var (pv 1)) (pda_nil))) (pd_cst pe_int fun _ _ _ => .int _)) (pda_nil)))) (blkOk_by (N := [("_law_chain_here" : Str), ("_law_paid_here" : Str), ("_law_found" : Str), ("_law_at" : Str), ("_law_some" : Str), ("_law_end" : Str), ("_law_one" : Str)]) (sc := defScope (top 41)) (own := [("_law_end", 5)]) (by decide +kernel)) (fun _ _ _ _ _ => pdg_name (i := 5) sc__law_into.nd rfl (by first | exact Or.inl rfl | exact Or.inr rfl)) (fun _ _ _ _ _ => pdts_nil) (fun _ _ _ _ _ => pd_op op_sub r_sub (pd_callB (cr_sum2 rfl) r_sum2 (by rfl) T.n_sum (by decide +kernel) (pda_cons (pd_slA rfl (pd_var (pv 1)) (pdp_some (pd_var (pv 3))) (pdp_some (pd_var (pv 5)))) (pda_nil))) (pd_callB (cr_sum2 rfl) r_sum2 (by rfl) T.n_sum (by decide +kernel) (pda_cons (pd_slA rfl (pd_ix rfl (pd_var (pv 0)) (pd_cst pe_int fun _ _ _ => .int _) (fun _ _ => rfl)) (pdp_some (pd_var (pv 3))) (pdp_some (pd_var (pv 5)))) (pda_nil))))) (pds_one (pds_app (pv 2) hpc (pd_callB (cr_max rfl) r_maxL (by rfl) T.n_max (by decide +kernel) (pda_cons (pd_lc (own := [("_law_one", 6)]) (by rfl) sc__law_into.nd (by decide) (pdi_seq (pd_op op_addA r_addA (pd_lst (pda_cons (pd_cst pe_int fun _ _ _ => .int _) (pda_nil))) (pd_var (pv 4))) rfl) (blkOk_by (N := [("_law_chain_here" : Str), ("_law_paid_here" : Str), ("_law_found" : Str), ("_law_at" : Str), ("_law_some" : Str), ("_law_end" : Str), ("_law_one" : Str)]) (sc := defScope (top 41)) (own := [("_law_one", 6)]) (by decide +kernel)) (fun _ _ _ _ _ => pdg_name (i := 6) sc__law_into.nd rfl (by first | exact Or.inl rfl | exact Or.inr rfl)) (fun _ _ _ _ _ => pdts_nil) (fun _ _ _ _ _ => pd_callTy (call_intA hN) r_int (by rfl) T.n_int (by decide +kernel) (pda_cons (pd_var (pv 6)) (pda_nil)))) (pda_nil))))))) (pds_one (pds_ret (pd_callTy call_tuple_of r_tuple (by rfl) T.n_tuple (by decide +kernel) (pda_cons (pd_var (pv 2)) (pda_nil))))))
theorem sc_can_pay : FnScope [("sums" : Str), ("caps" : Str), ("spent" : Str), ("wanted" : Str), ("move" : Str), ("cap" : Str)] [("sums" : Str), ("caps" : Str), ("spent" : Str)] (defScope (top 28)) := ⟨rfl, rfl, rfl, by decide +kernel, rfl, by decide +kernel, by decide +kernel⟩
def T_can_pay (K : PySem.W.Frag) (Z : Er) : TDS := dSeq (dSet 3 (dCall (S_wanted_of K Z) (dCons (dVar 0) (dCons (dVar 2) (dNil))))) (dRet (dAndV (dOp (dEqA false) (dOp dIx (dVar 3) (dC (.int 0))) (dC (.int 0))) (dCB (L1 dAll) (dCons (dLc (dItA dZipT (dCons (dSlA (dVar 3) (dP (dC (.int 1))) (dNoP)) (dCons (dVar 1) (dNil)))) [4, 5] (gT [4, 5]) (dYes) (dOp (cmpD (fun i j => decide (i ≤ j)) fun a b => !ltS b a) (dVar 4) (dVar 5))) (dNil)))))
def S_can_pay (K : PySem.W.Frag) (Z : Er) : SpD := bodyD [("sums" : Str), ("caps" : Str), ("spent" : Str), ("wanted" : Str), ("move" : Str), ("cap" : Str)] 3 (T_can_pay K Z)
theorem c_can_pay {Z : Er} {f : Addr} {fd : FuncData} (F : FunD K "can_pay" "can_pay" (defArgs (top 28)) (defBody (top 28)) (defScope (top 28)) [] [] f fd) (T : Txt mg) (hN : base.NoDigits) {f_wanted_of : Addr} {d_wanted_of : FuncData} (G_wanted_of : FD P w K mg base "wanted_of" 1 [("sums" : Str), ("spent" : Str)] (S_wanted_of K Z) f_wanted_of d_wanted_of) : FnOk P w K mg base (L2.CX P w) 2 f fd [("sums" : Str), ("caps" : Str), ("spent" : Str)] (spD K (S_can_pay K Z)) := by
  refine fn_F F sc_can_pay rfl fun cdv A outer s H E pp G0 H0 hpc hr tk => ?_
  have hu := hr.units
  exact pds_cons (pds_set (i := 3) sc_can_pay.nd rfl (by first | exact Or.inl rfl | exact Or.inr rfl) (pd_call G_wanted_of rfl (hr.mono (by omega)) (by rfl) (fun σ => passAt tk σ) (pda_cons (pd_var (pv 0)) (pda_cons (pd_var (pv 2)) (pda_nil))))) (pds_one (pds_ret (pd_and (pd_cmp (op_eqA hu) r_eqA (pd_ix rfl (pd_var (pv 3)) (pd_cst pe_int fun _ _ _ => .int _) (fun _ _ => rfl)) (pd_cst pe_int fun _ _ _ => .int _) (nomark _)) (pd_one (pd_callB (cr_all rfl) r_all (by rfl) T.n_all (by decide +kernel) (pda_cons (pd_lc (own := [("move", 4), ("cap", 5)]) (by rfl) sc_can_pay.nd (by decide) (pdi_zipT (by rfl) T.n_zip rfl (pda_cons (pd_slA rfl (pd_var (pv 3)) (pdp_some (pd_cst pe_int fun _ _ _ => .int _)) (pdp_none)) (pda_cons (pd_var (pv 1)) (pda_nil)))) (blkOk_by (N := [("sums" : Str), ("caps" : Str), ("spent" : Str), ("wanted" : Str), ("move" : Str), ("cap" : Str)]) (sc := defScope (top 28)) (own := [("move", 4), ("cap", 5)]) (by decide +kernel)) (fun _ _ _ _ _ => pdg_tup rfl rfl (.cons (pg_name (i := 4) sc_can_pay.nd rfl (by first | exact Or.inl rfl | exact Or.inr rfl)) (.cons (pg_name (i := 5) sc_can_pay.nd rfl (by first | exact Or.inl rfl | exact Or.inr rfl)) .nil)) (pgs_cons (pg_name (i := 4) sc_can_pay.nd rfl (by first | exact Or.inl rfl | exact Or.inr rfl)) (pgs_cons (pg_name (i := 5) sc_can_pay.nd rfl (by first | exact Or.inl rfl | exact Or.inr rfl)) pgs_nil))) (fun _ _ _ _ _ => pdts_nil) (fun _ _ _ _ _ => pd_cmp op_leA r_cmp (pd_var (pv 4)) (pd_var (pv 5)) (nomark _))) (pda_nil)))))))
theorem sc_Lines_can : FnScope [("self" : Str), ("spent" : Str)] [("self" : Str), ("spent" : Str)] (defScope (inClass (top 26) 7)) := ⟨rfl, rfl, rfl, by decide +kernel, rfl, by decide +kernel, by decide +kernel⟩
def T_Lines_can (K : PySem.W.Frag) (Z : Er) : TDS := dSeq (dDrop (dCall (S_check_spent K Z) (dCons (dVar 0) (dCons (dVar 1) (dNil))))) (dRet (dCall (S_can_pay K Z) (dCons (dUn (dFld Z.Lines "sums") (dVar 0)) (dCons (dUn (dFld Z.Lines "caps") (dVar 0)) (dCons (dVar 1) (dNil))))))
def S_Lines_can (K : PySem.W.Frag) (Z : Er) : SpD := bodyD [("self" : Str), ("spent" : Str)] 2 (T_Lines_can K Z)
theorem c_Lines_can {Z : Er} {f : Addr} {fd : FuncData} (F : FunD K "can" "Lines.can" (defArgs (inClass (top 26) 7)) (defBody (inClass (top 26) 7)) (defScope (inClass (top 26) 7)) [] [] f fd) (T : Txt mg) (hN : base.NoDigits) {f_check_spent : Addr} {d_check_spent : FuncData} (G_check_spent : FD P w K mg base "check_spent" 4 [("lines" : Str), ("spent" : Str)] (S_check_spent K Z) f_check_spent d_check_spent) (FA_Lines : Fa_Lines K mg Z) {f_can_pay : Addr} {d_can_pay : FuncData} (G_can_pay : FD P w K mg base "can_pay" 2 [("sums" : Str), ("caps" : Str), ("spent" : Str)] (S_can_pay K Z) f_can_pay d_can_pay) : FnOk P w K mg base (L2.CX P w) 5 f fd [("self" : Str), ("spent" : Str)] (spD K (S_Lines_can K Z)) := by
  refine fn_F F sc_Lines_can rfl fun cdv A outer s H E pp G0 H0 hpc hr tk => ?_
  have hu := hr.units
  exact pds_cons (pds_expr (pd_call G_check_spent rfl (hr.mono (by omega)) (by rfl) (fun σ => passAt tk σ) (pda_cons (pd_var (pv 0)) (pda_cons (pd_var (pv 1)) (pda_nil))))) (pds_one (pds_ret (pd_call G_can_pay rfl (hr.mono (by omega)) (by rfl) (fun σ => passAt tk σ) (pda_cons (pd_fld rfl FA_Lines.cl FA_Lines.na_sums (pd_var (pv 0))) (pda_cons (pd_fld rfl FA_Lines.cl FA_Lines.na_caps (pd_var (pv 0))) (pda_cons (pd_var (pv 1)) (pda_nil)))))))
theorem sc_left_with : FnScope [("sums" : Str), ("spent" : Str), ("moves" : Str), ("into" : Str), ("on" : Str), ("k" : Str)] [("sums" : Str), ("spent" : Str), ("moves" : Str)] (defScope (top 29)) := ⟨rfl, rfl, rfl, by decide +kernel, rfl, by decide +kernel, by decide +kernel⟩
def T_left_with (K : PySem.W.Frag) (Z : Er) : TDS := dSeq (dSet 3 (dOp dAddA (dTup (dCons (dC (.int 0)) (dNil))) (dVar 2))) (dSeq (dSet 4 (dOp dAddA (dVar 2) (dTup (dCons (dC (.int 0)) (dNil))))) (dRet (dCB (L1 dTuple) (dCons (dLc (dItA dRange1 (dCons (dCB (L1 dLen) (dCons (dVar 0) (dNil))) (dNil))) [5] (gN 5) (dYes) (dOp dSub (dOp dSub (dOp dAddA (dOp dIx (dVar 0) (dVar 5)) (dOp dIx (dVar 3) (dVar 5))) (dOp dIx (dVar 1) (dVar 5))) (dOp dIx (dVar 4) (dVar 5)))) (dNil)))))
def S_left_with (K : PySem.W.Frag) (Z : Er) : SpD := bodyD [("sums" : Str), ("spent" : Str), ("moves" : Str), ("into" : Str), ("on" : Str), ("k" : Str)] 3 (T_left_with K Z)
theorem c_left_with {Z : Er} {f : Addr} {fd : FuncData} (F : FunD K "left_with" "left_with" (defArgs (top 29)) (defBody (top 29)) (defScope (top 29)) [] [] f fd) (T : Txt mg) (hN : base.NoDigits)  : FnOk P w K mg base (L2.CX P w) 1 f fd [("sums" : Str), ("spent" : Str), ("moves" : Str)] (spD K (S_left_with K Z)) := by
  refine fn_F F sc_left_with rfl fun cdv A outer s H E pp G0 H0 hpc hr tk => ?_
  have hu := hr.units
  exact pds_cons (pds_set (i := 3) sc_left_with.nd rfl (by first | exact Or.inl rfl | exact Or.inr rfl) (pd_op op_addA r_addA (pd_tup (pda_cons (pd_cst pe_int fun _ _ _ => .int _) (pda_nil))) (pd_var (pv 2)))) (pds_cons (pds_set (i := 4) sc_left_with.nd rfl (by first | exact Or.inl rfl | exact Or.inr rfl) (pd_op op_addA r_addA (pd_var (pv 2)) (pd_tup (pda_cons (pd_cst pe_int fun _ _ _ => .int _) (pda_nil))))) (pds_one (pds_ret (pd_callTy call_tuple_of r_tuple (by rfl) T.n_tuple (by decide +kernel) (pda_cons (pd_lc (own := [("k", 5)]) (by rfl) sc_left_with.nd (by decide) (pdi_range1 (by rfl) T.n_range (pda_cons (pd_callB call_len r_len (by rfl) T.n_len (by decide +kernel) (pda_cons (pd_var (pv 0)) (pda_nil))) (pda_nil))) (blkOk_by (N := [("sums" : Str), ("spent" : Str), ("moves" : Str), ("into" : Str), ("on" : Str), ("k" : Str)]) (sc := defScope (top 29)) (own := [("k", 5)]) (by decide +kernel)) (fun _ _ _ _ _ => pdg_name (i := 5) sc_left_with.nd rfl (by first | exact Or.inl rfl | exact Or.inr rfl)) (fun _ _ _ _ _ => pdts_nil) (fun _ _ _ _ _ => pd_op op_sub r_sub (pd_op op_sub r_sub (pd_op op_addA r_addA (pd_ix rfl (pd_var (pv 0)) (pd_var (pv 5)) (fun _ _ => rfl)) (pd_ix rfl (pd_var (pv 3)) (pd_var (pv 5)) (fun _ _ => rfl))) (pd_ix rfl (pd_var (pv 1)) (pd_var (pv 5)) (fun _ _ => rfl))) (pd_ix rfl (pd_var (pv 4)) (pd_var (pv 5)) (fun _ _ => rfl)))) (pda_nil))))))
theorem sc_Lines_left_by : FnScope [("self" : Str), ("spent" : Str)] [("self" : Str), ("spent" : Str)] (defScope (inClass (top 26) 8)) := ⟨rfl, rfl, rfl, by decide +kernel, rfl, by decide +kernel, by decide +kernel⟩
def T_Lines_left_by (K : PySem.W.Frag) (Z : Er) : TDS := dSeq (dDrop (dCall (S_check_spent K Z) (dCons (dVar 0) (dCons (dVar 1) (dNil))))) (dSeq (dIfS (dNot (dTru (dCall (S_can_pay K Z) (dCons (dUn (dFld Z.Lines "sums") (dVar 0)) (dCons (dUn (dFld Z.Lines "caps") (dVar 0)) (dCons (dVar 1) (dNil))))))) (dRaise1 Z.BadLines "part" (dC (.str "short"))) (dNext)) (dRet (dCall (S_left_with K Z) (dCons (dUn (dFld Z.Lines "sums") (dVar 0)) (dCons (dVar 1) (dCons (dSlA (dCall (S_wanted_of K Z) (dCons (dUn (dFld Z.Lines "sums") (dVar 0)) (dCons (dVar 1) (dNil)))) (dP (dC (.int 1))) (dNoP)) (dNil)))))))
def S_Lines_left_by (K : PySem.W.Frag) (Z : Er) : SpD := bodyD [("self" : Str), ("spent" : Str)] 2 (T_Lines_left_by K Z)
theorem c_Lines_left_by {Z : Er} {f : Addr} {fd : FuncData} (F : FunD K "left_by" "Lines.left_by" (defArgs (inClass (top 26) 8)) (defBody (inClass (top 26) 8)) (defScope (inClass (top 26) 8)) [] [] f fd) (T : Txt mg) (hN : base.NoDigits) {f_check_spent : Addr} {d_check_spent : FuncData} (G_check_spent : FD P w K mg base "check_spent" 4 [("lines" : Str), ("spent" : Str)] (S_check_spent K Z) f_check_spent d_check_spent) (FA_Lines : Fa_Lines K mg Z) {f_can_pay : Addr} {d_can_pay : FuncData} (G_can_pay : FD P w K mg base "can_pay" 2 [("sums" : Str), ("caps" : Str), ("spent" : Str)] (S_can_pay K Z) f_can_pay d_can_pay) {i_BadLines : Addr} {e_BadLines : FuncData} (X_BadLines : Cl1 P w K mg base "BadLines" "part" Z.BadLines i_BadLines e_BadLines) {f_wanted_of : Addr} {d_wanted_of : FuncData} (G_wanted_of : FD P w K mg base "wanted_of" 1 [("sums" : Str), ("spent" : Str)] (S_wanted_of K Z) f_wanted_of d_wanted_of) {f_left_with : Addr} {d_left_with : FuncData} (G_left_with : FD P w K mg base "left_with" 1 [("sums" : Str), ("spent" : Str), ("moves" : Str)] (S_left_with K Z) f_left_with d_left_with) : FnOk P w K mg base (L2.CX P w) 5 f fd [("self" : Str), ("spent" : Str)] (spD K (S_Lines_left_by K Z)) := by
  refine fn_F F sc_Lines_left_by rfl fun cdv A outer s H E pp G0 H0 hpc hr tk => ?_
  have hu := hr.units
  exact pds_cons (pds_expr (pd_call G_check_spent rfl (hr.mono (by omega)) (by rfl) (fun σ => passAt tk σ) (pda_cons (pd_var (pv 0)) (pda_cons (pd_var (pv 1)) (pda_nil))))) (pds_cons (pds_if (pdt_not (pdt_truth rfl (pd_call G_can_pay rfl (hr.mono (by omega)) (by rfl) (fun σ => passAt tk σ) (pda_cons (pd_fld rfl FA_Lines.cl FA_Lines.na_sums (pd_var (pv 0))) (pda_cons (pd_fld rfl FA_Lines.cl FA_Lines.na_caps (pd_var (pv 0))) (pda_cons (pd_var (pv 1)) (pda_nil))))))) (pds_one (pds_raise1 X_BadLines rfl rfl tk (hr.mono (by omega)) (by rfl) (pd_cst pe_str fun _ _ _ => .str _))) (pds_nil)) (pds_one (pds_ret (pd_call G_left_with rfl (hr.mono (by omega)) (by rfl) (fun σ => passAt tk σ) (pda_cons (pd_fld rfl FA_Lines.cl FA_Lines.na_sums (pd_var (pv 0))) (pda_cons (pd_var (pv 1)) (pda_cons (pd_slA rfl (pd_call G_wanted_of rfl (hr.mono (by omega)) (by rfl) (fun σ => passAt tk σ) (pda_cons (pd_fld rfl FA_Lines.cl FA_Lines.na_sums (pd_var (pv 0))) (pda_cons (pd_var (pv 1)) (pda_nil)))) (pdp_some (pd_cst pe_int fun _ _ _ => .int _)) (pdp_none)) (pda_nil))))))))
theorem sc__law_told : FnScope [("_law_made" : Str), ("_law_paid_here" : Str), ("_law_caught" : Str), ("error" : Str)] [("_law_made" : Str), ("_law_paid_here" : Str)] (defScope (top 43)) := ⟨rfl, rfl, rfl, by decide +kernel, rfl, by decide +kernel, by decide +kernel⟩
def T__law_told (K : PySem.W.Frag) (Z : Er) : TDS := dSeq (dSet 2 (dC .non)) (dSeq (dTryK K (.ref Z.StayError) 3 2 (dRet (dMeth Z.Lines "left_by" (S_Lines_left_by K Z) (dVar 0) (dCons (dVar 1) (dNil))))) (dRet (dIf (dAnd (dTru (dCB (L2' (dIsiE K)) (dCons (dVar 2) (dCons (dC (.fn Z.BadLines)) (dNil))))) (dTst (dOp (dEqA false) (dUn (dFldE Z.BadLines "part") (dVar 2)) (dC (.str "short"))))) (dC .non) (dC (.str "odd")))))
def S__law_told (K : PySem.W.Frag) (Z : Er) : SpD := bodyD [("_law_made" : Str), ("_law_paid_here" : Str), ("_law_caught" : Str), ("error" : Str)] 2 (T__law_told K Z)
theorem c__law_told {Z : Er} {f : Addr} {fd : FuncData} (F : FunD K "_law_told" "_law_told" (defArgs (top 43)) (defBody (top 43)) (defScope (top 43)) [] [] f fd) (T : Txt mg) (hN : base.NoDigits) {g_Lines_left_by : Addr} (O_Lines_left_by : Ow K Z.Lines "left_by" g_Lines_left_by) (R_Lines_left_by : FR P w K mg base 5 g_Lines_left_by (S_Lines_left_by K Z)) (FA_Lines : Fa_Lines K mg Z) (EC_StayError : EcF K mg "StayError" Z.StayError) (EC_BadLines : EcF K mg "BadLines" Z.BadLines) (EN_BadLines_part : PySem.W.findIn K (.ref Z.BadLines) "part" = some none) : FnOk P w K mg base (L2.CX P w) 6 f fd [("_law_made" : Str), ("_law_paid_here" : Str)] (spD K (S__law_told K Z)) := by
  refine fn_F F sc__law_told rfl fun cdv A outer s H E pp G0 H0 hpc hr tk => ?_
  have hu := hr.units
  exact pds_cons (pds_set (i := 2) sc__law_told.nd rfl (by first | exact Or.inl rfl | exact Or.inr rfl) (pd_cst pe_non fun _ _ _ => .non)) (pds_cons (pds_tryK (i := 3) (j := 2) rfl rfl rfl sc__law_told.nd rfl rfl rfl (Or.inl rfl) (by decide) ⟨by rfl, by decide, .inl EC_StayError.gl⟩ tk (Or.inl rfl) (Or.inl rfl) (fun G1 W1 pn1 xe1 tk ps1 => pds_one (pds_ret (pd_meth rfl FA_Lines.cl O_Lines_left_by R_Lines_left_by (hr.mono (by omega)) (fun σ => passAt tk σ) (pd_var (pv 0)) (pda_cons (pd_var (pv 1)) (pda_nil)))))) (pds_one (pds_ret (pd_ifExp (PW.pt (pdw_and (pdt_truth rfl (pd_callB call_isiE r_isiE (by rfl) T.n_isinstance (by decide +kernel) (pda_cons (pd_var (pv 2)) (pda_cons (pd_cls rfl (by rfl) EC_BadLines.gl EC_BadLines.lk) (pda_nil))))) (pdw_and1 (pdt_cmp (op_eqA hu) r_eqA (pd_fldE EC_BadLines.ex EN_BadLines_part (pd_var (pv 2))) (pd_cst pe_str fun _ _ _ => .str _) (nomark _))))) (pd_cst pe_non fun _ _ _ => .non) (pd_cst pe_str fun _ _ _ => .str _)))))
theorem sc__law_left : FnScope [("_law_chain_here" : Str), ("_law_paid_here" : Str), ("_law_into_here" : Str), ("_law_at" : Str)] [("_law_chain_here" : Str), ("_law_paid_here" : Str)] (defScope (top 42)) := ⟨rfl, rfl, rfl, by decide +kernel, rfl, by decide +kernel, by decide +kernel⟩
def T__law_left (K : PySem.W.Frag) (Z : Er) : TDS := dSeq (dSet 2 (dOp dAddA (dCB (L1 dList) (dCons (dCall (S__law_into K Z) (dCons (dVar 0) (dCons (dVar 1) (dNil)))) (dNil))) (dLst (dCons (dC (.int 0)) (dNil))))) (dRet (dCB (L1 dTuple) (dCons (dLc (dItA dRange1 (dCons (dCB (L1 dLen) (dCons (dVar 1) (dNil))) (dNil))) [3] (gN 3) (dYes) (dOp dSub (dOp dSub (dOp dAddA (dOp dIx (dOp dIx (dVar 0) (dC (.int 0))) (dVar 3)) (dOp dIx (dVar 2) (dVar 3))) (dOp dIx (dVar 1) (dVar 3))) (dOp dIx (dVar 2) (dOp dAddA (dVar 3) (dC (.int 1)))))) (dNil))))
def S__law_left (K : PySem.W.Frag) (Z : Er) : SpD := bodyD [("_law_chain_here" : Str), ("_law_paid_here" : Str), ("_law_into_here" : Str), ("_law_at" : Str)] 2 (T__law_left K Z)
theorem c__law_left {Z : Er} {f : Addr} {fd : FuncData} (F : FunD K "_law_left" "_law_left" (defArgs (top 42)) (defBody (top 42)) (defScope (top 42)) [] [] f fd) (T : Txt mg) (hN : base.NoDigits) {f__law_into : Addr} {d__law_into : FuncData} (G__law_into : FD P w K mg base "_law_into" 1 [("_law_chain_here" : Str), ("_law_paid_here" : Str)] (S__law_into K Z) f__law_into d__law_into) : FnOk P w K mg base (L2.CX P w) 2 f fd [("_law_chain_here" : Str), ("_law_paid_here" : Str)] (spD K (S__law_left K Z)) := by
  refine fn_F F sc__law_left rfl fun cdv A outer s H E pp G0 H0 hpc hr tk => ?_
  have hu := hr.units
  exact pds_cons (pds_set (i := 2) sc__law_left.nd rfl (by first | exact Or.inl rfl | exact Or.inr rfl) (pd_op op_addA r_addA (pd_callTy call_list_of r_list (by rfl) T.n_list (by decide +kernel) (pda_cons (pd_call G__law_into rfl (hr.mono (by omega)) (by rfl) (fun σ => passAt tk σ) (pda_cons (pd_var (pv 0)) (pda_cons (pd_var (pv 1)) (pda_nil)))) (pda_nil))) (pd_lst (pda_cons (pd_cst pe_int fun _ _ _ => .int _) (pda_nil))))) (pds_one (pds_ret (pd_callTy call_tuple_of r_tuple (by rfl) T.n_tuple (by decide +kernel) (pda_cons (pd_lc (own := [("_law_at", 3)]) (by rfl) sc__law_left.nd (by decide) (pdi_range1 (by rfl) T.n_range (pda_cons (pd_callB call_len r_len (by rfl) T.n_len (by decide +kernel) (pda_cons (pd_var (pv 1)) (pda_nil))) (pda_nil))) (blkOk_by (N := [("_law_chain_here" : Str), ("_law_paid_here" : Str), ("_law_into_here" : Str), ("_law_at" : Str)]) (sc := defScope (top 42)) (own := [("_law_at", 3)]) (by decide +kernel)) (fun _ _ _ _ _ => pdg_name (i := 3) sc__law_left.nd rfl (by first | exact Or.inl rfl | exact Or.inr rfl)) (fun _ _ _ _ _ => pdts_nil) (fun _ _ _ _ _ => pd_op op_sub r_sub (pd_op op_sub r_sub (pd_op op_addA r_addA (pd_ix rfl (pd_ix rfl (pd_var (pv 0)) (pd_cst pe_int fun _ _ _ => .int _) (fun _ _ => rfl)) (pd_var (pv 3)) (fun _ _ => rfl)) (pd_ix rfl (pd_var (pv 2)) (pd_var (pv 3)) (fun _ _ => rfl))) (pd_ix rfl (pd_var (pv 1)) (pd_var (pv 3)) (fun _ _ => rfl))) (pd_ix rfl (pd_var (pv 2)) (pd_op op_addA r_addA (pd_var (pv 3)) (pd_cst pe_int fun _ _ _ => .int _)) (fun _ _ => rfl)))) (pda_nil)))))
theorem sc_Lines___eq__ : FnScope [("self" : Str), ("other" : Str)] [("self" : Str), ("other" : Str)] (defScope (inClass (top 26) 11)) := ⟨rfl, rfl, rfl, by decide +kernel, rfl, by decide +kernel, by decide +kernel⟩
def T_Lines___eq__ (K : PySem.W.Frag) (Z : Er) : TDS := dRet (dAndV (dCB (L2' (dIsi K)) (dCons (dVar 1) (dCons (dC (.fn Z.Lines)) (dNil)))) (dAndV (dOp (dEqA false) (dUn (dFld Z.Lines "sums") (dVar 0)) (dUn (dFld Z.Lines "sums") (dVar 1))) (dOp (dEqA false) (dUn (dFld Z.Lines "caps") (dVar 0)) (dUn (dFld Z.Lines "caps") (dVar 1)))))
def S_Lines___eq__ (K : PySem.W.Frag) (Z : Er) : SpD := bodyD [("self" : Str), ("other" : Str)] 2 (T_Lines___eq__ K Z)
theorem c_Lines___eq__ {Z : Er} {f : Addr} {fd : FuncData} (F : FunD K "__eq__" "Lines.__eq__" (defArgs (inClass (top 26) 11)) (defBody (inClass (top 26) 11)) (defScope (inClass (top 26) 11)) [] [] f fd) (T : Txt mg) (hN : base.NoDigits) (FA_Lines : Fa_Lines K mg Z) : FnOk P w K mg base (L2.CX P w) 1 f fd [("self" : Str), ("other" : Str)] (spD K (S_Lines___eq__ K Z)) := by
  refine fn_F F sc_Lines___eq__ rfl fun cdv A outer s H E pp G0 H0 hpc hr tk => ?_
  have hu := hr.units
  exact pds_one (pds_ret (pd_and (pd_callB call_isi r_isi (by rfl) T.n_isinstance (by decide +kernel) (pda_cons (pd_var (pv 1)) (pda_cons (pd_cls rfl (by rfl) FA_Lines.gl FA_Lines.lk) (pda_nil)))) (pd_and (pd_cmp (op_eqA hu) r_eqA (pd_fld rfl FA_Lines.cl FA_Lines.na_sums (pd_var (pv 0))) (pd_fld rfl FA_Lines.cl FA_Lines.na_sums (pd_var (pv 1))) (nomark _)) (pd_one (pd_cmp (op_eqA hu) r_eqA (pd_fld rfl FA_Lines.cl FA_Lines.na_caps (pd_var (pv 0))) (pd_fld rfl FA_Lines.cl FA_Lines.na_caps (pd_var (pv 1))) (nomark _))))))
theorem sc__law_right : FnScope [("_law_pen_here" : Str), ("_law_chain_here" : Str), ("_law_made" : Str), ("_law_low" : Str), ("_law_turn" : Str), ("_law_many" : Str), ("_law_first" : Str), ("_law_into_here" : Str), ("_law_told_here" : Str), ("_law_paid_here" : Str), ("_law_is_let" : Str), ("_law_one" : Str), ("_law_high" : Str), ("_law_line" : Str), ("_law_two" : Str)] [("_law_pen_here" : Str)] (defScope (top 44)) := ⟨rfl, rfl, rfl, by decide +kernel, rfl, by decide +kernel, by decide +kernel⟩
def T__law_right_11_0 (K : PySem.W.Frag) (Z : Er) : TDS := dSet 9 (dCall (S__law_paid K Z) (dCons (dVar 0) (dCons (dVar 5) (dNil))))
def T__law_right_11_1 (K : PySem.W.Frag) (Z : Er) : TDS := dSet 10 (dOp (dEqA false) (dCall (S__law_shorts K Z) (dCons (dVar 1) (dCons (dVar 9) (dNil)))) (dLst (dNil)))
def T__law_right_11_2 (K : PySem.W.Frag) (Z : Er) : TDS := dIfS (dOr (dTst (dOp (dEqA true) (dMeth Z.Lines "wanted" (S_Lines_wanted K Z) (dVar 2) (dCons (dVar 9) (dNil))) (dCall (S__law_into K Z) (dCons (dVar 1) (dCons (dVar 9) (dNil)))))) (dTst (dOp (dEqA true) (dMethK Z.Lines "wanted" (spPick [0, 1] (S_Lines_wanted K Z)) 1 (dVar 2) (dCons (dCB (L1 dTuple) (dCons (dVar 9) (dNil))) (dNil))) (dCall (S__law_into K Z) (dCons (dVar 1) (dCons (dVar 9) (dNil))))))) (dRet (dC (.bl false))) (dNext)
def T__law_right_11_3 (K : PySem.W.Frag) (Z : Er) : TDS := dIfS (dTst (dOp (dEqA true) (dCB (fun ds Q => ∃ d, ds = [d] ∧ dRepr d Q) (dCons (dLst (dCons (dMeth Z.Lines "can" (S_Lines_can K Z) (dVar 2) (dCons (dCB (L1 dTuple) (dCons (dVar 9) (dNil))) (dNil))) (dCons (dMethK Z.Lines "can" (spPick [0, 1] (S_Lines_can K Z)) 1 (dVar 2) (dCons (dVar 9) (dNil))) (dNil)))) (dNil))) (dCB (fun ds Q => ∃ d, ds = [d] ∧ dRepr d Q) (dCons (dLst (dCons (dVar 10) (dCons (dVar 10) (dNil)))) (dNil))))) (dRet (dC (.bl false))) (dNext)
def T__law_right_11_4 (K : PySem.W.Frag) (Z : Er) : TDS := dIfS (dTst (dOp (dEqA true) (dCall (S__law_told K Z) (dCons (dVar 2) (dCons (dVar 9) (dNil)))) (dIf (dTru (dVar 10)) (dCall (S__law_left K Z) (dCons (dVar 1) (dCons (dVar 9) (dNil)))) (dC .non)))) (dRet (dC (.bl false))) (dNext)
def T__law_right_0 (K : PySem.W.Frag) (Z : Er) : TDS := dSet 1 (dCall (S__law_chain K Z) (dCons (dVar 0) (dNil)))
def T__law_right_1 (K : PySem.W.Frag) (Z : Er) : TDS := dPar3 5 6 7 (dCB (L1 dLen) (dCons (dOp dIx (dVar 1) (dC (.int 0))) (dNil))) (dOp dIx (dVar 1) (dC (.int 0))) (dOp dIx (dVar 1) (dC (.int 1)))
def T__law_right_2 (K : PySem.W.Frag) (Z : Er) : TDS := dSet 2 (dPkN (dMake Z.Lines (S_Lines___init__ K Z) (dCons (dVar 6) (dCons (dVar 7) (dNil)))))
def T__law_right_3 (K : PySem.W.Frag) (Z : Er) : TDS := sApp 6 (dC (.int 7))
def T__law_right_4 (K : PySem.W.Frag) (Z : Er) : TDS := sIxL 6 (dC (.int 0)) (dC (.int 99))
def T__law_right_5 (K : PySem.W.Frag) (Z : Er) : TDS := sApp 7 (dC (.int 7))
def T__law_right_6 (K : PySem.W.Frag) (Z : Er) : TDS := sIxL 7 (dC (.int 0)) (dC (.int 99))
def T__law_right_7 (K : PySem.W.Frag) (Z : Er) : TDS := dIfS (dOr (dTst (dOp (dEqA true) (dCB (fun ds Q => ∃ d, ds = [d] ∧ dRepr d Q) (dCons (dLst (dCons (dUn (dFld Z.Lines "sums") (dVar 2)) (dCons (dUn (dFld Z.Lines "caps") (dVar 2)) (dNil)))) (dNil))) (dCB (fun ds Q => ∃ d, ds = [d] ∧ dRepr d Q) (dCons (dLst (dCons (dCB (L1 dTuple) (dCons (dOp dIx (dVar 1) (dC (.int 0))) (dNil))) (dCons (dCB (L1 dTuple) (dCons (dOp dIx (dVar 1) (dC (.int 1))) (dNil))) (dNil)))) (dNil))))) (dTst (dOp (dEqA true) (dStep (rdLen Z.Lines (S_Lines___len__ K Z)) (dCons (dVar 2) (dNil))) (dVar 5)))) (dRet (dC (.bl false))) (dNext)
def T__law_right_8 (K : PySem.W.Frag) (Z : Er) : TDS := dIfS (dOr (dTst (dOp (dEqA true) (dLc (dOwnIt Z.Lines "sums" (dVar 2)) [11] (gN 11) (dYes) (dVar 11)) (dOp dIx (dVar 1) (dC (.int 0))))) (dTst (dOp (dEqA true) (dLc (dItA dRange2 (dCons (dC (.int 1)) (dCons (dOp dAddA (dVar 5) (dC (.int 1))) (dNil)))) [13] (gN 13) (dYes) (dStep (rdGet Z.Lines (S_Lines___getitem__ K Z)) (dTwo (dVar 2) (dVar 13)))) (dOp dIx (dVar 1) (dC (.int 0)))))) (dRet (dC (.bl false))) (dNext)
def T__law_right_9 (K : PySem.W.Frag) (Z : Er) : TDS := dIfS (dTst (dOp (dEqA true) (dLc (dItA (dZipO Z.Lines "sums") (dCons (dVar 2) (dCons (dVar 2) (dNil)))) [11, 14] (gT [11, 14]) (dYes) (dTup (dCons (dVar 11) (dCons (dVar 14) (dNil))))) (dLc (dItS (dOp dIx (dVar 1) (dC (.int 0)))) [11] (gN 11) (dYes) (dTup (dCons (dVar 11) (dCons (dVar 11) (dNil))))))) (dRet (dC (.bl false))) (dNext)
def T__law_right_10 (K : PySem.W.Frag) (Z : Er) : TDS := dFor (dItA dRange2 (dCons (dC (.int 1)) (dCons (dOp dAddA (dVar 5) (dC (.int 1))) (dNil)))) (gN 3) (dSeq (dSet 8 (dLc (dItA dRange2 (dCons (dVar 3) (dCons (dOp dAddA (dVar 5) (dC (.int 1))) (dNil)))) [12] (gN 12) (dYes) (dMeth Z.Lines "reach" (S_Lines_reach K Z) (dVar 2) (dCons (dVar 3) (dCons (dVar 12) (dNil)))))) (dIfS (dTst (dOp (dEqA true) (dVar 8) (dLc (dItA dRange2 (dCons (dVar 3) (dCons (dOp dAddA (dVar 5) (dC (.int 1))) (dNil)))) [12] (gN 12) (dYes) (dCall (S__law_there K Z) (dCons (dVar 1) (dCons (dVar 3) (dCons (dVar 12) (dNil)))))))) (dRet (dC (.bl false))) (dNext)))
def T__law_right_11 (K : PySem.W.Frag) (Z : Er) : TDS := dFor (dItA dRange1 (dCons (dC (.int 5)) (dNil))) (gN 4) (dSeq (T__law_right_11_0 K Z) (dSeq (T__law_right_11_1 K Z) (dSeq (T__law_right_11_2 K Z) (dSeq (T__law_right_11_3 K Z) (T__law_right_11_4 K Z)))))
def T__law_right_12 (K : PySem.W.Frag) (Z : Er) : TDS := dRet (dAndV (dStep (rdOwn Z.Lines (sideC K Z.Lines) (S_Lines___eq__ K Z)) (dTwo (dVar 2) (dMakeKw Z.Lines 2 (spPickI [1, 0] (S_Lines___init__ K Z)) (dCons (dOp dIx (dVar 1) (dC (.int 1))) (dCons (dCB (L1 dTuple) (dCons (dOp dIx (dVar 1) (dC (.int 0))) (dNil))) (dNil)))))) (dOp (dEqA false) (dMethK Z.Lines "reach" (spPick [0, 2, 1] (S_Lines_reach K Z)) 2 (dVar 2) (dCons (dVar 5) (dCons (dC (.int 1)) (dNil)))) (dCB (L1 dSum2) (dCons (dOp dIx (dVar 1) (dC (.int 0))) (dNil)))))
def T__law_right (K : PySem.W.Frag) (Z : Er) : TDS := dSeq (T__law_right_0 K Z) (dSeq (T__law_right_1 K Z) (dSeq (T__law_right_2 K Z) (dSeq (T__law_right_3 K Z) (dSeq (T__law_right_4 K Z) (dSeq (T__law_right_5 K Z) (dSeq (T__law_right_6 K Z) (dSeq (T__law_right_7 K Z) (dSeq (T__law_right_8 K Z) (dSeq (T__law_right_9 K Z) (dSeq (T__law_right_10 K Z) (dSeq (T__law_right_11 K Z) (T__law_right_12 K Z))))))))))))
def S__law_right (K : PySem.W.Frag) (Z : Er) : SpD := bodyD [("_law_pen_here" : Str), ("_law_chain_here" : Str), ("_law_made" : Str), ("_law_low" : Str), ("_law_turn" : Str), ("_law_many" : Str), ("_law_first" : Str), ("_law_into_here" : Str), ("_law_told_here" : Str), ("_law_paid_here" : Str), ("_law_is_let" : Str), ("_law_one" : Str), ("_law_high" : Str), ("_law_line" : Str), ("_law_two" : Str)] 1 (T__law_right K Z)
theorem c__law_right {Z : Er} {f : Addr} {fd : FuncData} (F : FunD K "_law_right" "_law_right" (defArgs (top 44)) (defBody (top 44)) (defScope (top 44)) [] [] f fd) (T : Txt mg) (hN : base.NoDigits) (hSy : ∃ m, base.Ns sysModules m) {f__law_chain : Addr} {d__law_chain : FuncData} (G__law_chain : FD P w K mg base "_law_chain" 3 [("_law_pen_here" : Str)] (S__law_chain K Z) f__law_chain d__law_chain) (FA_Lines : Fa_Lines K mg Z) {g_Lines___init__ : Addr} (M_Lines : Mk K Z.Lines g_Lines___init__) (RI_Lines_2 : FRI P w K mg base 4 Z.Lines g_Lines___init__ (S_Lines___init__ K Z)) {g_Lines___len__ : Addr} (O_Lines___len__ : Ow K Z.Lines "__len__" g_Lines___len__) (R_Lines___len__ : FR P w K mg base 1 g_Lines___len__ (S_Lines___len__ K Z)) {g_Lines___iter__ : Addr} (O_Lines___iter__ : Ow K Z.Lines "__iter__" g_Lines___iter__) (R_Lines___iter__ : FIt P w K mg base 1 Z.Lines g_Lines___iter__ "sums") {g_Lines___getitem__ : Addr} (O_Lines___getitem__ : Ow K Z.Lines "__getitem__" g_Lines___getitem__) (R_Lines___getitem__ : FR P w K mg base 3 g_Lines___getitem__ (S_Lines___getitem__ K Z)) {g_Lines_reach : Addr} (O_Lines_reach : Ow K Z.Lines "reach" g_Lines_reach) (R_Lines_reach : FR P w K mg base 3 g_Lines_reach (S_Lines_reach K Z)) {f__law_there : Addr} {d__law_there : FuncData} (G__law_there : FD P w K mg base "_law_there" 1 [("_law_chain_here" : Str), ("_law_low" : Str), ("_law_high" : Str)] (S__law_there K Z) f__law_there d__law_there) {f__law_paid : Addr} {d__law_paid : FuncData} (G__law_paid : FD P w K mg base "_law_paid" 3 [("_law_pen_here" : Str), ("_law_many" : Str)] (S__law_paid K Z) f__law_paid d__law_paid) {f__law_shorts : Addr} {d__law_shorts : FuncData} (G__law_shorts : FD P w K mg base "_law_shorts" 2 [("_law_chain_here" : Str), ("_law_paid_here" : Str)] (S__law_shorts K Z) f__law_shorts d__law_shorts) {g_Lines_wanted : Addr} (O_Lines_wanted : Ow K Z.Lines "wanted" g_Lines_wanted) (R_Lines_wanted : FR P w K mg base 5 g_Lines_wanted (S_Lines_wanted K Z)) {f__law_into : Addr} {d__law_into : FuncData} (G__law_into : FD P w K mg base "_law_into" 1 [("_law_chain_here" : Str), ("_law_paid_here" : Str)] (S__law_into K Z) f__law_into d__law_into) (RK_Lines_wanted_spent : FKW P w K mg base 5 g_Lines_wanted 1 [("spent" : Str)] (spPick [0, 1] (S_Lines_wanted K Z))) {g_Lines_can : Addr} (O_Lines_can : Ow K Z.Lines "can" g_Lines_can) (R_Lines_can : FR P w K mg base 5 g_Lines_can (S_Lines_can K Z)) (RK_Lines_can_spent : FKW P w K mg base 5 g_Lines_can 1 [("spent" : Str)] (spPick [0, 1] (S_Lines_can K Z))) {f__law_told : Addr} {d__law_told : FuncData} (G__law_told : FD P w K mg base "_law_told" 6 [("_law_made" : Str), ("_law_paid_here" : Str)] (S__law_told K Z) f__law_told d__law_told) {f__law_left : Addr} {d__law_left : FuncData} (G__law_left : FD P w K mg base "_law_left" 2 [("_law_chain_here" : Str), ("_law_paid_here" : Str)] (S__law_left K Z) f__law_left d__law_left) {g_Lines___eq__ : Addr} (O_Lines___eq__ : Ow K Z.Lines "__eq__" g_Lines___eq__) (R_Lines___eq__ : FR P w K mg base 1 g_Lines___eq__ (S_Lines___eq__ K Z)) (RK_Lines_caps_sums : FIK P w K mg base 4 Z.Lines g_Lines___init__ [("caps" : Str), ("sums" : Str)] (spPickI [1, 0] (S_Lines___init__ K Z))) (RK_Lines_reach_j_i : FKW P w K mg base 3 g_Lines_reach 1 [("j" : Str), ("i" : Str)] (spPick [0, 2, 1] (S_Lines_reach K Z))) : FnG P w K mg base (L2.CX P w) 7 f fd [("_law_pen_here" : Str)] (spD K (S__law_right K Z)) := by
  refine fn_G F sc__law_right rfl fun cdv A outer s H E pp G0 H0 hpc hG hr tk => ?_
  have hu := hr.units
  exact pds_cons (pds_set (i := 1) sc__law_right.nd rfl (by first | exact Or.inl rfl | exact Or.inr rfl) (pd_call G__law_chain rfl (hr.mono (by omega)) (by rfl) (fun σ => passAt tk σ) (pda_cons (pd_var (pv 0)) (pda_nil)))) (pds_cons (pds_par3L (i := 5) (j := 6) (l := 7) rfl rfl sc__law_right.nd rfl rfl rfl (by decide) (by decide) (by decide) rfl rfl rfl (by rfl) T.n_list (pd_callB call_len r_len (by rfl) T.n_len (by decide +kernel) (pda_cons (pd_ix rfl (pd_var (pv 1)) (pd_cst pe_int fun _ _ _ => .int _) (fun _ _ => rfl)) (pda_nil))) (pd_ix rfl (pd_var (pv 1)) (pd_cst pe_int fun _ _ _ => .int _) (fun _ _ => rfl)) (pd_ix rfl (pd_var (pv 1)) (pd_cst pe_int fun _ _ _ => .int _) (fun _ _ => rfl)) (by rfl)) (pds_cons (pds_set (i := 2) sc__law_right.nd rfl (by first | exact Or.inl rfl | exact Or.inr rfl) (pd_pkN (pd_make M_Lines RI_Lines_2 rfl (hr.mono (by omega)) (by rfl) FA_Lines.gl (fun σ => passAt tk σ) (pda_cons (pd_var (pv 6)) (pda_cons (pd_var (pv 7)) (pda_nil)))))) (pds_cons (pds_app (pv 6) hpc (pd_cst pe_int fun _ _ _ => .int _)) (pds_cons (pds_ixL (pv 6) hpc (pd_cst pe_int fun _ _ _ => .int _) (pd_cst pe_int fun _ _ _ => .int _)) (pds_cons (pds_app (pv 7) hpc (pd_cst pe_int fun _ _ _ => .int _)) (pds_cons (pds_ixL (pv 7) hpc (pd_cst pe_int fun _ _ _ => .int _) (pd_cst pe_int fun _ _ _ => .int _)) (pds_cons (pds_if (PW.pt (pdw_or (pdt_cmp (op_neA hu) r_neA (pd_callB (call_repr (by exact hG) (by exact hu) (by exact hSy)) r_repr (by rfl) T.n_repr (by decide +kernel) (pda_cons (pd_lst (pda_cons (pd_fld rfl FA_Lines.cl FA_Lines.na_sums (pd_var (pv 2))) (pda_cons (pd_fld rfl FA_Lines.cl FA_Lines.na_caps (pd_var (pv 2))) (pda_nil)))) (pda_nil))) (pd_callB (call_repr (by exact hG) (by exact hu) (by exact hSy)) r_repr (by rfl) T.n_repr (by decide +kernel) (pda_cons (pd_lst (pda_cons (pd_callTy call_tuple_of r_tuple (by rfl) T.n_tuple (by decide +kernel) (pda_cons (pd_ix rfl (pd_var (pv 1)) (pd_cst pe_int fun _ _ _ => .int _) (fun _ _ => rfl)) (pda_nil))) (pda_cons (pd_callTy call_tuple_of r_tuple (by rfl) T.n_tuple (by decide +kernel) (pda_cons (pd_ix rfl (pd_var (pv 1)) (pd_cst pe_int fun _ _ _ => .int _) (fun _ _ => rfl)) (pda_nil))) (pda_nil)))) (pda_nil))) (nomark _)) (pdw_or1 (pdt_cmp (op_neA hu) r_neA (pd_callBS (call_lenOwn rfl O_Lines___len__ R_Lines___len__ (hr.mono (by omega)) (fun σ => passAt tk σ)) (by rfl) T.n_len (by decide +kernel) (pda_cons (pd_var (pv 2)) (pda_nil))) (pd_var (pv 5)) (nomark _))))) (pds_one (pds_ret (pd_cst pe_bl fun _ _ _ => .bl _))) (pds_nil)) (pds_cons (pds_if (PW.pt (pdw_or (pdt_cmp (op_neA hu) r_neA (pd_lc (own := [("_law_one", 11)]) (by rfl) sc__law_right.nd (by decide) (pdi_own rfl O_Lines___iter__ R_Lines___iter__ (hr.mono (by omega)) (pd_var (pv 2))) (blkOk_by (N := [("_law_pen_here" : Str), ("_law_chain_here" : Str), ("_law_made" : Str), ("_law_low" : Str), ("_law_turn" : Str), ("_law_many" : Str), ("_law_first" : Str), ("_law_into_here" : Str), ("_law_told_here" : Str), ("_law_paid_here" : Str), ("_law_is_let" : Str), ("_law_one" : Str), ("_law_high" : Str), ("_law_line" : Str), ("_law_two" : Str)]) (sc := defScope (top 44)) (own := [("_law_one", 11)]) (by decide +kernel)) (fun _ _ _ _ _ => pdg_name (i := 11) sc__law_right.nd rfl (by first | exact Or.inl rfl | exact Or.inr rfl)) (fun _ _ _ _ _ => pdts_nil) (fun _ _ _ _ _ => pd_var (pv 11))) (pd_ix rfl (pd_var (pv 1)) (pd_cst pe_int fun _ _ _ => .int _) (fun _ _ => rfl)) (nomark _)) (pdw_or1 (pdt_cmp (op_neA hu) r_neA (pd_lc (own := [("_law_line", 13)]) (by rfl) sc__law_right.nd (by decide) (pdi_range2 (by rfl) T.n_range (pda_cons (pd_cst pe_int fun _ _ _ => .int _) (pda_cons (pd_op op_addA r_addA (pd_var (pv 5)) (pd_cst pe_int fun _ _ _ => .int _)) (pda_nil)))) (blkOk_by (N := [("_law_pen_here" : Str), ("_law_chain_here" : Str), ("_law_made" : Str), ("_law_low" : Str), ("_law_turn" : Str), ("_law_many" : Str), ("_law_first" : Str), ("_law_into_here" : Str), ("_law_told_here" : Str), ("_law_paid_here" : Str), ("_law_is_let" : Str), ("_law_one" : Str), ("_law_high" : Str), ("_law_line" : Str), ("_law_two" : Str)]) (sc := defScope (top 44)) (own := [("_law_line", 13)]) (by decide +kernel)) (fun _ _ _ _ _ => pdg_name (i := 13) sc__law_right.nd rfl (by first | exact Or.inl rfl | exact Or.inr rfl)) (fun _ _ _ _ _ => pdts_nil) (fun _ _ _ _ _ => pd_ixOwn rfl O_Lines___getitem__ R_Lines___getitem__ (hr.mono (by omega)) (fun _ => pass_no) (pd_var (pv 2)) (pd_var (pv 13)))) (pd_ix rfl (pd_var (pv 1)) (pd_cst pe_int fun _ _ _ => .int _) (fun _ _ => rfl)) (nomark _))))) (pds_one (pds_ret (pd_cst pe_bl fun _ _ _ => .bl _))) (pds_nil)) (pds_cons (pds_if (pdt_cmp (op_neA hu) r_neA (pd_lc (own := [("_law_one", 11), ("_law_two", 14)]) (by rfl) sc__law_right.nd (by decide) (pdi_zipO (by rfl) T.n_zip rfl O_Lines___iter__ R_Lines___iter__ (hr.mono (by omega)) (pda_cons (pd_var (pv 2)) (pda_cons (pd_var (pv 2)) (pda_nil)))) (blkOk_by (N := [("_law_pen_here" : Str), ("_law_chain_here" : Str), ("_law_made" : Str), ("_law_low" : Str), ("_law_turn" : Str), ("_law_many" : Str), ("_law_first" : Str), ("_law_into_here" : Str), ("_law_told_here" : Str), ("_law_paid_here" : Str), ("_law_is_let" : Str), ("_law_one" : Str), ("_law_high" : Str), ("_law_line" : Str), ("_law_two" : Str)]) (sc := defScope (top 44)) (own := [("_law_one", 11), ("_law_two", 14)]) (by decide +kernel)) (fun _ _ _ _ _ => pdg_tup rfl rfl (.cons (pg_name (i := 11) sc__law_right.nd rfl (by first | exact Or.inl rfl | exact Or.inr rfl)) (.cons (pg_name (i := 14) sc__law_right.nd rfl (by first | exact Or.inl rfl | exact Or.inr rfl)) .nil)) (pgs_cons (pg_name (i := 11) sc__law_right.nd rfl (by first | exact Or.inl rfl | exact Or.inr rfl)) (pgs_cons (pg_name (i := 14) sc__law_right.nd rfl (by first | exact Or.inl rfl | exact Or.inr rfl)) pgs_nil))) (fun _ _ _ _ _ => pdts_nil) (fun _ _ _ _ _ => pd_tup (pda_cons (pd_var (pv 11)) (pda_cons (pd_var (pv 14)) (pda_nil))))) (pd_lc (own := [("_law_one", 11)]) (by rfl) sc__law_right.nd (by decide) (pdi_seq (pd_ix rfl (pd_var (pv 1)) (pd_cst pe_int fun _ _ _ => .int _) (fun _ _ => rfl)) rfl) (blkOk_by (N := [("_law_pen_here" : Str), ("_law_chain_here" : Str), ("_law_made" : Str), ("_law_low" : Str), ("_law_turn" : Str), ("_law_many" : Str), ("_law_first" : Str), ("_law_into_here" : Str), ("_law_told_here" : Str), ("_law_paid_here" : Str), ("_law_is_let" : Str), ("_law_one" : Str), ("_law_high" : Str), ("_law_line" : Str), ("_law_two" : Str)]) (sc := defScope (top 44)) (own := [("_law_one", 11)]) (by decide +kernel)) (fun _ _ _ _ _ => pdg_name (i := 11) sc__law_right.nd rfl (by first | exact Or.inl rfl | exact Or.inr rfl)) (fun _ _ _ _ _ => pdts_nil) (fun _ _ _ _ _ => pd_tup (pda_cons (pd_var (pv 11)) (pda_cons (pd_var (pv 11)) (pda_nil))))) (nomark _)) (pds_one (pds_ret (pd_cst pe_bl fun _ _ _ => .bl _))) (pds_nil)) (pds_cons (pds_for (passes_of rfl) rfl (pdi_range2 (by rfl) T.n_range (pda_cons (pd_cst pe_int fun _ _ _ => .int _) (pda_cons (pd_op op_addA r_addA (pd_var (pv 5)) (pd_cst pe_int fun _ _ _ => .int _)) (pda_nil)))) (pdg_name (i := 3) sc__law_right.nd rfl (by first | exact Or.inl rfl | exact Or.inr rfl)) (pds_cons (pds_setLc (own := [("_law_high", 12)]) (by rfl) sc__law_right.nd (i := 8) rfl rfl (by rfl) (by decide) (pdi_range2 (by rfl) T.n_range (pda_cons (pd_var (pv 3)) (pda_cons (pd_op op_addA r_addA (pd_var (pv 5)) (pd_cst pe_int fun _ _ _ => .int _)) (pda_nil)))) (blkOk_by (N := [("_law_pen_here" : Str), ("_law_chain_here" : Str), ("_law_made" : Str), ("_law_low" : Str), ("_law_turn" : Str), ("_law_many" : Str), ("_law_first" : Str), ("_law_into_here" : Str), ("_law_told_here" : Str), ("_law_paid_here" : Str), ("_law_is_let" : Str), ("_law_one" : Str), ("_law_high" : Str), ("_law_line" : Str), ("_law_two" : Str)]) (sc := defScope (top 44)) (own := [("_law_high", 12)]) (by decide +kernel)) (fun _ _ _ _ _ => pdg_name (i := 12) sc__law_right.nd rfl (by first | exact Or.inl rfl | exact Or.inr rfl)) (fun _ _ _ _ _ => pdts_nil) (fun _ _ _ _ _ => pd_meth rfl FA_Lines.cl O_Lines_reach R_Lines_reach (hr.mono (by omega)) (fun _ => pass_no) (pd_var (pv 2)) (pda_cons (pd_var (pv 3)) (pda_cons (pd_var (pv 12)) (pda_nil))))) (pds_one (pds_if (pdt_cmp (op_neA hu) r_neA (pd_var (pv 8)) (pd_lc (own := [("_law_high", 12)]) (by rfl) sc__law_right.nd (by decide) (pdi_range2 (by rfl) T.n_range (pda_cons (pd_var (pv 3)) (pda_cons (pd_op op_addA r_addA (pd_var (pv 5)) (pd_cst pe_int fun _ _ _ => .int _)) (pda_nil)))) (blkOk_by (N := [("_law_pen_here" : Str), ("_law_chain_here" : Str), ("_law_made" : Str), ("_law_low" : Str), ("_law_turn" : Str), ("_law_many" : Str), ("_law_first" : Str), ("_law_into_here" : Str), ("_law_told_here" : Str), ("_law_paid_here" : Str), ("_law_is_let" : Str), ("_law_one" : Str), ("_law_high" : Str), ("_law_line" : Str), ("_law_two" : Str)]) (sc := defScope (top 44)) (own := [("_law_high", 12)]) (by decide +kernel)) (fun _ _ _ _ _ => pdg_name (i := 12) sc__law_right.nd rfl (by first | exact Or.inl rfl | exact Or.inr rfl)) (fun _ _ _ _ _ => pdts_nil) (fun _ _ _ _ _ => pd_call G__law_there rfl (hr.mono (by omega)) (by rfl) (fun _ => pass_no) (pda_cons (pd_var (pv 1)) (pda_cons (pd_var (pv 3)) (pda_cons (pd_var (pv 12)) (pda_nil)))))) (nomark _)) (pds_one (pds_ret (pd_cst pe_bl fun _ _ _ => .bl _))) (pds_nil))))) (pds_cons (pds_for (passes_of rfl) rfl (pdi_range1 (by rfl) T.n_range (pda_cons (pd_cst pe_int fun _ _ _ => .int _) (pda_nil))) (pdg_name (i := 4) sc__law_right.nd rfl (by first | exact Or.inl rfl | exact Or.inr rfl)) (pds_cons (pds_set (i := 9) sc__law_right.nd rfl (by first | exact Or.inl rfl | exact Or.inr rfl) (pd_call G__law_paid rfl (hr.mono (by omega)) (by rfl) (fun σ => passAt tk σ) (pda_cons (pd_var (pv 0)) (pda_cons (pd_var (pv 5)) (pda_nil))))) (pds_cons (pds_set (i := 10) sc__law_right.nd rfl (by first | exact Or.inl rfl | exact Or.inr rfl) (pd_cmp (op_eqA hu) r_eqA (pd_call G__law_shorts rfl (hr.mono (by omega)) (by rfl) (fun σ => passAt tk σ) (pda_cons (pd_var (pv 1)) (pda_cons (pd_var (pv 9)) (pda_nil)))) (pd_lst (pda_nil)) (nomark _))) (pds_cons (pds_if (PW.pt (pdw_or (pdt_cmp (op_neA hu) r_neA (pd_meth rfl FA_Lines.cl O_Lines_wanted R_Lines_wanted (hr.mono (by omega)) (fun σ => passAt tk σ) (pd_var (pv 2)) (pda_cons (pd_var (pv 9)) (pda_nil))) (pd_call G__law_into rfl (hr.mono (by omega)) (by rfl) (fun σ => passAt tk σ) (pda_cons (pd_var (pv 1)) (pda_cons (pd_var (pv 9)) (pda_nil)))) (nomark _)) (pdw_or1 (pdt_cmp (op_neA hu) r_neA (pd_methK0 rfl FA_Lines.cl O_Lines_wanted RK_Lines_wanted_spent (hr.mono (by omega)) (fun σ => passAt tk σ) (pd_var (pv 2)) (pdk_cons (pd_callTy call_tuple_of r_tuple (by rfl) T.n_tuple (by decide +kernel) (pda_cons (pd_var (pv 9)) (pda_nil))) (pdk_nil))) (pd_call G__law_into rfl (hr.mono (by omega)) (by rfl) (fun σ => passAt tk σ) (pda_cons (pd_var (pv 1)) (pda_cons (pd_var (pv 9)) (pda_nil)))) (nomark _))))) (pds_one (pds_ret (pd_cst pe_bl fun _ _ _ => .bl _))) (pds_nil)) (pds_cons (pds_if (pdt_cmp (op_neA hu) r_neA (pd_callB (call_repr (by exact hG) (by exact hu) (by exact hSy)) r_repr (by rfl) T.n_repr (by decide +kernel) (pda_cons (pd_lst (pda_cons (pd_meth rfl FA_Lines.cl O_Lines_can R_Lines_can (hr.mono (by omega)) (fun σ => passAt tk σ) (pd_var (pv 2)) (pda_cons (pd_callTy call_tuple_of r_tuple (by rfl) T.n_tuple (by decide +kernel) (pda_cons (pd_var (pv 9)) (pda_nil))) (pda_nil))) (pda_cons (pd_methK0 rfl FA_Lines.cl O_Lines_can RK_Lines_can_spent (hr.mono (by omega)) (fun σ => passAt tk σ) (pd_var (pv 2)) (pdk_cons (pd_var (pv 9)) (pdk_nil))) (pda_nil)))) (pda_nil))) (pd_callB (call_repr (by exact hG) (by exact hu) (by exact hSy)) r_repr (by rfl) T.n_repr (by decide +kernel) (pda_cons (pd_lst (pda_cons (pd_var (pv 10)) (pda_cons (pd_var (pv 10)) (pda_nil)))) (pda_nil))) (nomark _)) (pds_one (pds_ret (pd_cst pe_bl fun _ _ _ => .bl _))) (pds_nil)) (pds_one (pds_if (pdt_cmp (op_neA hu) r_neA (pd_call G__law_told rfl (hr.mono (by omega)) (by rfl) (fun σ => passAt tk σ) (pda_cons (pd_var (pv 2)) (pda_cons (pd_var (pv 9)) (pda_nil)))) (pd_ifExp (pdt_truth rfl (pd_var (pv 10))) (pd_call G__law_left rfl (hr.mono (by omega)) (by rfl) (fun σ => passAt tk σ) (pda_cons (pd_var (pv 1)) (pda_cons (pd_var (pv 9)) (pda_nil)))) (pd_cst pe_non fun _ _ _ => .non)) (nomark _)) (pds_one (pds_ret (pd_cst pe_bl fun _ _ _ => .bl _))) (pds_nil)))))))) (pds_one (pds_ret (pd_and (pd_cmpS (op_own rfl (fun _ _ => rfl) O_Lines___eq__ R_Lines___eq__ (hr.mono (by omega)) (fun σ => passAt tk σ)) (pd_var (pv 2)) (pd_makeKw M_Lines RK_Lines_caps_sums rfl (hr.mono (by omega)) (by rfl) FA_Lines.gl (fun σ => passAt tk σ) (pdk_cons (pd_ix rfl (pd_var (pv 1)) (pd_cst pe_int fun _ _ _ => .int _) (fun _ _ => rfl)) (pdk_cons (pd_callTy call_tuple_of r_tuple (by rfl) T.n_tuple (by decide +kernel) (pda_cons (pd_ix rfl (pd_var (pv 1)) (pd_cst pe_int fun _ _ _ => .int _) (fun _ _ => rfl)) (pda_nil))) (pdk_nil)))) (nomark _)) (pd_one (pd_cmp (op_eqA hu) r_eqA (pd_methK0 rfl FA_Lines.cl O_Lines_reach RK_Lines_reach_j_i (hr.mono (by omega)) (fun σ => passAt tk σ) (pd_var (pv 2)) (pdk_cons (pd_var (pv 5)) (pdk_cons (pd_cst pe_int fun _ _ _ => .int _) (pdk_nil)))) (pd_callB (cr_sum2 rfl) r_sum2 (by rfl) T.n_sum (by decide +kernel) (pda_cons (pd_ix rfl (pd_var (pv 1)) (pd_cst pe_int fun _ _ _ => .int _) (fun _ _ => rfl)) (pda_nil))) (nomark _)))))))))))))))))
theorem sc_check_other : FnScope [("lines" : Str), ("other" : Str)] [("lines" : Str), ("other" : Str)] (defScope (top 24)) := ⟨rfl, rfl, rfl, by decide +kernel, rfl, by decide +kernel, by decide +kernel⟩
def T_check_other (K : PySem.W.Frag) (Z : Er) : TDS := dIfS (dOr (dNot (dTru (dCB (L2' (dIsi K)) (dCons (dVar 1) (dCons (dC (.fn Z.Lines)) (dNil)))))) (dTst (dOp (dEqA true) (dCB (L1 dLen) (dCons (dUn (dFld Z.Lines "sums") (dVar 1)) (dNil))) (dCB (L1 dLen) (dCons (dUn (dFld Z.Lines "sums") (dVar 0)) (dNil)))))) (dRaise1 Z.BadLines "part" (dC (.str "other"))) (dNext)
def S_check_other (K : PySem.W.Frag) (Z : Er) : SpD := bodyD [("lines" : Str), ("other" : Str)] 2 (T_check_other K Z)
theorem c_check_other {Z : Er} {f : Addr} {fd : FuncData} (F : FunD K "check_other" "check_other" (defArgs (top 24)) (defBody (top 24)) (defScope (top 24)) [] [] f fd) (T : Txt mg) (hN : base.NoDigits) (FA_Lines : Fa_Lines K mg Z) {i_BadLines : Addr} {e_BadLines : FuncData} (X_BadLines : Cl1 P w K mg base "BadLines" "part" Z.BadLines i_BadLines e_BadLines) : FnOk P w K mg base (L2.CX P w) 3 f fd [("lines" : Str), ("other" : Str)] (spD K (S_check_other K Z)) := by
  refine fn_F F sc_check_other rfl fun cdv A outer s H E pp G0 H0 hpc hr tk => ?_
  have hu := hr.units
  exact pds_one (pds_if (PW.pt (pdw_or (pdt_not (pdt_truth rfl (pd_callB call_isi r_isi (by rfl) T.n_isinstance (by decide +kernel) (pda_cons (pd_var (pv 1)) (pda_cons (pd_cls rfl (by rfl) FA_Lines.gl FA_Lines.lk) (pda_nil)))))) (pdw_or1 (pdt_cmp (op_neA hu) r_neA (pd_callB call_len r_len (by rfl) T.n_len (by decide +kernel) (pda_cons (pd_fld rfl FA_Lines.cl FA_Lines.na_sums (pd_var (pv 1))) (pda_nil))) (pd_callB call_len r_len (by rfl) T.n_len (by decide +kernel) (pda_cons (pd_fld rfl FA_Lines.cl FA_Lines.na_sums (pd_var (pv 0))) (pda_nil))) (nomark _))))) (pds_one (pds_raise1 X_BadLines rfl rfl tk (hr.mono (by omega)) (by rfl) (pd_cst pe_str fun _ _ _ => .str _))) (pds_nil))
theorem sc_Lines___add__ : FnScope [("self" : Str), ("other" : Str), ("sums" : Str), ("one" : Str), ("more" : Str)] [("self" : Str), ("other" : Str)] (defScope (inClass (top 26) 9)) := ⟨rfl, rfl, rfl, by decide +kernel, rfl, by decide +kernel, by decide +kernel⟩
def T_Lines___add__ (K : PySem.W.Frag) (Z : Er) : TDS := dSeq (dDrop (dCall (S_check_other K Z) (dCons (dVar 0) (dCons (dVar 1) (dNil))))) (dSeq (dSet 2 (dLc (dItA dZipT (dCons (dUn (dFld Z.Lines "sums") (dVar 0)) (dCons (dUn (dFld Z.Lines "sums") (dVar 1)) (dNil)))) [3, 4] (gT [3, 4]) (dYes) (dOp dAddA (dVar 3) (dVar 4)))) (dRet (dMake Z.Lines (S_Lines___init__ K Z) (dCons (dVar 2) (dCons (dLc (dItA dZipT (dCons (dUn (dFld Z.Lines "caps") (dVar 0)) (dCons (dUn (dFld Z.Lines "caps") (dVar 1)) (dNil)))) [3, 4] (gT [3, 4]) (dYes) (dOp dAddA (dVar 3) (dVar 4))) (dNil))))))
def S_Lines___add__ (K : PySem.W.Frag) (Z : Er) : SpD := bodyD [("self" : Str), ("other" : Str), ("sums" : Str), ("one" : Str), ("more" : Str)] 2 (T_Lines___add__ K Z)
theorem c_Lines___add__ {Z : Er} {f : Addr} {fd : FuncData} (F : FunD K "__add__" "Lines.__add__" (defArgs (inClass (top 26) 9)) (defBody (inClass (top 26) 9)) (defScope (inClass (top 26) 9)) [] [] f fd) (T : Txt mg) (hN : base.NoDigits) {f_check_other : Addr} {d_check_other : FuncData} (G_check_other : FD P w K mg base "check_other" 3 [("lines" : Str), ("other" : Str)] (S_check_other K Z) f_check_other d_check_other) (FA_Lines : Fa_Lines K mg Z) {g_Lines___init__ : Addr} (M_Lines : Mk K Z.Lines g_Lines___init__) (RI_Lines_2 : FRI P w K mg base 4 Z.Lines g_Lines___init__ (S_Lines___init__ K Z)) : FnOk P w K mg base (L2.CX P w) 6 f fd [("self" : Str), ("other" : Str)] (spD K (S_Lines___add__ K Z)) := by
  refine fn_F F sc_Lines___add__ rfl fun cdv A outer s H E pp G0 H0 hpc hr tk => ?_
  have hu := hr.units
  exact pds_cons (pds_expr (pd_call G_check_other rfl (hr.mono (by omega)) (by rfl) (fun σ => passAt tk σ) (pda_cons (pd_var (pv 0)) (pda_cons (pd_var (pv 1)) (pda_nil))))) (pds_cons (pds_setLc (own := [("one", 3), ("more", 4)]) (by rfl) sc_Lines___add__.nd (i := 2) rfl rfl (by rfl) (by decide) (pdi_zipT (by rfl) T.n_zip rfl (pda_cons (pd_fld rfl FA_Lines.cl FA_Lines.na_sums (pd_var (pv 0))) (pda_cons (pd_fld rfl FA_Lines.cl FA_Lines.na_sums (pd_var (pv 1))) (pda_nil)))) (blkOk_by (N := [("self" : Str), ("other" : Str), ("sums" : Str), ("one" : Str), ("more" : Str)]) (sc := defScope (inClass (top 26) 9)) (own := [("one", 3), ("more", 4)]) (by decide +kernel)) (fun _ _ _ _ _ => pdg_tup rfl rfl (.cons (pg_name (i := 3) sc_Lines___add__.nd rfl (by first | exact Or.inl rfl | exact Or.inr rfl)) (.cons (pg_name (i := 4) sc_Lines___add__.nd rfl (by first | exact Or.inl rfl | exact Or.inr rfl)) .nil)) (pgs_cons (pg_name (i := 3) sc_Lines___add__.nd rfl (by first | exact Or.inl rfl | exact Or.inr rfl)) (pgs_cons (pg_name (i := 4) sc_Lines___add__.nd rfl (by first | exact Or.inl rfl | exact Or.inr rfl)) pgs_nil))) (fun _ _ _ _ _ => pdts_nil) (fun _ _ _ _ _ => pd_op op_addA r_addA (pd_var (pv 3)) (pd_var (pv 4)))) (pds_one (pds_ret (pd_make M_Lines RI_Lines_2 rfl (hr.mono (by omega)) (by rfl) FA_Lines.gl (fun σ => passAt tk σ) (pda_cons (pd_var (pv 2)) (pda_cons (pd_lc (own := [("one", 3), ("more", 4)]) (by rfl) sc_Lines___add__.nd (by decide) (pdi_zipT (by rfl) T.n_zip rfl (pda_cons (pd_fld rfl FA_Lines.cl FA_Lines.na_caps (pd_var (pv 0))) (pda_cons (pd_fld rfl FA_Lines.cl FA_Lines.na_caps (pd_var (pv 1))) (pda_nil)))) (blkOk_by (N := [("self" : Str), ("other" : Str), ("sums" : Str), ("one" : Str), ("more" : Str)]) (sc := defScope (inClass (top 26) 9)) (own := [("one", 3), ("more", 4)]) (by decide +kernel)) (fun _ _ _ _ _ => pdg_tup rfl rfl (.cons (pg_name (i := 3) sc_Lines___add__.nd rfl (by first | exact Or.inl rfl | exact Or.inr rfl)) (.cons (pg_name (i := 4) sc_Lines___add__.nd rfl (by first | exact Or.inl rfl | exact Or.inr rfl)) .nil)) (pgs_cons (pg_name (i := 3) sc_Lines___add__.nd rfl (by first | exact Or.inl rfl | exact Or.inr rfl)) (pgs_cons (pg_name (i := 4) sc_Lines___add__.nd rfl (by first | exact Or.inl rfl | exact Or.inr rfl)) pgs_nil))) (fun _ _ _ _ _ => pdts_nil) (fun _ _ _ _ _ => pd_op op_addA r_addA (pd_var (pv 3)) (pd_var (pv 4)))) (pda_nil)))))))
theorem sc_Lines___le__ : FnScope [("self" : Str), ("other" : Str), ("pairs" : Str), ("one" : Str), ("more" : Str)] [("self" : Str), ("other" : Str)] (defScope (inClass (top 26) 10)) := ⟨rfl, rfl, rfl, by decide +kernel, rfl, by decide +kernel, by decide +kernel⟩
def T_Lines___le__ (K : PySem.W.Frag) (Z : Er) : TDS := dSeq (dDrop (dCall (S_check_other K Z) (dCons (dVar 0) (dCons (dVar 1) (dNil))))) (dSeq (dSet 2 (dCB dListZip (dCons (dOp dAddA (dUn (dFld Z.Lines "sums") (dVar 0)) (dUn (dFld Z.Lines "caps") (dVar 0))) (dCons (dOp dAddA (dUn (dFld Z.Lines "sums") (dVar 1)) (dUn (dFld Z.Lines "caps") (dVar 1))) (dNil))))) (dRet (dCB (L1 dAll) (dCons (dLc (dItS (dVar 2)) [3, 4] (gT [3, 4]) (dYes) (dOp (cmpD (fun i j => decide (i ≤ j)) fun a b => !ltS b a) (dVar 3) (dVar 4))) (dNil)))))
def S_Lines___le__ (K : PySem.W.Frag) (Z : Er) : SpD := bodyD [("self" : Str), ("other" : Str), ("pairs" : Str), ("one" : Str), ("more" : Str)] 2 (T_Lines___le__ K Z)
theorem c_Lines___le__ {Z : Er} {f : Addr} {fd : FuncData} (F : FunD K "__le__" "Lines.__le__" (defArgs (inClass (top 26) 10)) (defBody (inClass (top 26) 10)) (defScope (inClass (top 26) 10)) [] [] f fd) (T : Txt mg) (hN : base.NoDigits) {f_check_other : Addr} {d_check_other : FuncData} (G_check_other : FD P w K mg base "check_other" 3 [("lines" : Str), ("other" : Str)] (S_check_other K Z) f_check_other d_check_other) (FA_Lines : Fa_Lines K mg Z) : FnOk P w K mg base (L2.CX P w) 4 f fd [("self" : Str), ("other" : Str)] (spD K (S_Lines___le__ K Z)) := by
  refine fn_F F sc_Lines___le__ rfl fun cdv A outer s H E pp G0 H0 hpc hr tk => ?_
  have hu := hr.units
  exact pds_cons (pds_expr (pd_call G_check_other rfl (hr.mono (by omega)) (by rfl) (fun σ => passAt tk σ) (pda_cons (pd_var (pv 0)) (pda_cons (pd_var (pv 1)) (pda_nil))))) (pds_cons (pds_set (i := 2) sc_Lines___le__.nd rfl (by first | exact Or.inl rfl | exact Or.inr rfl) (pd_listZip rfl rfl hpc (by rfl) T.n_list (by rfl) T.n_zip (pda_cons (pd_op op_addA r_addA (pd_fld rfl FA_Lines.cl FA_Lines.na_sums (pd_var (pv 0))) (pd_fld rfl FA_Lines.cl FA_Lines.na_caps (pd_var (pv 0)))) (pda_cons (pd_op op_addA r_addA (pd_fld rfl FA_Lines.cl FA_Lines.na_sums (pd_var (pv 1))) (pd_fld rfl FA_Lines.cl FA_Lines.na_caps (pd_var (pv 1)))) (pda_nil))))) (pds_one (pds_ret (pd_callB (cr_all rfl) r_all (by rfl) T.n_all (by decide +kernel) (pda_cons (pd_lc (own := [("one", 3), ("more", 4)]) (by rfl) sc_Lines___le__.nd (by decide) (pdi_seq (pd_var (pv 2)) rfl) (blkOk_by (N := [("self" : Str), ("other" : Str), ("pairs" : Str), ("one" : Str), ("more" : Str)]) (sc := defScope (inClass (top 26) 10)) (own := [("one", 3), ("more", 4)]) (by decide +kernel)) (fun _ _ _ _ _ => pdg_tup rfl rfl (.cons (pg_name (i := 3) sc_Lines___le__.nd rfl (by first | exact Or.inl rfl | exact Or.inr rfl)) (.cons (pg_name (i := 4) sc_Lines___le__.nd rfl (by first | exact Or.inl rfl | exact Or.inr rfl)) .nil)) (pgs_cons (pg_name (i := 3) sc_Lines___le__.nd rfl (by first | exact Or.inl rfl | exact Or.inr rfl)) (pgs_cons (pg_name (i := 4) sc_Lines___le__.nd rfl (by first | exact Or.inl rfl | exact Or.inr rfl)) pgs_nil))) (fun _ _ _ _ _ => pdts_nil) (fun _ _ _ _ _ => pd_cmp op_leA r_cmp (pd_var (pv 3)) (pd_var (pv 4)) (nomark _))) (pda_nil))))))
theorem sc__law_pair_right : FnScope [("_law_pen_here" : Str), ("_law_one" : Str), ("_law_many" : Str), ("_law_other" : Str), ("_law_both" : Str), ("_law_due" : Str), ("_law_is_low" : Str), ("_law_mine" : Str), ("_law_its" : Str), ("_law_at" : Str), ("_law_a" : Str), ("_law_b" : Str)] [("_law_pen_here" : Str)] (defScope (top 45)) := ⟨rfl, rfl, rfl, by decide +kernel, rfl, by decide +kernel, by decide +kernel⟩
def T__law_pair_right_0 (K : PySem.W.Frag) (Z : Er) : TDS := dSet 1 (dCall (S__law_chain K Z) (dCons (dVar 0) (dNil)))
def T__law_pair_right_1 (K : PySem.W.Frag) (Z : Er) : TDS := dSet 2 (dCB (L1 dLen) (dCons (dOp dIx (dVar 1) (dC (.int 0))) (dNil)))
def T__law_pair_right_2 (K : PySem.W.Frag) (Z : Er) : TDS := dSet 3 (dTup (dCons (dLc (dItA dRange1 (dCons (dVar 2) (dNil))) [9] (gN 9) (dYes) (dCall (S__law_pick K Z) (dCons (dVar 0) (dCons (dLst (dCons (dC (.int 0)) (dCons (dC (.int 1)) (dCons (dOp dIx (dOp dIx (dVar 1) (dC (.int 0))) (dVar 9)) (dCons (dOp dPow (dC (.int 10)) (dC (.int 30))) (dNil)))))) (dNil))))) (dCons (dLst (dNil)) (dNil))))
def T__law_pair_right_3 (K : PySem.W.Frag) (Z : Er) : TDS := dSet 3 (dTup (dCons (dOp dIx (dVar 3) (dC (.int 0))) (dCons (dLc (dItA dRange1 (dCons (dOp dSub (dVar 2) (dC (.int 1))) (dNil))) [9] (gN 9) (dYes) (dCall (S__law_pick K Z) (dCons (dVar 0) (dCons (dLst (dCons (dOp dIx (dOp dIx (dVar 1) (dC (.int 1))) (dVar 9)) (dCons (dC (.int 2)) (dNil)))) (dNil))))) (dNil))))
def T__law_pair_right_4 (K : PySem.W.Frag) (Z : Er) : TDS := dPar2 7 8 (dCons (dMake Z.Lines (S_Lines___init__ K Z) (dCons (dOp dIx (dVar 1) (dC (.int 0))) (dCons (dOp dIx (dVar 1) (dC (.int 1))) (dNil)))) (dCons (dMake Z.Lines (S_Lines___init__ K Z) (dCons (dOp dIx (dVar 3) (dC (.int 0))) (dCons (dCB (L1 dTuple) (dCons (dOp dIx (dVar 3) (dC (.int 1))) (dNil))) (dNil)))) (dNil)))
def T__law_pair_right_5 (K : PySem.W.Frag) (Z : Er) : TDS := dSet 4 (dVar 7)
def T__law_pair_right_6 (K : PySem.W.Frag) (Z : Er) : TDS := sAugO 4 (rdOwn Z.Lines (sideB K Z.Lines .Add) (S_Lines___add__ K Z)) (dVar 8)
def T__law_pair_right_7 (K : PySem.W.Frag) (Z : Er) : TDS := dSet 5 (dLc (dItA dZip (dCons (dOp dAddA (dOp dIx (dVar 1) (dC (.int 0))) (dOp dIx (dVar 1) (dC (.int 1)))) (dCons (dOp dAddA (dOp dIx (dVar 3) (dC (.int 0))) (dOp dIx (dVar 3) (dC (.int 1)))) (dNil)))) [10, 11] (gT [10, 11]) (dYes) (dOp dAddA (dVar 10) (dVar 11)))
def T__law_pair_right_8 (K : PySem.W.Frag) (Z : Er) : TDS := dIfS (dOr (dTst (dOp (dEqA true) (dOp dAddA (dCB (L1 dList) (dCons (dUn (dFld Z.Lines "sums") (dVar 4)) (dNil))) (dCB (L1 dList) (dCons (dUn (dFld Z.Lines "caps") (dVar 4)) (dNil)))) (dVar 5))) (dOr (dTst (dStep (rdNe Z.Lines (sideC K Z.Lines) (S_Lines___eq__ K Z)) (dTwo (dStep (rdOwn Z.Lines (sideB K Z.Lines .Add) (S_Lines___add__ K Z)) (dTwo (dVar 7) (dVar 8))) (dVar 4)))) (dTst (dStep (rdNe Z.Lines (sideC K Z.Lines) (S_Lines___eq__ K Z)) (dTwo (dVar 7) (dMake Z.Lines (S_Lines___init__ K Z) (dCons (dOp dIx (dVar 1) (dC (.int 0))) (dCons (dOp dIx (dVar 1) (dC (.int 1))) (dNil))))))))) (dRet (dC (.bl false))) (dNext)
def T__law_pair_right_9 (K : PySem.W.Frag) (Z : Er) : TDS := dSet 6 (dOp (dEqA false) (dLc (dItA dZip (dCons (dOp dAddA (dOp dIx (dVar 1) (dC (.int 0))) (dOp dIx (dVar 1) (dC (.int 1)))) (dCons (dOp dAddA (dOp dIx (dVar 3) (dC (.int 0))) (dOp dIx (dVar 3) (dC (.int 1)))) (dNil)))) [10, 11] (gT [10, 11]) (dTst (dOp (cmpD (fun i j => decide (j < i)) fun a b => ltS b a) (dVar 10) (dVar 11))) (dC (.int 1))) (dLst (dNil)))
def T__law_pair_right_10 (K : PySem.W.Frag) (Z : Er) : TDS := dIfS (dTst (dOp (dEqA true) (dCB (fun ds Q => ∃ d, ds = [d] ∧ dRepr d Q) (dCons (dLst (dCons (dStep (rdOwn Z.Lines (sideC K Z.Lines) (S_Lines___le__ K Z)) (dTwo (dVar 7) (dVar 8))) (dCons (dStep (rdOwn Z.Lines (sideC K Z.Lines) (S_Lines___eq__ K Z)) (dTwo (dVar 7) (dVar 8))) (dNil)))) (dNil))) (dCB (fun ds Q => ∃ d, ds = [d] ∧ dRepr d Q) (dCons (dLst (dCons (dVar 6) (dCons (dAndV (dOp (dEqA false) (dOp dIx (dVar 1) (dC (.int 0))) (dOp dIx (dVar 3) (dC (.int 0)))) (dOp (dEqA false) (dOp dIx (dVar 1) (dC (.int 1))) (dOp dIx (dVar 3) (dC (.int 1))))) (dNil)))) (dNil))))) (dRet (dC (.bl false))) (dNext)
def T__law_pair_right_11 (K : PySem.W.Frag) (Z : Er) : TDS := dRet (dAndV (dStep (rdOwn Z.Lines (sideC K Z.Lines) (S_Lines___le__ K Z)) (dTwo (dVar 7) (dVar 4))) (dAndV (dStep (rdOwn Z.Lines (sideC K Z.Lines) (S_Lines___le__ K Z)) (dTwo (dVar 7) (dVar 7))) (dStep (rdNe Z.Lines (sideC K Z.Lines) (S_Lines___eq__ K Z)) (dTwo (dVar 7) (dOp dIx (dVar 1) (dC (.int 0)))))))
def T__law_pair_right (K : PySem.W.Frag) (Z : Er) : TDS := dSeq (T__law_pair_right_0 K Z) (dSeq (T__law_pair_right_1 K Z) (dSeq (T__law_pair_right_2 K Z) (dSeq (T__law_pair_right_3 K Z) (dSeq (T__law_pair_right_4 K Z) (dSeq (T__law_pair_right_5 K Z) (dSeq (T__law_pair_right_6 K Z) (dSeq (T__law_pair_right_7 K Z) (dSeq (T__law_pair_right_8 K Z) (dSeq (T__law_pair_right_9 K Z) (dSeq (T__law_pair_right_10 K Z) (T__law_pair_right_11 K Z)))))))))))
def S__law_pair_right (K : PySem.W.Frag) (Z : Er) : SpD := bodyD [("_law_pen_here" : Str), ("_law_one" : Str), ("_law_many" : Str), ("_law_other" : Str), ("_law_both" : Str), ("_law_due" : Str), ("_law_is_low" : Str), ("_law_mine" : Str), ("_law_its" : Str), ("_law_at" : Str), ("_law_a" : Str), ("_law_b" : Str)] 1 (T__law_pair_right K Z)
theorem c__law_pair_right {Z : Er} {f : Addr} {fd : FuncData} (F : FunD K "_law_pair_right" "_law_pair_right" (defArgs (top 45)) (defBody (top 45)) (defScope (top 45)) [] [] f fd) (T : Txt mg) (hN : base.NoDigits) (hSy : ∃ m, base.Ns sysModules m) {f__law_chain : Addr} {d__law_chain : FuncData} (G__law_chain : FD P w K mg base "_law_chain" 3 [("_law_pen_here" : Str)] (S__law_chain K Z) f__law_chain d__law_chain) {f__law_pick : Addr} {d__law_pick : FuncData} (G__law_pick : FD P w K mg base "_law_pick" 2 [("_law_pen_here" : Str), ("_law_some" : Str)] (S__law_pick K Z) f__law_pick d__law_pick) (FA_Lines : Fa_Lines K mg Z) {g_Lines___init__ : Addr} (M_Lines : Mk K Z.Lines g_Lines___init__) (RI_Lines_2 : FRI P w K mg base 4 Z.Lines g_Lines___init__ (S_Lines___init__ K Z)) {g_Lines___add__ : Addr} (O_Lines___add__ : Ow K Z.Lines "__add__" g_Lines___add__) (R_Lines___add__ : FR P w K mg base 6 g_Lines___add__ (S_Lines___add__ K Z)) {g_Lines___eq__ : Addr} (O_Lines___eq__ : Ow K Z.Lines "__eq__" g_Lines___eq__) (R_Lines___eq__ : FR P w K mg base 1 g_Lines___eq__ (S_Lines___eq__ K Z)) {g_Lines___le__ : Addr} (O_Lines___le__ : Ow K Z.Lines "__le__" g_Lines___le__) (R_Lines___le__ : FR P w K mg base 4 g_Lines___le__ (S_Lines___le__ K Z)) : FnG P w K mg base (L2.CX P w) 7 f fd [("_law_pen_here" : Str)] (spD K (S__law_pair_right K Z)) := by
  refine fn_G F sc__law_pair_right rfl fun cdv A outer s H E pp G0 H0 hpc hG hr tk => ?_
  have hu := hr.units
  exact pds_cons (pds_set (i := 1) sc__law_pair_right.nd rfl (by first | exact Or.inl rfl | exact Or.inr rfl) (pd_call G__law_chain rfl (hr.mono (by omega)) (by rfl) (fun σ => passAt tk σ) (pda_cons (pd_var (pv 0)) (pda_nil)))) (pds_cons (pds_set (i := 2) sc__law_pair_right.nd rfl (by first | exact Or.inl rfl | exact Or.inr rfl) (pd_callB call_len r_len (by rfl) T.n_len (by decide +kernel) (pda_cons (pd_ix rfl (pd_var (pv 1)) (pd_cst pe_int fun _ _ _ => .int _) (fun _ _ => rfl)) (pda_nil)))) (pds_cons (pds_set (i := 3) sc__law_pair_right.nd rfl (by first | exact Or.inl rfl | exact Or.inr rfl) (pd_tup (pda_cons (pd_lc (own := [("_law_at", 9)]) (by rfl) sc__law_pair_right.nd (by decide) (pdi_range1 (by rfl) T.n_range (pda_cons (pd_var (pv 2)) (pda_nil))) (blkOk_by (N := [("_law_pen_here" : Str), ("_law_one" : Str), ("_law_many" : Str), ("_law_other" : Str), ("_law_both" : Str), ("_law_due" : Str), ("_law_is_low" : Str), ("_law_mine" : Str), ("_law_its" : Str), ("_law_at" : Str), ("_law_a" : Str), ("_law_b" : Str)]) (sc := defScope (top 45)) (own := [("_law_at", 9)]) (by decide +kernel)) (fun _ _ _ _ _ => pdg_name (i := 9) sc__law_pair_right.nd rfl (by first | exact Or.inl rfl | exact Or.inr rfl)) (fun _ _ _ _ _ => pdts_nil) (fun _ _ _ _ _ => pd_call G__law_pick rfl (hr.mono (by omega)) (by rfl) (fun _ => pass_no) (pda_cons (pd_var (pv 0)) (pda_cons (pd_lst (pda_cons (pd_cst pe_int fun _ _ _ => .int _) (pda_cons (pd_cst pe_int fun _ _ _ => .int _) (pda_cons (pd_ix rfl (pd_ix rfl (pd_var (pv 1)) (pd_cst pe_int fun _ _ _ => .int _) (fun _ _ => rfl)) (pd_var (pv 9)) (fun _ _ => rfl)) (pda_cons (pd_op op_pow r_pow (pd_cst pe_int fun _ _ _ => .int _) (pd_cst pe_int fun _ _ _ => .int _)) (pda_nil)))))) (pda_nil))))) (pda_cons (pd_lst (pda_nil)) (pda_nil))))) (pds_cons (pds_set (i := 3) sc__law_pair_right.nd rfl (by first | exact Or.inl rfl | exact Or.inr rfl) (pd_tup (pda_cons (pd_ix rfl (pd_var (pv 3)) (pd_cst pe_int fun _ _ _ => .int _) (fun _ _ => rfl)) (pda_cons (pd_lc (own := [("_law_at", 9)]) (by rfl) sc__law_pair_right.nd (by decide) (pdi_range1 (by rfl) T.n_range (pda_cons (pd_op op_sub r_sub (pd_var (pv 2)) (pd_cst pe_int fun _ _ _ => .int _)) (pda_nil))) (blkOk_by (N := [("_law_pen_here" : Str), ("_law_one" : Str), ("_law_many" : Str), ("_law_other" : Str), ("_law_both" : Str), ("_law_due" : Str), ("_law_is_low" : Str), ("_law_mine" : Str), ("_law_its" : Str), ("_law_at" : Str), ("_law_a" : Str), ("_law_b" : Str)]) (sc := defScope (top 45)) (own := [("_law_at", 9)]) (by decide +kernel)) (fun _ _ _ _ _ => pdg_name (i := 9) sc__law_pair_right.nd rfl (by first | exact Or.inl rfl | exact Or.inr rfl)) (fun _ _ _ _ _ => pdts_nil) (fun _ _ _ _ _ => pd_call G__law_pick rfl (hr.mono (by omega)) (by rfl) (fun _ => pass_no) (pda_cons (pd_var (pv 0)) (pda_cons (pd_lst (pda_cons (pd_ix rfl (pd_ix rfl (pd_var (pv 1)) (pd_cst pe_int fun _ _ _ => .int _) (fun _ _ => rfl)) (pd_var (pv 9)) (fun _ _ => rfl)) (pda_cons (pd_cst pe_int fun _ _ _ => .int _) (pda_nil)))) (pda_nil))))) (pda_nil))))) (pds_cons (pds_par2 (i := 7) (j := 8) rfl sc__law_pair_right.nd rfl rfl (by decide) rfl rfl (pda_cons (pd_make M_Lines RI_Lines_2 rfl (hr.mono (by omega)) (by rfl) FA_Lines.gl (fun σ => passAt tk σ) (pda_cons (pd_ix rfl (pd_var (pv 1)) (pd_cst pe_int fun _ _ _ => .int _) (fun _ _ => rfl)) (pda_cons (pd_ix rfl (pd_var (pv 1)) (pd_cst pe_int fun _ _ _ => .int _) (fun _ _ => rfl)) (pda_nil)))) (pda_cons (pd_make M_Lines RI_Lines_2 rfl (hr.mono (by omega)) (by rfl) FA_Lines.gl (fun σ => passAt tk σ) (pda_cons (pd_ix rfl (pd_var (pv 3)) (pd_cst pe_int fun _ _ _ => .int _) (fun _ _ => rfl)) (pda_cons (pd_callTy call_tuple_of r_tuple (by rfl) T.n_tuple (by decide +kernel) (pda_cons (pd_ix rfl (pd_var (pv 3)) (pd_cst pe_int fun _ _ _ => .int _) (fun _ _ => rfl)) (pda_nil))) (pda_nil)))) (pda_nil))) (by rfl)) (pds_cons (pds_set (i := 4) sc__law_pair_right.nd rfl (by first | exact Or.inl rfl | exact Or.inr rfl) (pd_var (pv 7))) (pds_cons (pds_augO (j := 4) sc__law_pair_right.nd rfl (by first | exact Or.inl rfl | exact Or.inr rfl) (op_augOwn rfl FA_Lines.sf FA_Lines.noi O_Lines___add__ R_Lines___add__ (hr.mono (by omega)) (fun σ => passAt tk σ)) (pd_var (pv 8))) (pds_cons (pds_setLc (own := [("_law_a", 10), ("_law_b", 11)]) (by rfl) sc__law_pair_right.nd (i := 5) rfl rfl (by rfl) (by decide) (pdi_zip (by rfl) T.n_zip rfl (pda_cons (pd_op op_addA r_addA (pd_ix rfl (pd_var (pv 1)) (pd_cst pe_int fun _ _ _ => .int _) (fun _ _ => rfl)) (pd_ix rfl (pd_var (pv 1)) (pd_cst pe_int fun _ _ _ => .int _) (fun _ _ => rfl))) (pda_cons (pd_op op_addA r_addA (pd_ix rfl (pd_var (pv 3)) (pd_cst pe_int fun _ _ _ => .int _) (fun _ _ => rfl)) (pd_ix rfl (pd_var (pv 3)) (pd_cst pe_int fun _ _ _ => .int _) (fun _ _ => rfl))) (pda_nil)))) (blkOk_by (N := [("_law_pen_here" : Str), ("_law_one" : Str), ("_law_many" : Str), ("_law_other" : Str), ("_law_both" : Str), ("_law_due" : Str), ("_law_is_low" : Str), ("_law_mine" : Str), ("_law_its" : Str), ("_law_at" : Str), ("_law_a" : Str), ("_law_b" : Str)]) (sc := defScope (top 45)) (own := [("_law_a", 10), ("_law_b", 11)]) (by decide +kernel)) (fun _ _ _ _ _ => pdg_tup rfl rfl (.cons (pg_name (i := 10) sc__law_pair_right.nd rfl (by first | exact Or.inl rfl | exact Or.inr rfl)) (.cons (pg_name (i := 11) sc__law_pair_right.nd rfl (by first | exact Or.inl rfl | exact Or.inr rfl)) .nil)) (pgs_cons (pg_name (i := 10) sc__law_pair_right.nd rfl (by first | exact Or.inl rfl | exact Or.inr rfl)) (pgs_cons (pg_name (i := 11) sc__law_pair_right.nd rfl (by first | exact Or.inl rfl | exact Or.inr rfl)) pgs_nil))) (fun _ _ _ _ _ => pdts_nil) (fun _ _ _ _ _ => pd_op op_addA r_addA (pd_var (pv 10)) (pd_var (pv 11)))) (pds_cons (pds_if (PW.pt (pdw_or (pdt_cmp (op_neA hu) r_neA (pd_op op_addA r_addA (pd_callTy call_list_of r_list (by rfl) T.n_list (by decide +kernel) (pda_cons (pd_fld rfl FA_Lines.cl FA_Lines.na_sums (pd_var (pv 4))) (pda_nil))) (pd_callTy call_list_of r_list (by rfl) T.n_list (by decide +kernel) (pda_cons (pd_fld rfl FA_Lines.cl FA_Lines.na_caps (pd_var (pv 4))) (pda_nil)))) (pd_var (pv 5)) (nomark _)) (pdw_or (pdt_cmpS (op_neOwn rfl O_Lines___eq__ FA_Lines.ne FA_Lines.sb R_Lines___eq__ (hr.mono (by omega)) (fun σ => passAt tk σ)) (pd_opS (op_ownB rfl FA_Lines.sf O_Lines___add__ R_Lines___add__ (hr.mono (by omega)) (fun σ => passAt tk σ)) (pd_var (pv 7)) (pd_var (pv 8))) (pd_var (pv 4)) (nomark _)) (pdw_or1 (pdt_cmpS (op_neOwn rfl O_Lines___eq__ FA_Lines.ne FA_Lines.sb R_Lines___eq__ (hr.mono (by omega)) (fun σ => passAt tk σ)) (pd_var (pv 7)) (pd_make M_Lines RI_Lines_2 rfl (hr.mono (by omega)) (by rfl) FA_Lines.gl (fun σ => passAt tk σ) (pda_cons (pd_ix rfl (pd_var (pv 1)) (pd_cst pe_int fun _ _ _ => .int _) (fun _ _ => rfl)) (pda_cons (pd_ix rfl (pd_var (pv 1)) (pd_cst pe_int fun _ _ _ => .int _) (fun _ _ => rfl)) (pda_nil)))) (nomark _)))))) (pds_one (pds_ret (pd_cst pe_bl fun _ _ _ => .bl _))) (pds_nil)) (pds_cons (pds_set (i := 6) sc__law_pair_right.nd rfl (by first | exact Or.inl rfl | exact Or.inr rfl) (pd_cmp (op_eqA hu) r_eqA (pd_lc (own := [("_law_a", 10), ("_law_b", 11)]) (by rfl) sc__law_pair_right.nd (by decide) (pdi_zip (by rfl) T.n_zip rfl (pda_cons (pd_op op_addA r_addA (pd_ix rfl (pd_var (pv 1)) (pd_cst pe_int fun _ _ _ => .int _) (fun _ _ => rfl)) (pd_ix rfl (pd_var (pv 1)) (pd_cst pe_int fun _ _ _ => .int _) (fun _ _ => rfl))) (pda_cons (pd_op op_addA r_addA (pd_ix rfl (pd_var (pv 3)) (pd_cst pe_int fun _ _ _ => .int _) (fun _ _ => rfl)) (pd_ix rfl (pd_var (pv 3)) (pd_cst pe_int fun _ _ _ => .int _) (fun _ _ => rfl))) (pda_nil)))) (blkOk_by (N := [("_law_pen_here" : Str), ("_law_one" : Str), ("_law_many" : Str), ("_law_other" : Str), ("_law_both" : Str), ("_law_due" : Str), ("_law_is_low" : Str), ("_law_mine" : Str), ("_law_its" : Str), ("_law_at" : Str), ("_law_a" : Str), ("_law_b" : Str)]) (sc := defScope (top 45)) (own := [("_law_a", 10), ("_law_b", 11)]) (by decide +kernel)) (fun _ _ _ _ _ => pdg_tup rfl rfl (.cons (pg_name (i := 10) sc__law_pair_right.nd rfl (by first | exact Or.inl rfl | exact Or.inr rfl)) (.cons (pg_name (i := 11) sc__law_pair_right.nd rfl (by first | exact Or.inl rfl | exact Or.inr rfl)) .nil)) (pgs_cons (pg_name (i := 10) sc__law_pair_right.nd rfl (by first | exact Or.inl rfl | exact Or.inr rfl)) (pgs_cons (pg_name (i := 11) sc__law_pair_right.nd rfl (by first | exact Or.inl rfl | exact Or.inr rfl)) pgs_nil))) (fun _ _ _ _ _ => pdts_one (pdt_cmp op_gtA r_cmp (pd_var (pv 10)) (pd_var (pv 11)) (nomark _))) (fun _ _ _ _ _ => pd_cst pe_int fun _ _ _ => .int _)) (pd_lst (pda_nil)) (nomark _))) (pds_cons (pds_if (pdt_cmp (op_neA hu) r_neA (pd_callB (call_repr (by exact hG) (by exact hu) (by exact hSy)) r_repr (by rfl) T.n_repr (by decide +kernel) (pda_cons (pd_lst (pda_cons (pd_cmpS (op_own rfl (fun _ _ => rfl) O_Lines___le__ R_Lines___le__ (hr.mono (by omega)) (fun σ => passAt tk σ)) (pd_var (pv 7)) (pd_var (pv 8)) (nomark _)) (pda_cons (pd_cmpS (op_own rfl (fun _ _ => rfl) O_Lines___eq__ R_Lines___eq__ (hr.mono (by omega)) (fun σ => passAt tk σ)) (pd_var (pv 7)) (pd_var (pv 8)) (nomark _)) (pda_nil)))) (pda_nil))) (pd_callB (call_repr (by exact hG) (by exact hu) (by exact hSy)) r_repr (by rfl) T.n_repr (by decide +kernel) (pda_cons (pd_lst (pda_cons (pd_var (pv 6)) (pda_cons (pd_and (pd_cmp (op_eqA hu) r_eqA (pd_ix rfl (pd_var (pv 1)) (pd_cst pe_int fun _ _ _ => .int _) (fun _ _ => rfl)) (pd_ix rfl (pd_var (pv 3)) (pd_cst pe_int fun _ _ _ => .int _) (fun _ _ => rfl)) (nomark _)) (pd_one (pd_cmp (op_eqA hu) r_eqA (pd_ix rfl (pd_var (pv 1)) (pd_cst pe_int fun _ _ _ => .int _) (fun _ _ => rfl)) (pd_ix rfl (pd_var (pv 3)) (pd_cst pe_int fun _ _ _ => .int _) (fun _ _ => rfl)) (nomark _)))) (pda_nil)))) (pda_nil))) (nomark _)) (pds_one (pds_ret (pd_cst pe_bl fun _ _ _ => .bl _))) (pds_nil)) (pds_one (pds_ret (pd_and (pd_cmpS (op_own rfl (fun _ _ => rfl) O_Lines___le__ R_Lines___le__ (hr.mono (by omega)) (fun σ => passAt tk σ)) (pd_var (pv 7)) (pd_var (pv 4)) (nomark _)) (pd_and (pd_cmpS (op_own rfl (fun _ _ => rfl) O_Lines___le__ R_Lines___le__ (hr.mono (by omega)) (fun σ => passAt tk σ)) (pd_var (pv 7)) (pd_var (pv 7)) (nomark _)) (pd_one (pd_cmpS (op_neOwn rfl O_Lines___eq__ FA_Lines.ne FA_Lines.sb R_Lines___eq__ (hr.mono (by omega)) (fun σ => passAt tk σ)) (pd_var (pv 7)) (pd_ix rfl (pd_var (pv 1)) (pd_cst pe_int fun _ _ _ => .int _) (fun _ _ => rfl)) (nomark _)))))))))))))))))
theorem sc_law : FnScope [("_law_script" : Str), ("_law_pen_here" : Str), ("_law_turn" : Str), ("_law_three" : Str)] [("_law_script" : Str)] (defScope (top 46)) := ⟨rfl, rfl, rfl, by decide +kernel, rfl, by decide +kernel, by decide +kernel⟩
def T_law_0 (K : PySem.W.Frag) (Z : Er) : TDS := dFor (dItA dRange1 (dCons (dC (.int 7)) (dNil))) (gN 2) (dIfS (dOr (dNot (dTru (dCall (S__law_right K Z) (dCons (dVar 1) (dNil))))) (dNot (dTru (dCall (S__law_pair_right K Z) (dCons (dVar 1) (dNil)))))) (dRet (dC (.bl false))) (dNext))
def T_law_1 (K : PySem.W.Frag) (Z : Er) : TDS := dSet 3 (dMake Z.Lines (S_Lines___init__ K Z) (dCons (dLst (dCons (dC (.int 5)) (dCons (dC (.int 0)) (dCons (dC (.int 5)) (dNil))))) (dCons (dLst (dCons (dC (.int 5)) (dCons (dC (.int 0)) (dNil)))) (dNil))))
def T_law_2 (K : PySem.W.Frag) (Z : Er) : TDS := dIfS (dTst (dOp (dEqA true) (dLst (dCons (dMeth Z.Lines "wanted" (S_Lines_wanted K Z) (dVar 3) (dCons (dTup (dCons (dC (.int 1)) (dCons (dC (.int 5)) (dCons (dC (.int 5)) (dNil))))) (dNil))) (dCons (dMeth Z.Lines "left_by" (S_Lines_left_by K Z) (dVar 3) (dCons (dLst (dCons (dC (.int 1)) (dCons (dC (.int 4)) (dCons (dC (.int 2)) (dNil))))) (dNil))) (dCons (dMeth Z.Lines "can" (S_Lines_can K Z) (dVar 3) (dCons (dTup (dCons (dC (.int 0)) (dCons (dC (.int 0)) (dCons (dC (.int 6)) (dNil))))) (dNil))) (dNil))))) (dLst (dCons (dTup (dCons (dC (.int 1)) (dCons (dC (.int 5)) (dCons (dC (.int 0)) (dNil))))) (dCons (dTup (dCons (dC (.int 0)) (dCons (dC (.int 0)) (dCons (dC (.int 3)) (dNil))))) (dCons (dC (.bl false)) (dNil))))))) (dRet (dC (.bl false))) (dNext)
def T_law_3 (K : PySem.W.Frag) (Z : Er) : TDS := dRet (dAndV (dStep (rdOwn Z.Lines (sideC K Z.Lines) (S_Lines___eq__ K Z)) (dTwo (dMake Z.Lines (fun ds pn Q Xx => S_Lines___init__ K Z (ds ++ [.non]) pn Q Xx) (dCons (dLst (dCons (dC (.int 1)) (dCons (dC (.int 2)) (dNil)))) (dNil))) (dMake Z.Lines (S_Lines___init__ K Z) (dCons (dTup (dCons (dC (.int 1)) (dCons (dC (.int 2)) (dNil)))) (dCons (dLst (dCons (dC (.int 0)) (dNil))) (dNil)))))) (dAndV (dOp (dEqA false) (dUn (dFld Z.Lines "caps") (dMake Z.Lines (fun ds pn Q Xx => S_Lines___init__ K Z (ds ++ [.non]) pn Q Xx) (dCons (dLst (dCons (dC (.int 1)) (dNil))) (dNil)))) (dTup (dNil))) (dStep (rdNe Z.Lines (sideC K Z.Lines) (S_Lines___eq__ K Z)) (dTwo (dMake Z.Lines (fun ds pn Q Xx => S_Lines___init__ K Z (ds ++ [.non]) pn Q Xx) (dCons (dLst (dCons (dC (.int 1)) (dNil))) (dNil))) (dMake Z.Lines (fun ds pn Q Xx => S_Lines___init__ K Z (ds ++ [.non]) pn Q Xx) (dCons (dLst (dCons (dC (.int 1)) (dCons (dC (.int 0)) (dNil)))) (dNil)))))))
def T_law (K : PySem.W.Frag) (Z : Er) : TDS := dSeq (T_law_0 K Z) (dSeq (T_law_1 K Z) (dSeq (T_law_2 K Z) (T_law_3 K Z)))
def R_law (K : PySem.W.Frag) (Z : Er) : Prop := ∀ ns : List Int, ns.length ≤ 63 → T_law K Z { nx := fun _ _ => False, rt := fun d _ => d = .bl true } (.un :: .fz .pen :: List.replicate 2 .un) ⟨ns, 0, 0⟩
theorem c_law {Z : Er} {f : Addr} {fd : FuncData} (F : FunD K "law" "law" (defArgs (top 46)) (defBody (top 46)) (defScope (top 46)) [] [] f fd) (T : Txt mg) (hN : base.NoDigits) (hSy : ∃ m, base.Ns sysModules m) {f__law_pen : Addr} {d__law_pen : FuncData} (G__law_pen : CalP P w K mg base "_law_pen" 1 [("_law_script" : Str)] (spPen K) f__law_pen d__law_pen) {f__law_right : Addr} {d__law_right : FuncData} (G__law_right : FG P w K mg base "_law_right" 7 [("_law_pen_here" : Str)] (S__law_right K Z) f__law_right d__law_right) {f__law_pair_right : Addr} {d__law_pair_right : FuncData} (G__law_pair_right : FG P w K mg base "_law_pair_right" 7 [("_law_pen_here" : Str)] (S__law_pair_right K Z) f__law_pair_right d__law_pair_right) (FA_Lines : Fa_Lines K mg Z) {g_Lines___init__ : Addr} (M_Lines : Mk K Z.Lines g_Lines___init__) (RI_Lines_2 : FRI P w K mg base 4 Z.Lines g_Lines___init__ (S_Lines___init__ K Z)) {g_Lines_can : Addr} (O_Lines_can : Ow K Z.Lines "can" g_Lines_can) (R_Lines_can : FR P w K mg base 5 g_Lines_can (S_Lines_can K Z)) {g_Lines_left_by : Addr} (O_Lines_left_by : Ow K Z.Lines "left_by" g_Lines_left_by) (R_Lines_left_by : FR P w K mg base 5 g_Lines_left_by (S_Lines_left_by K Z)) {g_Lines_wanted : Addr} (O_Lines_wanted : Ow K Z.Lines "wanted" g_Lines_wanted) (R_Lines_wanted : FR P w K mg base 5 g_Lines_wanted (S_Lines_wanted K Z)) {g_Lines___eq__ : Addr} (O_Lines___eq__ : Ow K Z.Lines "__eq__" g_Lines___eq__) (R_Lines___eq__ : FR P w K mg base 1 g_Lines___eq__ (S_Lines___eq__ K Z)) (RI_Lines_1 : FRI P w K mg base 4 Z.Lines g_Lines___init__ (fun ds pn Q Xx => S_Lines___init__ K Z (ds ++ [.non]) pn Q Xx)) (hT : R_law K Z) : FnG P w K mg base (L2.CX P w) 8 f fd [("_law_script" : Str)] (spLaw K) := by
  obtain ⟨oc, od, dV, kV, doc, pm, an, cdv, ct, osl, rfl, lk, hcd, _, _⟩ := F.ex
  refine fnG_of lk hcd sc_law (fun vs H Q E h => ?_) (fun A outer s H vs Q E hG hr h => ?_)
  · obtain ⟨a, ns, rfl, _⟩ := h
    rfl
  · obtain ⟨a, ns, rfl, hS0, hl, k⟩ := h
    have hu := hr.units
    have tk : Takes (BX P w K mg base [("_law_script" : Str), ("_law_pen_here" : Str), ("_law_turn" : Str), ("_law_three" : Str)] "law" (defScope (top 46)) f cdv A outer s H E) (WD E) := takes_of rfl rfl rfl rfl
    refine ⟨_, pss_cons (ps_set (i := 1) sc_law.nd rfl (Or.inl rfl) (pe_call G__law_pen.ok (hr.mono (by omega)) rfl G__law_pen.gl G__law_pen.kp G__law_pen.bi .nil pass0 (pa_cons (pv 0) pa_nil))) (pss_law (K := K) (W := WD E) (T := T_law K Z) fun p c H0 hpc => ?_), ?_⟩
    rotate_left
    · refine ⟨_, rfl, a, ns, rfl, hS0, hl, fun p c H0 s0 D0 => ?_⟩
      exact law_end D0 (hT ns hl) (fun H' => k H')
    exact pds_cons (pds_for (passes_of rfl) rfl (pdi_range1 (by rfl) T.n_range (pda_cons (pd_cst pe_int fun _ _ _ => .int _) (pda_nil))) (pdg_name (i := 2) sc_law.nd rfl (by first | exact Or.inl rfl | exact Or.inr rfl)) (pds_one (pds_if (PW.pt (pdw_or (pdt_not (pdt_truth rfl (pd_callG G__law_right rfl hG (hr.mono (by omega)) (by rfl) (fun σ => passAt tk σ) (pda_cons (pd_var (pv 1)) (pda_nil))))) (pdw_or1 (pdt_not (pdt_truth rfl (pd_callG G__law_pair_right rfl hG (hr.mono (by omega)) (by rfl) (fun σ => passAt tk σ) (pda_cons (pd_var (pv 1)) (pda_nil)))))))) (pds_one (pds_ret (pd_cst pe_bl fun _ _ _ => .bl _))) (pds_nil)))) (pds_cons (pds_set (i := 3) sc_law.nd rfl (by first | exact Or.inl rfl | exact Or.inr rfl) (pd_make M_Lines RI_Lines_2 rfl (hr.mono (by omega)) (by rfl) FA_Lines.gl (fun σ => passAt tk σ) (pda_cons (pd_lst (pda_cons (pd_cst pe_int fun _ _ _ => .int _) (pda_cons (pd_cst pe_int fun _ _ _ => .int _) (pda_cons (pd_cst pe_int fun _ _ _ => .int _) (pda_nil))))) (pda_cons (pd_lst (pda_cons (pd_cst pe_int fun _ _ _ => .int _) (pda_cons (pd_cst pe_int fun _ _ _ => .int _) (pda_nil)))) (pda_nil))))) (pds_cons (pds_if (pdt_cmp (op_neA hu) r_neA (pd_lst (pda_cons (pd_meth rfl FA_Lines.cl O_Lines_wanted R_Lines_wanted (hr.mono (by omega)) (fun σ => passAt tk σ) (pd_var (pv 3)) (pda_cons (pd_tup (pda_cons (pd_cst pe_int fun _ _ _ => .int _) (pda_cons (pd_cst pe_int fun _ _ _ => .int _) (pda_cons (pd_cst pe_int fun _ _ _ => .int _) (pda_nil))))) (pda_nil))) (pda_cons (pd_meth rfl FA_Lines.cl O_Lines_left_by R_Lines_left_by (hr.mono (by omega)) (fun σ => passAt tk σ) (pd_var (pv 3)) (pda_cons (pd_lst (pda_cons (pd_cst pe_int fun _ _ _ => .int _) (pda_cons (pd_cst pe_int fun _ _ _ => .int _) (pda_cons (pd_cst pe_int fun _ _ _ => .int _) (pda_nil))))) (pda_nil))) (pda_cons (pd_meth rfl FA_Lines.cl O_Lines_can R_Lines_can (hr.mono (by omega)) (fun σ => passAt tk σ) (pd_var (pv 3)) (pda_cons (pd_tup (pda_cons (pd_cst pe_int fun _ _ _ => .int _) (pda_cons (pd_cst pe_int fun _ _ _ => .int _) (pda_cons (pd_cst pe_int fun _ _ _ => .int _) (pda_nil))))) (pda_nil))) (pda_nil))))) (pd_lst (pda_cons (pd_tup (pda_cons (pd_cst pe_int fun _ _ _ => .int _) (pda_cons (pd_cst pe_int fun _ _ _ => .int _) (pda_cons (pd_cst pe_int fun _ _ _ => .int _) (pda_nil))))) (pda_cons (pd_tup (pda_cons (pd_cst pe_int fun _ _ _ => .int _) (pda_cons (pd_cst pe_int fun _ _ _ => .int _) (pda_cons (pd_cst pe_int fun _ _ _ => .int _) (pda_nil))))) (pda_cons (pd_cst pe_bl fun _ _ _ => .bl _) (pda_nil))))) (nomark _)) (pds_one (pds_ret (pd_cst pe_bl fun _ _ _ => .bl _))) (pds_nil)) (pds_one (pds_ret (pd_and (pd_cmpS (op_own rfl (fun _ _ => rfl) O_Lines___eq__ R_Lines___eq__ (hr.mono (by omega)) (fun σ => passAt tk σ)) (pd_make M_Lines RI_Lines_1 rfl (hr.mono (by omega)) (by rfl) FA_Lines.gl (fun σ => passAt tk σ) (pda_cons (pd_lst (pda_cons (pd_cst pe_int fun _ _ _ => .int _) (pda_cons (pd_cst pe_int fun _ _ _ => .int _) (pda_nil)))) (pda_nil))) (pd_make M_Lines RI_Lines_2 rfl (hr.mono (by omega)) (by rfl) FA_Lines.gl (fun σ => passAt tk σ) (pda_cons (pd_tup (pda_cons (pd_cst pe_int fun _ _ _ => .int _) (pda_cons (pd_cst pe_int fun _ _ _ => .int _) (pda_nil)))) (pda_cons (pd_lst (pda_cons (pd_cst pe_int fun _ _ _ => .int _) (pda_nil))) (pda_nil)))) (nomark _)) (pd_and (pd_cmp (op_eqA hu) r_eqA (pd_fld rfl FA_Lines.cl FA_Lines.na_caps (pd_make M_Lines RI_Lines_1 rfl (hr.mono (by omega)) (by rfl) FA_Lines.gl (fun σ => passAt tk σ) (pda_cons (pd_lst (pda_cons (pd_cst pe_int fun _ _ _ => .int _) (pda_nil))) (pda_nil)))) (pd_tup (pda_nil)) (nomark _)) (pd_one (pd_cmpS (op_neOwn rfl O_Lines___eq__ FA_Lines.ne FA_Lines.sb R_Lines___eq__ (hr.mono (by omega)) (fun σ => passAt tk σ)) (pd_make M_Lines RI_Lines_1 rfl (hr.mono (by omega)) (by rfl) FA_Lines.gl (fun σ => passAt tk σ) (pda_cons (pd_lst (pda_cons (pd_cst pe_int fun _ _ _ => .int _) (pda_nil))) (pda_nil))) (pd_make M_Lines RI_Lines_1 rfl (hr.mono (by omega)) (by rfl) FA_Lines.gl (fun σ => passAt tk σ) (pda_cons (pd_lst (pda_cons (pd_cst pe_int fun _ _ _ => .int _) (pda_cons (pd_cst pe_int fun _ _ _ => .int _) (pda_nil)))) (pda_nil))) (nomark _)))))))))
end
end G50
end
section
set_option maxRecDepth 100000
set_option maxHeartbeats 4000000
namespace G50
open PySem PySem.Spec PyProof.Rows L2 Lw
abbrev sPen : Stmt := top 34
abbrev sDraw : Stmt := top 35
abbrev sPick : Stmt := top 36

section
variable {P : Program} {w : World} {K : PySem.W.Frag} {mg : Str → Option Value} {base : Heap}
theorem scD : FnScope ["_law_pen_here", "_law_many", "_law_digit", "_law_used", "_law_cell", "_law_great", "_law_mixed"] ["_law_pen_here", "_law_many"] (defScope sDraw) := ⟨rfl, rfl, rfl, by decide +kernel, rfl, by decide +kernel, by decide +kernel⟩
theorem ok_draw {f : Addr} {fd : FuncData} (F : Fun K "_law_draw" "_law_draw" sDraw f fd) (T : TxtB mg) : FnOk P w K mg base CX0 1 f fd ["_law_pen_here", "_law_many"] spDraw := by
  refine F.ok scD (fun vs H Q E h => ?_) (fun cdv A outer s H vs Q E hr h => ?_)
  · obtain ⟨p, c, ns, i, r, m, rfl, _⟩ := h
    rfl
  · obtain ⟨p, c, ns, i, r, m, rfl, D, hm0, hm1, hi, k⟩ := h
    refine ⟨_, pss_cons (ps_if (pt_cmpR op_gt (pe_ix ix_list (pv 0) pe_int (fun _ _ => rfl)) pe_int (nomark _))
        (pss_cons (ps_set (i := 2) scD.nd rfl (Or.inl rfl) (pe_op op_modN (pe_callTy call_int1 (by rfl) T.int (by decide +kernel) (pa_cons (pe_ix ix_list (pv 0) pe_int (fun _ _ => rfl)) pa_nil)) (pv 1)))
        (pss_cons (ps_asg (pe_op op_fdivN (pe_callTy call_int1 (by rfl) T.int (by decide +kernel) (pa_cons (pe_ix ix_list (pv 0) pe_int (fun _ _ => rfl)) pa_nil)) (pv 1)) (pg_sub (pv 0) pe_int set_list))
        (pss_one (ps_ret (pv 2))))) pss_nil)
      (pss_cons (ps_set (i := 3) scD.nd rfl (Or.inl rfl) (pe_ix ix_list (pv 0) pe_int (fun _ _ => rfl)))
      (pss_cons (ps_asg (pe_op op_add (pv 3) pe_int) (pg_sub (pv 0) pe_int set_list))
      (pss_cons (ps_set (i := 4) scD.nd rfl (Or.inl rfl) (pe_op op_add (pe_op op_mul pe_int (pv 3)) pe_int))
      (pss_cons (ps_if (pt_cmpR (op_neD (hr.units)) (pe_ix ix_list (pv 0) pe_int (fun _ _ => rfl)) (pe_lst pa_nil) (nomark _))
        (pss_one (ps_set (i := 4) scD.nd rfl (Or.inl rfl) (pe_ix ix_list (pe_ix ix_list (pv 0) pe_int (fun _ _ => rfl)) (pe_op op_modN (pe_callTy call_int1 (by rfl) T.int (by decide +kernel) (pa_cons (pv 3) pa_nil)) (pe_callB call_len_seq (by rfl) T.len PySem.boot_len (pa_cons (pe_ix ix_list (pv 0) pe_int (fun _ _ => rfl)) pa_nil))) (fun _ _ => rfl)))) pss_nil)
      (pss_cons (ps_if (PW.pt (pw_and (pt_cmpR op_lt (pv 3) (pe_callB call_len_seq (by rfl) T.len PySem.boot_len (pa_cons (pe_ix ix_list (pv 0) pe_int (fun _ _ => rfl)) pa_nil)) (nomark _))
            (pw_and1 (pt_cmpR op_ge (pe_callB call_abs (by rfl) T.abs (by decide +kernel) (pa_cons (pv 4) pa_nil)) (pe_op op_pow pe_int pe_int) (nomark _)))))
          (pss_cons (ps_set (i := 5) scD.nd rfl (Or.inl rfl) (pe_op op_add (pe_op op_mul pe_int (pe_op op_sub (pe_callB call_abs (by rfl) T.abs (by decide +kernel) (pa_cons (pv 4) pa_nil)) (pe_op op_pow pe_int pe_int)))
              (pe_callTy call_int1 (by rfl) T.int (by decide +kernel) (pa_cons (pe_cmpR op_lt (pv 4) pe_int (nomark _)) pa_nil))))
          (pss_cons (ps_asg (pe_op op_fdivN (pe_callTy call_int1 (by rfl) T.int (by decide +kernel) (pa_cons (pv 5) pa_nil)) (pv 1)) (pg_sub (pv 0) pe_int set_list))
          (pss_one (ps_ret (pe_op op_modN (pe_callTy call_int1 (by rfl) T.int (by decide +kernel) (pa_cons (pv 5) pa_nil)) (pv 1)))))) pss_nil)
      (pss_cons (ps_set (i := 6) scD.nd rfl (Or.inl rfl) (pe_op op_modN (pe_callTy call_int1 (by rfl) T.int (by decide +kernel) (pa_cons (pe_op op_pow (pe_op op_add (pe_op op_add (pe_op op_modN (pe_callTy call_int1 (by rfl) T.int (by decide +kernel) (pa_cons (pv 4) pa_nil)) pe_int) (pe_op op_mul pe_int (pv 3))) pe_int) pe_int) pa_nil)) pe_int))
      (pss_cons (ps_set (i := 6) scD.nd rfl (Or.inl rfl) (pe_op op_modN (pe_callTy call_int1 (by rfl) T.int (by decide +kernel) (pa_cons (pe_op op_pow (pe_op op_add (pe_op op_add (pe_op op_mul (pv 6) (pe_op op_add (pe_op op_mul pe_int (pv 3)) pe_int)) (pe_op op_mul (pe_op op_mul pe_int (pv 3)) (pv 3))) pe_int) pe_int) pa_nil)) pe_int))
      (pss_one (ps_ret (pe_op op_modN (pe_callTy call_int1 (by rfl) T.int (by decide +kernel) (pa_cons (pe_op op_fdivN (pv 6) pe_int) pa_nil)) (pv 1))))))))))), ?_⟩
    have hpc := D.ne
    obtain ⟨h1, h2, i0, r0, l63⟩ := id D
    refine ⟨_, rfl, _, _, _, _, rfl, rfl, SqL.of h1, rfl, _, _, rfl, rfl, _, rfl, ?_⟩
    refine ite2 (fun c1 => ?_) (fun c1 => ?_)
    · refine ⟨_, rfl, _, _, _, _, rfl, rfl, SqL.of h1, rfl, Or.inl ⟨_, rfl, _, rfl, _, _, rfl, rfl, (by omega), ?_⟩⟩
      refine ⟨_, rfl, _, _, _, _, rfl, rfl, SqL.of h1, rfl, Or.inl ⟨_, rfl, _, rfl, _, _, rfl, rfl, (by constructor <;> omega), _, rfl, _, _, _, _, rfl, rfl, h1, rfl, _, rfl, ?_⟩⟩
      have z : (0 : Int) ≤ r.fdiv m := by
        rw [Int.fdiv_eq_ediv_of_nonneg _ (by omega)]
        exact Int.ediv_nonneg r0 (by omega)
      exact k _ _ _ _ (fm hm0).1 (fm hm0).2 (Int.le_refl _) (by omega) (D.next (But.upd (But.refl _ _)) upd_same i0 z) (But.upd (But.refl _ _))
    · refine ⟨_, rfl, _, _, _, _, rfl, rfl, SqL.of h1, rfl, ?_⟩
      refine ⟨_, rfl, _, _, rfl, rfl, _, rfl, _, _, _, _, rfl, rfl, h1, rfl, ?_⟩
      have hc : ∀ o, upd H p o c = some (.lst (ns.map V.int)) := fun o => by rw [upd_ne hpc.symm]; exact h2
      refine ⟨_, rfl, _, _, rfl, rfl, mul_okL (by omega) (by omega), _, _, rfl, rfl, ?_⟩
      refine ⟨_, rfl, _, _, _, _, rfl, rfl, SqL.of upd_same, rfl, (by decide), fun l hl => ?_⟩
      have hpl : p ≠ l := ne_of_none upd_same hl
      have hcl : c ≠ l := ne_of_none (hc _) hl
      have g1 : ∀ o, upd (upd H p (.lst [.ref c, .int (i + 1), .int r])) l o p = some (.lst [.ref c, .int (i + 1), .int r]) := fun o => by rw [upd_ne hpl]; exact upd_same
      have g2 : ∀ o, upd (upd H p (.lst [.ref c, .int (i + 1), .int r])) l o c = some (.lst (ns.map V.int)) := fun o => by rw [upd_ne hcl]; exact hc _
      refine ⟨_, _, .lst (SqL.of (g2 _)) (dp_ints ns), .lst (SqL.of upd_same) .nil, shaped_ints ns, rfl, _, rfl, ?_⟩
      have B1 : ∀ {o u : HO}, But p H (upd (upd H p o) l u) := fun {o u} => by
        refine But.new (But.upd (But.refl _ _)) ?_
        by_cases e : l = p
        · exact absurd e.symm hpl
        · rw [upd_ne e]
          rw [upd_ne e] at hl
          exact hl
      refine ite2 (fun c2 => ?_) (fun c2 => ?_)
      focus
        have hne : ns.isEmpty = false := by simpa [eqv_ints_nil] using c2
        obtain ⟨z, hz⟩ := at_fmod (i := i) hne
        have hl0 : (((ns.map V.int).length : Nat) : Int) ≠ 0 := by
          rw [List.length_map]
          have : ns.length ≠ 0 := by
            intro e
            rw [List.isEmpty_eq_false_iff] at hne
            exact hne (List.length_eq_zero_iff.mp e)
          omega
        refine ⟨_, rfl, _, _, _, _, rfl, rfl, SqL.of (g1 _), rfl, _, rfl, Or.inl ⟨_, rfl, _, rfl, _, _, _, _, rfl, rfl, SqL.of (g1 _), rfl, _, _, rfl, Or.inl (SqL.of (g2 _)), _, _, rfl, rfl, hl0, _, _, _, _, rfl, rfl, SqL.of (g2 _), hz, ?_⟩⟩
      all_goals
        refine ⟨_, rfl, _, rfl, _, _, _, _, rfl, rfl, SqL.of (g1 _), rfl, _, _, rfl, Or.inl (SqL.of (g2 _)), _, _, rfl, rfl, _, rfl, ?_⟩
        refine ite2 (fun c3 => ?_) (fun c3 => ?_)
        focus
          refine ⟨_, rfl, _, rfl, _, _, rfl, rfl, p18, _, _, rfl, rfl, _, rfl, ?_⟩
          refine ite2 (fun c4 => ?_) (fun c4 => ?_)
          · refine ⟨_, rfl, _, rfl, _, _, rfl, rfl, p18, _, _, rfl, rfl, _, _, rfl, rfl, mul_okL (by omega) (by omega), _, rfl, _, _, rfl, rfl, Or.inr ⟨_, rfl, _, _, rfl, rfl, ?_⟩⟩
            have gn := great_nn c4
            refine ⟨_, rfl, Or.inl ⟨_, rfl, _, rfl, _, _, rfl, rfl, (by constructor <;> omega), _, rfl, _, _, _, _, rfl, rfl, g1 _, rfl, ?_⟩⟩
            refine ⟨_, rfl, Or.inl ⟨_, rfl, _, rfl, _, _, rfl, rfl, (by omega), ?_⟩⟩
            exact k _ _ _ _ (fm hm0).1 (fm hm0).2 (by omega) (Int.le_refl _) (D.next (But.upd B1) upd_same (by omega) (fdiv_nn gn hm0)) (But.upd B1)
        rotate_left
        focus refine iteF ?_
        all_goals
          refine ⟨_, rfl, Or.inl ⟨_, rfl, _, _, rfl, rfl, (by intro z; omega), _, rfl, _, _, rfl, rfl, mul_okL (by omega) (by omega), _, _, rfl, rfl, _, _, rfl, rfl, _, _, rfl, rfl, ?_, Or.inl ⟨_, rfl, _, _, rfl, rfl, (by intro z; omega), ?_⟩⟩⟩
          · exact pow_ok _ (st1_nn i0 (by omega)) (st1_lt (by omega) (by omega) ⟨i0, hi⟩) (by omega) (by omega)
          refine ⟨_, rfl, _, rfl, _, _, rfl, rfl, mul_okL (by omega) (by omega), _, _, rfl, rfl, _, _, rfl, rfl, ?_, _, rfl, _, _, rfl, rfl, mul_okL (by omega) (by omega), _, rfl, _, _, rfl, rfl, ?_, _, _, rfl, rfl, _, _, rfl, rfl, _, _, rfl, rfl, ?_, Or.inl ⟨_, rfl, _, _, rfl, rfl, (by intro z; omega), ?_⟩⟩
          · exact st2_a (by omega)
          · exact st2_b ⟨i0, hi⟩ (by omega)
          · exact pow_ok _ (st2_nn i0 (by omega)) (st2_lt (by omega) (by omega) ⟨i0, hi⟩) (by omega) (by omega)
          refine ⟨_, rfl, _, _, rfl, rfl, (by constructor <;> omega), Or.inl ⟨_, rfl, _, rfl, _, _, rfl, rfl, (by omega), ?_⟩⟩
          exact k _ _ _ _ (fm hm0).1 (fm hm0).2 (by omega) (Int.le_refl _) (D.next B1 (g1 _) (by omega) r0) B1
theorem scPen : FnScope ["_law_script"] ["_law_script"] (defScope sPen) := ⟨rfl, rfl, rfl, by decide +kernel, rfl, by decide +kernel, by decide +kernel⟩
theorem ok_pen {f : Addr} {fd : FuncData} (F : Fun K "_law_pen" "_law_pen" sPen f fd) (T : TxtB mg) : FnOk P w K mg base CX0 1 f fd ["_law_script"] (spPen K) := by
  refine F.ok scPen (fun vs H Q E h => ?_) (fun cdv A outer s H vs Q E hr h => ?_)
  · obtain ⟨a, ns, rfl, _⟩ := h
    rfl
  · obtain ⟨a, ns, rfl, hS, hl, k⟩ := h
    refine ⟨_, pss_one (ps_ret (pe_lstS (pa_cons (pe_callTy call_listS (by rfl) T.list (by decide +kernel) (pa_cons (pe_slS (pv 0) po_none (po_some pe_int)) pa_nil)) (pa_cons pe_int (pa_cons pe_int pa_nil))))), ?_⟩
    have e := cut63 (xs := ns.map V.int) (by rw [List.length_map]; exact hl)
    refine ⟨_, rfl, _, rfl, _, _, rfl, hS, fun l1 H1 n1 s1 g1 => ?_⟩
    refine ⟨_, _, rfl, Or.inl (SqL.of g1), fun l2 H2 n2 s2 g2 => ⟨by show 3 ≤ sizeLine; decide, fun l3 H3 n3 s3 g3 => ?_⟩⟩
    rw [e] at g2
    exact k _ _ _ (Same.trans (Same.trans s1 s2) s3) ⟨g3, s3 _ _ g2, by omega, by omega, hl⟩
theorem scPick : FnScope ["_law_pen_here", "_law_some"] ["_law_pen_here", "_law_some"] (defScope sPick) := ⟨rfl, rfl, rfl, by decide +kernel, rfl, by decide +kernel, by decide +kernel⟩
theorem ok_pick {f g : Addr} {fd gd : FuncData} (F : Fun K "_law_pick" "_law_pick" sPick f fd) (T : TxtB mg) (FD : Fun K "_law_draw" "_law_draw" sDraw g gd) (mgD : mg "_law_draw" = some (.ref g)) (bD : Binds K gd ["_law_pen_here", "_law_many"] []) :
    FnOk P w K mg base CX0 2 f fd ["_law_pen_here", "_law_some"] spPick := by
  have GD : FnOk P w K mg base CX0 1 g gd ["_law_pen_here", "_law_many"] spDraw := ok_draw FD T
  refine F.ok scPick (fun vs H Q E h => ?_) (fun cdv A outer s H vs Q E hr h => ?_)
  · obtain ⟨p, c, q, ns, i, r, xs, rfl, _⟩ := h
    rfl
  · obtain ⟨p, c, q, ns, i, r, xs, rfl, D, hi, hq, hqp, hne, hl, k⟩ := h
    refine ⟨_, pss_one (ps_ret (pe_ix ix_list (pv 1) (pe_call GD hr rfl mgD FD.kp bD .nil pass0 (pa_cons (pv 0) (pa_cons (pe_callB call_len_seq (by rfl) T.len PySem.boot_len (pa_cons (pv 1) pa_nil)) pa_nil))) (fun _ _ => rfl))), ?_⟩
    have l0 : 0 < xs.length := List.length_pos_iff.mpr hne
    refine ⟨_, rfl, _, rfl, _, rfl, _, _, rfl, Or.inl (SqL.of hq), ?_⟩
    refine ⟨p, c, ns, i, r, _, rfl, D, by omega, by omega, hi, fun d i' r' H' d0 d1 i1 i2 D' B => ?_⟩
    obtain ⟨x, hx, ha⟩ := at_mem d0 d1
    exact ⟨_, _, _, _, rfl, rfl, SqL.of (B _ _ hqp hq), ha, k x i' r' H' hx i1 i2 D' B⟩
end
end G50
end
section
set_option maxRecDepth 100000
set_option maxHeartbeats 4000000
namespace G50
open PySem L2 Lw Td
local macro_rules | `(tactic| kd_subs) => `(tactic| (repeat (with_reducible first | refine s_seq ?_ | refine e_call ?_ | refine e_cons ?_ | refine e_nil ?_ | refine e_c ?_ | refine e_var (by with_unfolding_all exact rfl) ?_ | refine e_varL (by with_unfolding_all exact rfl) ?_ | refine e_op ?_ | refine e_un ?_ | refine e_cb ?_ | refine s_ret ?_ | refine s_set ?_ | refine s_if ?_ | refine t_tst ?_ | refine t_tru ?_ | refine t_not ?_ | refine t_or ?_ | refine t_and ?_ | refine e_if ?_ | refine e_andV ?_ | refine e_orV ?_ | refine e_notV ?_ | refine e_chain ?_ | refine q_bl ?_ | refine q_tb ?_ | refine if_tt ?_ | refine if_ff ?_ | refine if_nt ?_ | refine if_nf ?_ | refine s_next ?_ | refine s_drop ?_ | refine s_ap (by with_unfolding_all exact rfl) ?_ | refine s_raise1 ?_ | refine s_for ?_ | refine s_par3 ?_ | refine seq_L ?_ | refine seq_T ?_ | refine rd_get ?_ | refine rd_len ?_ | refine s_setO ?_ | refine s_par ?_ | refine s_sf ?_ | refine e_two ?_ | refine e_make ?_ | refine e_makeKw ?_ | refine e_meth ?_ | refine e_methK ?_ | refine e_step ?_ | refine e_tup ?_ | refine e_lst ?_ | refine o_lst ?_ | refine e_lc ?_ | refine e_itB ?_ | refine e_own ?_ | refine i_lst ?_ | refine i_tup ?_ | refine i_zipT ?_ | refine i_zipL ?_ | refine e_sl ?_ | refine e_p ?_ | refine p_int ?_ | refine e_noP ?_ | refine v_cmp ?_ | refine v_neg ?_ | refine v_revL ?_ | refine v_max2 ?_ | refine v_intI ?_ | refine v_isN0 ?_ | refine e_yes ?_ | refine g_n ?_ | refine e_pk ?_ | refine v_add ?_ | refine v_sub ?_ | refine v_tupL ?_ | refine v_tupT ?_ | refine v_lstL ?_ | refine v_lstT ?_)))
local macro_rules | `(tactic| kd_mem) => `(tactic| (repeat (with_reducible first | refine e_call ?_ | refine e_cons ?_ | refine e_nil ?_ | refine e_c ?_ | refine e_var (by with_unfolding_all exact rfl) ?_ | refine e_varL (by with_unfolding_all exact rfl) ?_ | refine e_op ?_ | refine e_un ?_ | refine e_cb ?_ | refine s_ret ?_ | refine s_set ?_ | refine s_if ?_ | refine t_tst ?_ | refine t_tru ?_ | refine t_not ?_ | refine t_or ?_ | refine t_and ?_ | refine e_if ?_ | refine e_andV ?_ | refine e_orV ?_ | refine e_notV ?_ | refine e_chain ?_ | refine q_bl ?_ | refine q_tb ?_ | refine if_tt ?_ | refine if_ff ?_ | refine if_nt ?_ | refine if_nf ?_ | refine s_drop ?_ | refine s_ap (by with_unfolding_all exact rfl) ?_ | refine s_raise1 ?_ | refine s_for ?_ | refine s_par3 ?_ | refine seq_L ?_ | refine seq_T ?_ | refine rd_get ?_ | refine rd_len ?_ | refine s_setO ?_ | refine s_par ?_ | refine s_sf ?_ | refine e_two ?_ | refine e_make ?_ | refine e_makeKw ?_ | refine e_meth ?_ | refine e_methK ?_ | refine e_step ?_ | refine e_tup ?_ | refine e_lst ?_ | refine o_lst ?_ | refine e_lc ?_ | refine e_itB ?_ | refine e_own ?_ | refine i_lst ?_ | refine i_tup ?_ | refine i_zipT ?_ | refine i_zipL ?_ | refine e_sl ?_ | refine e_p ?_ | refine p_int ?_ | refine e_noP ?_ | refine v_cmp ?_ | refine v_neg ?_ | refine v_revL ?_ | refine v_max2 ?_ | refine v_intI ?_ | refine v_isN0 ?_ | refine e_yes ?_ | refine g_n ?_ | refine e_pk ?_ | refine v_add ?_ | refine v_sub ?_ | refine v_tupL ?_ | refine v_tupT ?_ | refine v_lstL ?_ | refine v_lstT ?_)))
abbrev I (ns : List Int) : List D := ns.map D.int
/-- kinds of values -/
structure Kt (K : PySem.W.Frag) (Z : Er) : Prop where
  ii : PySem.W.kitOne K (.type "int") (.type "int") = some true
  ib : PySem.W.kitOne K (.type "int") (.type "bool") = some false
  ls : PySem.W.kitAny K (.type "list") [.type "list", .type "tuple"] = some true
  ts : PySem.W.kitAny K (.type "tuple") [.type "list", .type "tuple"] = some true
  ll : PySem.W.kitOne K (.ref Z.Lines) (.ref Z.Lines) = some true
  el : PySem.W.kitOne K (.ref Z.BadLines) (.ref Z.BadLines) = some true
  xb : PySem.W.exmOne K (.ref Z.BadLines) (.ref Z.StayError) = some true
  xc : ExcC K Z.BadLines
  ci : ClsI K Z.Lines
  nfL : PySem.W.notFirst K Z.Lines (.ref Z.Lines) = true
  nfl : PySem.W.notFirst K Z.Lines (.type "list") = true
  lo : PySem.W.kitOne K (.type "list") (.ref Z.Lines) = some false
section
variable {K : PySem.W.Frag} {Z : Er} {pn : Pn} {Q : D → Pn → Prop} {X : Addr → List (Str × D) → Pn → Prop}
theorem v_isint {i : Int} (k : Kt K Z) (h : Q (.bl true) pn) : S_is_integer K Z [.int i] pn Q X := by
  refine ⟨rfl, ?_⟩
  unfold T_is_integer
  kd_subs
  refine v_isi trivial rfl rfl k.ii ?_
  kd_subs
  refine v_isi trivial rfl rfl k.ib ?_
  kd_subs
  exact h
theorem v_isam {i : Int} (k : Kt K Z) (hi : 0 ≤ i) (h : Q (.bl true) pn) : S_is_amount K Z [.int i] pn Q X := by
  refine ⟨rfl, ?_⟩
  unfold T_is_amount
  kd_subs
  refine v_isint k ?_
  kd_subs
  rw [decide_eq_true hi]
  exact h
theorem v_isL {ds : List D} (k : Kt K Z) (h : Q (.bl true) pn) : S_is_sequence K Z [.lst ds] pn Q X := by
  refine ⟨rfl, ?_⟩
  unfold T_is_sequence
  kd_subs
  refine ⟨by simp [sizeLine], ?_⟩
  kd_subs
  refine v_isiT trivial rfl rfl k.ls ?_
  exact h
theorem v_isT {ds : List D} (k : Kt K Z) (h : Q (.bl true) pn) : S_is_sequence K Z [.tup ds] pn Q X := by
  refine ⟨rfl, ?_⟩
  unfold T_is_sequence
  kd_subs
  refine ⟨by simp [sizeLine], ?_⟩
  kd_subs
  refine v_isiT trivial rfl rfl k.ts ?_
  exact h
theorem map_bl (ns : List Int) : (I ns).map (fun _ => D.bl true) = (List.replicate ns.length true).map D.bl := by
  induction ns with
  | nil => rfl
  | cons a t ih => simpa [List.replicate_succ] using ih
theorem v_areL {ns : List Int} (k : Kt K Z) (hn : ∀ i ∈ ns, 0 ≤ i) (hl : ns.length ≤ 1000) (h : Q (.bl true) pn) : S_are_amounts K Z [.lst (I ns)] pn Q X := by
  refine ⟨rfl, ?_⟩
  unfold T_are_amounts
  kd_subs
  refine v_isL k ?_
  kd_subs
  refine e_itL ?_
  kd_subs
  refine lc_map (fun _ => .bl true) rfl (fun d hd Q q => ?_) (by simp [sizeLine]; omega) ?_
  · obtain ⟨i, hi, rfl⟩ := List.mem_map.mp hd
    kd_subs
    exact v_isam k (hn i hi) q
  · rw [map_bl]
    kd_subs
    refine v_all ?_
    rw [show (List.replicate ns.length true).all id = true from by simp]
    exact h
theorem v_areT {ns : List Int} (k : Kt K Z) (hn : ∀ i ∈ ns, 0 ≤ i) (hl : ns.length ≤ 1000) (h : Q (.bl true) pn) : S_are_amounts K Z [.tup (I ns)] pn Q X := by
  refine ⟨rfl, ?_⟩
  unfold T_are_amounts
  kd_subs
  refine v_isT k ?_
  kd_subs
  refine e_itT ?_
  kd_subs
  refine lc_map (fun _ => .bl true) rfl (fun d hd Q q => ?_) (by simp [sizeLine]; omega) ?_
  · obtain ⟨i, hi, rfl⟩ := List.mem_map.mp hd
    kd_subs
    exact v_isam k (hn i hi) q
  · rw [map_bl]
    kd_subs
    refine v_all ?_
    rw [show (List.replicate ns.length true).all id = true from by simp]
    exact h
theorem v_within {i a b : Int} (k : Kt K Z) (h1 : a ≤ i) (h2 : i ≤ b) (h : Q (.bl true) pn) : S_is_within K Z [.int i, .int a, .int b] pn Q X := by
  refine ⟨rfl, ?_⟩
  unfold T_is_within
  kd_subs
  refine v_isint k ?_
  kd_subs
  refine if_t (decide_eq_true h1) ?_
  kd_subs
  rw [decide_eq_true h2]
  exact h
/-- the fields of Lines -/
abbrev LF (ss cs : List Int) : List (Str × D) := [("sums", .tup (I ss)), ("caps", .tup (I cs))]
abbrev LD (Z : Er) (ss cs : List Int) : D := .obj Z.Lines (LF ss cs)
/-- what is right -/
structure Good (ss cs : List Int) : Prop where
  s0 : ∀ i ∈ ss, 0 ≤ i
  c0 : ∀ i ∈ cs, 0 ≤ i
  l1 : 1 ≤ ss.length
  l6 : ss.length ≤ 6
  lc : cs.length + 1 = ss.length

theorem v_are {d : D} {ns : List Int} (k : Kt K Z) (s : SqD d ns) (hn : ∀ i ∈ ns, 0 ≤ i) (hl : ns.length ≤ 1000) (h : Q (.bl true) pn) : S_are_amounts K Z [d] pn Q X := by
  rcases s with rfl | rfl
  · exact v_areL k hn hl h
  · exact v_areT k hn hl h
theorem v_init {ss cs : List Int} {d e : D} {Q : List (Str × D) → Pn → Prop} (k : Kt K Z) (g : Good ss cs) (hd : SqD d ss) (he : SqD e cs) (h : Q (LF ss cs) pn) : S_Lines___init__ K Z [d, e] pn Q X := by
  have l1 := g.l1
  have l6 := g.l6
  have lc := g.lc
  refine ⟨rfl, ?_⟩
  unfold T_Lines___init__
  kd_subs
  refine v_are k hd g.s0 (by omega) ?_
  kd_subs
  refine w_len hd ?_
  kd_subs
  refine if_t (decide_eq_true (by omega)) ?_
  kd_subs
  rw [decide_eq_true (show ((ss.length : Nat) : Int) ≤ 6 by omega)]
  kd_subs
  refine v_isN (b := true) (by rcases he with rfl | rfl <;> rfl) ?_
  kd_subs
  refine v_are k he g.c0 (by omega) ?_
  kd_subs
  refine w_len he ?_
  kd_subs
  refine w_len hd ?_
  kd_subs
  refine w_eqI (by omega) ?_
  kd_subs
  refine w_tup hd ?_
  kd_subs
  refine sf rfl (by simp [putFD]) rfl ?_
  kd_subs
  refine v_isN (b := false) (by rcases he with rfl | rfl <;> rfl) ?_
  kd_subs
  refine w_tup he ?_
  kd_subs
  refine sf rfl (by simp [putFD]) rfl ?_
  exact ⟨rfl, h⟩
theorem v_init0 {ss cs : List Int} {d : D} {Q : List (Str × D) → Pn → Prop} (k : Kt K Z) (g : Good ss cs) (hd : SqD d ss) (he : cs = List.replicate (ss.length - 1) 0) (h : Q (LF ss cs) pn) : S_Lines___init__ K Z [d, .non] pn Q X := by
  have l1 := g.l1
  have l6 := g.l6
  refine ⟨rfl, ?_⟩
  unfold T_Lines___init__
  kd_subs
  refine v_are k hd g.s0 (by omega) ?_
  kd_subs
  refine w_len hd ?_
  kd_subs
  refine if_t (decide_eq_true (by omega)) ?_
  kd_subs
  rw [decide_eq_true (show ((ss.length : Nat) : Int) ≤ 6 by omega)]
  kd_subs
  refine w_tup hd ?_
  kd_subs
  refine sf rfl (by simp [putFD]) rfl ?_
  kd_subs
  refine ⟨by simp [sizeLine], ?_⟩
  kd_subs
  refine w_len hd ?_
  kd_subs
  rw [show (ss.length : Int) - 1 = ((ss.length - 1 : Nat) : Int) by omega]
  refine v_repT (by simp) (by omega) (by simp) ?_
  refine sf rfl (by simp [putFD]) rfl ?_
  rw [show (List.replicate (ss.length - 1) [D.int 0]).flatten = I cs by rw [he]; simp [List.map_replicate]]
  exact ⟨rfl, h⟩
theorem v_len {ss cs : List Int} (h : Q (.int ss.length) pn) : S_Lines___len__ K Z [LD Z ss cs] pn Q X := by
  refine ⟨rfl, ?_⟩
  unfold T_Lines___len__
  kd_subs
  refine v_fld rfl ?_
  kd_subs
  refine w_len (sqT ss) ?_
  exact h
theorem v_item {ss cs : List Int} {n : Nat} {x : Int} (k : Kt K Z) (e : ss[n]? = some x) {i : Int} (ei : i = (n : Int) + 1) (h : Q (.int x) pn) : S_Lines___getitem__ K Z [LD Z ss cs, .int i] pn Q X := by
  subst ei
  have hn := (List.getElem?_eq_some_iff.mp e).1
  refine ⟨rfl, ?_⟩
  unfold T_Lines___getitem__
  kd_subs
  refine v_fld rfl ?_
  kd_subs
  refine w_len (sqT ss) ?_
  kd_subs
  refine v_within k (by omega) (by omega) ?_
  kd_subs
  refine v_fld rfl ?_
  kd_subs
  refine w_ix (sqT ss) (by omega) e ?_
  exact h
/-- the first sums of lines a+1 to b, and the cap into a+1 -/
def thereL (ss cs : List Int) (a b : Nat) : Int := ((ss.drop a).take (b - a)).sum + (if 0 < a then cs.getD (a - 1) 0 else 0)
theorem v_reach {ss cs : List Int} {a b : Nat} (k : Kt K Z) (g : Good ss cs) (h1 : a < b) (h2 : b ≤ ss.length) {i j : Int} (ei : i = (a : Int) + 1) (ej : j = (b : Int)) (h : Q (.int (thereL ss cs a b)) pn) : S_Lines_reach K Z [LD Z ss cs, .int i, .int j] pn Q X := by
  subst ei ej
  have lc := g.lc
  refine ⟨rfl, ?_⟩
  unfold T_Lines_reach
  kd_subs
  refine v_fld rfl ?_
  kd_subs
  refine w_len (sqT ss) ?_
  kd_subs
  refine v_within k (by omega) (by omega) ?_
  kd_subs
  refine v_fld rfl ?_
  kd_subs
  refine w_len (sqT ss) ?_
  kd_subs
  refine v_within k (by omega) (by omega) ?_
  kd_subs
  refine v_fld rfl ?_
  kd_subs
  rw [show (a : Int) + 1 - 1 = a by omega]
  refine w_cut (sqT ss) (by omega) fun d' hd => ?_
  kd_subs
  refine w_sum hd ?_
  kd_subs
  unfold thereL at h
  refine if_2 (fun c => ?_) (fun c => ?_)
  · have c' := of_decide_eq_true c
    kd_subs
    refine v_fld rfl ?_
    kd_subs
    obtain ⟨x, hx⟩ : ∃ x, cs[a - 1]? = some x := ⟨_, List.getElem?_eq_getElem (by omega)⟩
    refine w_ix (sqT cs) (by omega) hx ?_
    kd_subs
    rw [if_pos (by omega), List.getD_eq_getElem?_getD, hx] at h
    exact h
  · have c' := of_decide_eq_false c
    kd_subs
    rw [if_neg (by omega)] at h
    exact h

theorem v_there {ss cs : List Int} {a b : Nat} (g : Good ss cs) (h1 : a < b) (h2 : b ≤ ss.length) {i j : Int} (ei : i = (a : Int) + 1) (ej : j = (b : Int)) (h : Q (.int (thereL ss cs a b)) pn) : S__law_there K Z [.tup [.lst (I ss), .lst (I cs)], .int i, .int j] pn Q X := by
  subst ei ej
  have lc := g.lc
  refine ⟨rfl, ?_⟩
  unfold T__law_there
  kd_subs
  refine v_ixTI rfl rfl ?_
  kd_subs
  rw [show (a : Int) + 1 - 1 = a by omega]
  refine w_cut (sqL ss) (by omega) fun d' hd => ?_
  kd_subs
  refine w_sum hd ?_
  kd_subs
  unfold thereL at h
  refine if_2 (fun c => ?_) (fun c => ?_)
  · have c' := of_decide_eq_true c
    kd_subs
    refine v_ixTI rfl rfl ?_
    kd_subs
    obtain ⟨x, hx⟩ : ∃ x, cs[a - 1]? = some x := ⟨_, List.getElem?_eq_getElem (by omega)⟩
    refine w_ix (sqL cs) (by omega) hx ?_
    kd_subs
    rw [if_pos (by omega), List.getD_eq_getElem?_getD, hx] at h
    exact h
  · have c' := of_decide_eq_false c
    kd_subs
    rw [if_neg (by omega)] at h
    exact h
theorem v_checkS {ss cs ps : List Int} {d : D} (k : Kt K Z) (g : Good ss cs) (s : SqD d ps) (h0 : ∀ i ∈ ps, 0 ≤ i) (hl : ps.length = ss.length) (h : Q .non pn) : S_check_spent K Z [LD Z ss cs, d] pn Q X := by
  have l6 := g.l6
  refine ⟨rfl, ?_⟩
  unfold T_check_spent
  kd_subs
  refine v_are k s h0 (by omega) ?_
  kd_subs
  refine w_len s ?_
  kd_subs
  refine v_fld rfl ?_
  kd_subs
  refine w_len (sqT ss) ?_
  kd_subs
  refine w_eqI (by omega) ?_
  kd_subs
  exact h
/-- what must come into each line -/
def wantL : List Int → List Int → List Int
  | s :: ss, p :: ps => max 0 (p + (wantL ss ps).headD 0 - s) :: wantL ss ps
  | _, _ => []
theorem wantL_len : ∀ (ss ps : List Int), ps.length = ss.length → (wantL ss ps).length = ss.length
  | [], _, _ => by simp [wantL]
  | s :: ss, [], h => by simp at h
  | s :: ss, p :: ps, h => by simp [wantL, wantL_len ss ps (by simpa using h)]
theorem wantL_nn : ∀ (ss ps : List Int), ∀ i ∈ wantL ss ps, 0 ≤ i
  | [], _ => by simp [wantL]
  | s :: ss, [] => by simp [wantL]
  | s :: ss, p :: ps => by
    intro i hi
    rw [wantL] at hi
    rcases List.mem_cons.mp hi with rfl | hi
    · omega
    · exact wantL_nn ss ps i hi
theorem wantL_drop {ss ps : List Int} {j : Nat} {s p : Int} (hs : ss[j]? = some s) (hp : ps[j]? = some p) :
    wantL (ss.drop j) (ps.drop j) = max 0 (p + (wantL (ss.drop (j + 1)) (ps.drop (j + 1))).headD 0 - s) :: wantL (ss.drop (j + 1)) (ps.drop (j + 1)) := by
  obtain ⟨h1, rfl⟩ := List.getElem?_eq_some_iff.mp hs
  obtain ⟨h2, rfl⟩ := List.getElem?_eq_some_iff.mp hp
  rw [List.drop_eq_getElem_cons h1, List.drop_eq_getElem_cons h2, wantL]
theorem v_wanted {ss ps : List Int} {d e : D} (hd : SqD d ss) (he : SqD e ps) (hl : ps.length = ss.length) (h6 : ss.length ≤ 1000) (h : Q (.tup (I (wantL ss ps))) pn) : S_wanted_of K Z [d, e] pn Q X := by
  refine ⟨rfl, ?_⟩
  unfold T_wanted_of
  kd_subs
  refine ⟨by simp [sizeLine], ?_⟩
  kd_subs
  refine w_len hd ?_
  kd_subs
  refine i_rngDown (by omega) ?_
  rw [show ((ss.length : Int) - 1 + 1).toNat = ss.length by omega]
  refine forW_inv (fun k ρ pn' => ∃ x4 more, ρ = [.fz d, .fz e, .ol (I (wantL (ss.drop (ss.length - k)) (ps.drop (ss.length - k))).reverse), .fz (.int more), x4] ∧ pn' = pn ∧ more = (wantL (ss.drop (ss.length - k)) (ps.drop (ss.length - k))).headD 0) ⟨.un, 0, ?_, rfl, ?_⟩ ?_ ?_
  · rw [Nat.sub_zero, List.drop_length, wantL]
    rfl
    simp
  · rw [Nat.sub_zero, List.drop_length, wantL]
    rfl
    simp
  · rintro k dd ρ pn' E' hk ⟨x4, more, rfl, rfl, hm⟩ nx _ _ _ _
    rw [List.getElem?_map] at hk
    have hk2 : k < ss.length := by
      by_cases c : k < ss.length
      · exact c
      · rw [List.getElem?_eq_none (by simp; omega)] at hk
        cases hk
    rw [List.getElem?_range hk2] at hk
    cases hk
    obtain ⟨s, hs⟩ : ∃ x, ss[ss.length - 1 - k]? = some x := ⟨_, List.getElem?_eq_getElem (by omega)⟩
    obtain ⟨p, hp⟩ : ∃ x, ps[ss.length - 1 - k]? = some x := ⟨_, List.getElem?_eq_getElem (by omega)⟩
    kd_subs
    refine w_ix he (by omega) hp ?_
    kd_subs
    refine w_ix hd (by omega) hs ?_
    kd_subs
    refine ap rfl (by simp [sizeLine]; have := wantL_len (ss.drop (ss.length - k)) (ps.drop (ss.length - k)) (by simp; omega); simp at this; omega) ?_
    have ew := wantL_drop hs hp
    rw [show ss.length - 1 - k + 1 = ss.length - k by omega, ← hm] at ew
    rw [show ss.length - 1 - k = ss.length - (k + 1) by omega] at ew
    refine nx _ _ ⟨.fz (.int ((ss.length : Int) - 1 - k)), max 0 (p + more - s), ?_, rfl, ?_⟩
    · rw [ew, List.reverse_cons]
      simp only [I, List.map_append]
      rfl
    · rw [ew]
      rfl
  · rintro ρ pn' ⟨x4, more, rfl, rfl, hm⟩
    kd_subs
    rw [List.length_map, List.length_range, Nat.sub_self, List.drop_zero, List.drop_zero, ← List.map_reverse, List.reverse_reverse]
    exact h

end
end G50
end
section
set_option maxRecDepth 100000
set_option maxHeartbeats 4000000
namespace G50
open PySem L2 Lw Td
local macro_rules | `(tactic| kd_subs) => `(tactic| (repeat (with_reducible first | refine s_seq ?_ | refine e_call ?_ | refine e_cons ?_ | refine e_nil ?_ | refine e_c ?_ | refine e_var (by with_unfolding_all exact rfl) ?_ | refine e_varL (by with_unfolding_all exact rfl) ?_ | refine e_op ?_ | refine e_un ?_ | refine e_cb ?_ | refine s_ret ?_ | refine s_set ?_ | refine s_if ?_ | refine t_tst ?_ | refine t_tru ?_ | refine t_not ?_ | refine t_or ?_ | refine t_and ?_ | refine e_if ?_ | refine e_andV ?_ | refine e_orV ?_ | refine e_notV ?_ | refine e_chain ?_ | refine q_bl ?_ | refine q_tb ?_ | refine if_tt ?_ | refine if_ff ?_ | refine if_nt ?_ | refine if_nf ?_ | refine s_next ?_ | refine s_drop ?_ | refine s_ap (by with_unfolding_all exact rfl) ?_ | refine s_raise1 ?_ | refine s_for ?_ | refine s_par3 ?_ | refine seq_L ?_ | refine seq_T ?_ | refine rd_get ?_ | refine rd_len ?_ | refine s_setO ?_ | refine s_par ?_ | refine s_sf ?_ | refine e_two ?_ | refine e_make ?_ | refine e_makeKw ?_ | refine e_meth ?_ | refine e_methK ?_ | refine e_step ?_ | refine e_tup ?_ | refine e_lst ?_ | refine o_lst ?_ | refine e_lc ?_ | refine e_itB ?_ | refine e_own ?_ | refine i_lst ?_ | refine i_tup ?_ | refine i_zipT ?_ | refine i_zipL ?_ | refine e_sl ?_ | refine e_p ?_ | refine p_int ?_ | refine e_noP ?_ | refine v_cmp ?_ | refine v_neg ?_ | refine v_revL ?_ | refine v_max2 ?_ | refine v_intI ?_ | refine v_isN0 ?_ | refine e_yes ?_ | refine g_n ?_ | refine e_pk ?_ | refine v_add ?_ | refine v_sub ?_ | refine v_tupL ?_ | refine v_tupT ?_ | refine v_lstL ?_ | refine v_lstT ?_)))
local macro_rules | `(tactic| kd_mem) => `(tactic| (repeat (with_reducible first | refine e_call ?_ | refine e_cons ?_ | refine e_nil ?_ | refine e_c ?_ | refine e_var (by with_unfolding_all exact rfl) ?_ | refine e_varL (by with_unfolding_all exact rfl) ?_ | refine e_op ?_ | refine e_un ?_ | refine e_cb ?_ | refine s_ret ?_ | refine s_set ?_ | refine s_if ?_ | refine t_tst ?_ | refine t_tru ?_ | refine t_not ?_ | refine t_or ?_ | refine t_and ?_ | refine e_if ?_ | refine e_andV ?_ | refine e_orV ?_ | refine e_notV ?_ | refine e_chain ?_ | refine q_bl ?_ | refine q_tb ?_ | refine if_tt ?_ | refine if_ff ?_ | refine if_nt ?_ | refine if_nf ?_ | refine s_drop ?_ | refine s_ap (by with_unfolding_all exact rfl) ?_ | refine s_raise1 ?_ | refine s_for ?_ | refine s_par3 ?_ | refine seq_L ?_ | refine seq_T ?_ | refine rd_get ?_ | refine rd_len ?_ | refine s_setO ?_ | refine s_par ?_ | refine s_sf ?_ | refine e_two ?_ | refine e_make ?_ | refine e_makeKw ?_ | refine e_meth ?_ | refine e_methK ?_ | refine e_step ?_ | refine e_tup ?_ | refine e_lst ?_ | refine o_lst ?_ | refine e_lc ?_ | refine e_itB ?_ | refine e_own ?_ | refine i_lst ?_ | refine i_tup ?_ | refine i_zipT ?_ | refine i_zipL ?_ | refine e_sl ?_ | refine e_p ?_ | refine p_int ?_ | refine e_noP ?_ | refine v_cmp ?_ | refine v_neg ?_ | refine v_revL ?_ | refine v_max2 ?_ | refine v_intI ?_ | refine v_isN0 ?_ | refine e_yes ?_ | refine g_n ?_ | refine e_pk ?_ | refine v_add ?_ | refine v_sub ?_ | refine v_tupL ?_ | refine v_tupT ?_ | refine v_lstL ?_ | refine v_lstT ?_)))
section
variable {K : PySem.W.Frag} {Z : Er} {pn : Pn} {Q : D → Pn → Prop} {X : Addr → List (Str × D) → Pn → Prop}
theorem v_mwanted {ss cs ps : List Int} {d : D} (k : Kt K Z) (g : Good ss cs) (s : SqD d ps) (h0 : ∀ i ∈ ps, 0 ≤ i) (hl : ps.length = ss.length) (h : Q (.tup (I (wantL ss ps))) pn) : S_Lines_wanted K Z [LD Z ss cs, d] pn Q X := by
  have l6 := g.l6
  refine ⟨rfl, ?_⟩
  unfold T_Lines_wanted
  kd_subs
  refine v_checkS k g s h0 hl ?_
  kd_subs
  refine v_fld rfl ?_
  kd_subs
  refine v_wanted (sqT ss) s hl (by omega) ?_
  exact h
def leD : D → D → D
  | .int i, .int j => .bl (decide (i ≤ j))
  | _, _ => .non
def canL (ss cs ps : List Int) : Bool := decide ((wantL ss ps).headD 0 = 0) && ((wantL ss ps).tail.zip cs).all fun p => decide (p.1 ≤ p.2)
theorem zip_I (xs ys : List Int) : (I xs).zip (I ys) = (xs.zip ys).map fun p => (D.int p.1, D.int p.2) := by
  rw [List.zip_map]
  rfl
theorem v_can {ss cs ps : List Int} {d : D} (g : Good ss cs) (s : SqD d ps) (hl : ps.length = ss.length) (h : Q (.bl (canL ss cs ps)) pn) : S_can_pay K Z [.tup (I ss), .tup (I cs), d] pn Q X := by
  have l1 := g.l1
  have l6 := g.l6
  refine ⟨rfl, ?_⟩
  unfold T_can_pay
  kd_subs
  refine v_wanted (sqT ss) s hl (by omega) ?_
  kd_subs
  have hw := wantL_len ss ps hl
  obtain ⟨w, ws, ew⟩ : ∃ w ws, wantL ss ps = w :: ws := by
    cases c : wantL ss ps with
    | nil => rw [c] at hw; simp at hw; omega
    | cons w ws => exact ⟨w, ws, rfl⟩
  unfold canL at h
  rw [ew] at h ⊢
  refine v_ixTI rfl rfl ?_
  kd_subs
  refine v_eq_int ?_
  by_cases c : w = 0
  · rw [decide_eq_true c]
    rw [show (List.headD (w :: ws) 0) = w from rfl, decide_eq_true c, Bool.true_and] at h
    kd_subs
    refine if_t rfl ?_
    kd_subs
    refine w_fromT (n := 1) rfl (by simp) ?_
    kd_subs
    rw [zip_I]
    refine lc_pair (fun _ _ => true) leD rfl (by decide) (fun a b _ Q q => q) (fun a b hab _ Q q => ?_) ?_ ?_
    · obtain ⟨⟨i, j⟩, _, e⟩ := List.mem_map.mp hab
      cases e
      kd_subs
      exact q
    · refine sz ?_
      rw [ew] at hw
      simp at hw
      simp
      omega
    · kd_subs
      rw [List.filter_eq_self.mpr (fun _ _ => rfl), List.map_map]
      rw [show ((List.drop 1 (w :: ws)).zip cs).map ((fun x : D × D => leD x.1 x.2) ∘ fun p => (D.int p.1, D.int p.2)) = ((ws.zip cs).map fun p => decide (p.1 ≤ p.2)).map D.bl by rw [List.map_map]; exact List.map_congr_left fun p _ => by simp only [Function.comp, leD]]
      refine v_all ?_
      rw [List.all_map]
      exact h
  · rw [decide_eq_false c]
    rw [show (List.headD (w :: ws) 0) = w from rfl, decide_eq_false c, Bool.false_and] at h
    kd_subs
    refine if_f rfl ?_
    exact h
/-- what each line has left -/
def leftL (ss ps w : List Int) : List Int := (List.range ss.length).map fun k => ss.getD k 0 + w.getD k 0 - ps.getD k 0 - (w ++ [0]).getD (k + 1) 0
theorem v_left {ss ps w : List Int} {d : D} (s : SqD d ps) (hl : ps.length = ss.length) (hw : w.length = ss.length) (h6 : ss.length ≤ 1000) (h0 : w.head? = some 0) (h : Q (.tup (I (leftL ss ps w))) pn) : S_left_with K Z [.tup (I ss), d, .tup (I w.tail)] pn Q X := by
  obtain ⟨ws, rfl⟩ : ∃ ws, w = 0 :: ws := by
    cases w with
    | nil => cases h0
    | cons a ws => cases h0; exact ⟨ws, rfl⟩
  refine ⟨rfl, ?_⟩
  unfold T_left_with
  kd_subs
  refine ⟨by simp [sizeLine], ?_⟩
  kd_subs
  refine v_addT (sz (by simp; simp at hw; omega)) ?_
  kd_subs
  refine ⟨by simp [sizeLine], ?_⟩
  refine v_addT (sz (by simp; simp at hw; omega)) ?_
  kd_subs
  refine w_len (sqT ss) ?_
  kd_subs
  refine i_rngI (by omega) ?_
  rw [Int.toNat_natCast]
  refine lc_map (fun d => match d with | .int k => .int (ss.getD k.toNat 0 + (0 :: ws).getD k.toNat 0 - ps.getD k.toNat 0 - (0 :: ws ++ [0]).getD (k.toNat + 1) 0) | _ => .non) rfl (fun d hd Q q => ?_) (sz (by simp; omega)) ?_
  · obtain ⟨k, hk, rfl⟩ := List.mem_map.mp hd
    have hk := List.mem_range.mp hk
    have hw' : ws.length + 1 = ss.length := by simpa using hw
    obtain ⟨x1, e1⟩ : ∃ x, ss[k]? = some x := ⟨_, List.getElem?_eq_getElem (by omega)⟩
    obtain ⟨x2, e2⟩ : ∃ x, (0 :: ws)[k]? = some x := ⟨_, List.getElem?_eq_getElem (by simp; omega)⟩
    obtain ⟨x3, e3⟩ : ∃ x, ps[k]? = some x := ⟨_, List.getElem?_eq_getElem (by omega)⟩
    obtain ⟨x4, e4⟩ : ∃ x, (ws ++ [0])[k]? = some x := ⟨_, List.getElem?_eq_getElem (by simp; omega)⟩
    kd_subs
    refine w_ix (sqT ss) rfl e1 ?_
    kd_subs
    refine w_ix (ns := 0 :: ws) (sqT (0 :: ws)) rfl e2 ?_
    kd_subs
    refine w_ix s rfl e3 ?_
    kd_subs
    refine w_ix (ns := ws ++ [0]) (by right; simp) rfl e4 ?_
    kd_subs
    simp only [Int.toNat_natCast, List.getD_eq_getElem?_getD, e1, e2, e3, List.cons_append, List.getElem?_cons_succ, e4] at q
    exact q
  · kd_subs
    rw [List.map_map]
    unfold leftL I at h
    rw [List.map_map] at h
    exact h
end
end G50
end
section
set_option maxRecDepth 100000
set_option maxHeartbeats 4000000
namespace G50
open PySem L2 Lw Td
local macro_rules | `(tactic| kd_subs) => `(tactic| (repeat (with_reducible first | refine s_seq ?_ | refine e_call ?_ | refine e_cons ?_ | refine e_nil ?_ | refine e_c ?_ | refine e_var (by with_unfolding_all exact rfl) ?_ | refine e_varL (by with_unfolding_all exact rfl) ?_ | refine e_op ?_ | refine e_un ?_ | refine e_cb ?_ | refine s_ret ?_ | refine s_set ?_ | refine s_if ?_ | refine t_tst ?_ | refine t_tru ?_ | refine t_not ?_ | refine t_or ?_ | refine t_and ?_ | refine e_if ?_ | refine e_andV ?_ | refine e_orV ?_ | refine e_notV ?_ | refine e_chain ?_ | refine q_bl ?_ | refine q_tb ?_ | refine if_tt ?_ | refine if_ff ?_ | refine if_nt ?_ | refine if_nf ?_ | refine s_next ?_ | refine s_drop ?_ | refine s_ap (by with_unfolding_all exact rfl) ?_ | refine s_raise1 ?_ | refine s_for ?_ | refine s_par3 ?_ | refine seq_L ?_ | refine seq_T ?_ | refine rd_get ?_ | refine rd_len ?_ | refine s_setO ?_ | refine s_par ?_ | refine s_sf ?_ | refine e_two ?_ | refine e_make ?_ | refine e_makeKw ?_ | refine e_meth ?_ | refine e_methK ?_ | refine e_step ?_ | refine e_tup ?_ | refine e_lst ?_ | refine o_lst ?_ | refine e_lc ?_ | refine e_itB ?_ | refine e_own ?_ | refine i_lst ?_ | refine i_tup ?_ | refine i_zipT ?_ | refine i_zipL ?_ | refine e_sl ?_ | refine e_p ?_ | refine p_int ?_ | refine e_noP ?_ | refine v_cmp ?_ | refine v_neg ?_ | refine v_revL ?_ | refine v_max2 ?_ | refine v_intI ?_ | refine v_isN0 ?_ | refine e_yes ?_ | refine g_n ?_ | refine e_pk ?_ | refine v_add ?_ | refine v_sub ?_ | refine v_tupL ?_ | refine v_tupT ?_ | refine v_lstL ?_ | refine v_lstT ?_)))
local macro_rules | `(tactic| kd_mem) => `(tactic| (repeat (with_reducible first | refine e_call ?_ | refine e_cons ?_ | refine e_nil ?_ | refine e_c ?_ | refine e_var (by with_unfolding_all exact rfl) ?_ | refine e_varL (by with_unfolding_all exact rfl) ?_ | refine e_op ?_ | refine e_un ?_ | refine e_cb ?_ | refine s_ret ?_ | refine s_set ?_ | refine s_if ?_ | refine t_tst ?_ | refine t_tru ?_ | refine t_not ?_ | refine t_or ?_ | refine t_and ?_ | refine e_if ?_ | refine e_andV ?_ | refine e_orV ?_ | refine e_notV ?_ | refine e_chain ?_ | refine q_bl ?_ | refine q_tb ?_ | refine if_tt ?_ | refine if_ff ?_ | refine if_nt ?_ | refine if_nf ?_ | refine s_drop ?_ | refine s_ap (by with_unfolding_all exact rfl) ?_ | refine s_raise1 ?_ | refine s_for ?_ | refine s_par3 ?_ | refine seq_L ?_ | refine seq_T ?_ | refine rd_get ?_ | refine rd_len ?_ | refine s_setO ?_ | refine s_par ?_ | refine s_sf ?_ | refine e_two ?_ | refine e_make ?_ | refine e_makeKw ?_ | refine e_meth ?_ | refine e_methK ?_ | refine e_step ?_ | refine e_tup ?_ | refine e_lst ?_ | refine o_lst ?_ | refine e_lc ?_ | refine e_itB ?_ | refine e_own ?_ | refine i_lst ?_ | refine i_tup ?_ | refine i_zipT ?_ | refine i_zipL ?_ | refine e_sl ?_ | refine e_p ?_ | refine p_int ?_ | refine e_noP ?_ | refine v_cmp ?_ | refine v_neg ?_ | refine v_revL ?_ | refine v_max2 ?_ | refine v_intI ?_ | refine v_isN0 ?_ | refine e_yes ?_ | refine g_n ?_ | refine e_pk ?_ | refine v_add ?_ | refine v_sub ?_ | refine v_tupL ?_ | refine v_tupT ?_ | refine v_lstL ?_ | refine v_lstT ?_)))
section
variable {K : PySem.W.Frag} {Z : Er} {pn : Pn} {Q : D → Pn → Prop} {X : Addr → List (Str × D) → Pn → Prop}

theorem wantL_head {ss ps : List Int} (h : canL ss cs ps = true) : (wantL ss ps).headD 0 = 0 := by
  unfold canL at h
  rw [Bool.and_eq_true] at h
  exact of_decide_eq_true h.1
theorem v_mcan {ss cs ps : List Int} {d : D} (k : Kt K Z) (g : Good ss cs) (s : SqD d ps) (h0 : ∀ i ∈ ps, 0 ≤ i) (hl : ps.length = ss.length) (h : Q (.bl (canL ss cs ps)) pn) : S_Lines_can K Z [LD Z ss cs, d] pn Q X := by
  refine ⟨rfl, ?_⟩
  unfold T_Lines_can
  kd_subs
  refine v_checkS k g s h0 hl ?_
  kd_subs
  refine v_fld rfl ?_
  kd_subs
  refine v_fld rfl ?_
  kd_subs
  refine v_can g s hl ?_
  exact h
/-- what a purse says of what it has left -/
theorem v_leftBy {ss cs ps : List Int} {d : D} (k : Kt K Z) (g : Good ss cs) (s : SqD d ps) (h0 : ∀ i ∈ ps, 0 ≤ i) (hl : ps.length = ss.length) (h : canL ss cs ps = true → Q (.tup (I (leftL ss ps (wantL ss ps)))) pn)
    (h' : canL ss cs ps = false → X Z.BadLines [("part", .str "short")] pn) : S_Lines_left_by K Z [LD Z ss cs, d] pn Q X := by
  have l1 := g.l1
  have l6 := g.l6
  refine ⟨rfl, ?_⟩
  unfold T_Lines_left_by
  kd_subs
  refine v_checkS k g s h0 hl ?_
  kd_subs
  refine v_fld rfl ?_
  kd_subs
  refine v_fld rfl ?_
  kd_subs
  refine v_can g s hl ?_
  kd_subs
  cases c : canL ss cs ps with
  | false =>
    kd_subs
    exact h' c
  | true =>
    kd_subs
    refine v_fld rfl ?_
    kd_subs
    refine v_fld rfl ?_
    kd_subs
    refine v_wanted (sqT ss) s hl (by omega) ?_
    kd_subs
    have hw := wantL_len ss ps hl
    refine w_fromT (n := 1) rfl (by omega) ?_
    kd_subs
    rw [show (wantL ss ps).drop 1 = (wantL ss ps).tail from List.drop_one]
    refine v_left s hl hw (by omega) ?_ ?_
    · have z := wantL_head c
      cases q : wantL ss ps with
      | nil => rw [q] at hw; simp at hw; omega
      | cons a t => rw [q] at z; simpa using z
    · exact h c
theorem v_told {ss cs ps : List Int} {d : D} (k : Kt K Z) (g : Good ss cs) (s : SqD d ps) (h0 : ∀ i ∈ ps, 0 ≤ i) (hl : ps.length = ss.length) (h : Q (if canL ss cs ps = true then .tup (I (leftL ss ps (wantL ss ps))) else .non) pn) : S__law_told K Z [LD Z ss cs, d] pn Q X := by
  refine ⟨rfl, ?_⟩
  unfold T__law_told
  kd_subs
  unfold dTryK
  kd_subs
  refine ⟨⟨_, rfl, rfl⟩, ?_⟩
  kd_subs
  refine v_leftBy k g s h0 hl (fun c => ?_) (fun c => ?_)
  · rw [if_pos c] at h
    exact h
  · show (match PySem.W.exmOne K (.ref Z.BadLines) (.ref Z.StayError) with | some true => _ | some false => _ | none => _)
    rw [k.xb]
    refine ⟨by simp [startD], ?_⟩
    rw [c, if_neg (by decide)] at h
    kd_subs
    refine ⟨_, _, _, _, rfl, k.xc, rfl, k.el, ?_⟩
    kd_subs
    refine v_fldE rfl ?_
    kd_subs
    refine v_eq_str ?_
    kd_subs
    exact h
theorem v_eqO {s1 c1 s2 c2 : List Int} (k : Kt K Z) (h : Q (.bl (decide (s1 = s2) && decide (c1 = c2))) pn) : S_Lines___eq__ K Z [LD Z s1 c1, LD Z s2 c2] pn Q X := by
  refine ⟨rfl, ?_⟩
  unfold T_Lines___eq__
  kd_subs
  refine v_isi k.ci rfl rfl k.ll ?_
  kd_subs
  refine v_fld rfl ?_
  kd_subs
  refine v_fld rfl ?_
  kd_subs
  refine v_eq_ints ?_
  kd_subs
  by_cases c : s1 = s2
  · rw [decide_eq_true c] at h ⊢
    refine if_t rfl ?_
    kd_subs
    refine v_fld rfl ?_
    kd_subs
    refine v_fld rfl ?_
    kd_subs
    refine v_eq_ints ?_
    rw [show (decide (c1 = c2) != false) = decide (c1 = c2) from by simp]
    exact h
  · rw [decide_eq_false c] at h ⊢
    refine if_f rfl ?_
    exact h
/-- beside a list -/
theorem v_eqL {s1 c1 : List Int} {ds : List D} (k : Kt K Z) (h : Q (.bl false) pn) : S_Lines___eq__ K Z [LD Z s1 c1, .lst ds] pn Q X := by
  refine ⟨rfl, ?_⟩
  unfold T_Lines___eq__
  kd_subs
  refine v_isi trivial rfl rfl k.lo ?_
  kd_subs
  exact h
theorem v_checkO {s1 c1 s2 c2 : List Int} (k : Kt K Z) (hl : s2.length = s1.length) (h : Q .non pn) : S_check_other K Z [LD Z s1 c1, LD Z s2 c2] pn Q X := by
  refine ⟨rfl, ?_⟩
  unfold T_check_other
  kd_subs
  refine v_isi k.ci rfl rfl k.ll ?_
  kd_subs
  refine v_fld rfl ?_
  kd_subs
  refine w_len (sqT s2) ?_
  kd_subs
  refine v_fld rfl ?_
  kd_subs
  refine w_len (sqT s1) ?_
  kd_subs
  refine w_eqI (by omega) ?_
  kd_subs
  exact h
def addD : D → D → D
  | .int i, .int j => .int (i + j)
  | _, _ => .non
/-- number by number -/
def addL (xs ys : List Int) : List Int := (xs.zip ys).map fun p => p.1 + p.2
theorem lc_add {i j : Nat} {ρ : SL} {xs ys : List Int} {Q : List D → SL → Pn → Prop} (hw : (ρ.set j .un).set i .un = ρ) (hij : i ≠ j) (hi : i < ρ.length) (hj : j < ρ.length) (hl : xs.length ≤ 1000)
    (k : Q (I (addL xs ys)) ρ pn) : lcW [i, j] (gT [i, j]) dYes (dOp dAddA (dVar i) (dVar j)) (((I xs).zip (I ys)).map fun p => .tup [p.1, p.2]) [] ρ pn Q := by
  rw [zip_I]
  refine lc_pair (fun _ _ => true) addD hw hij (fun a b _ Q q => q) (fun a b hab _ Q q => ?_) (sz (by simp; omega)) ?_
  · obtain ⟨⟨x, y⟩, _, e⟩ := List.mem_map.mp hab
    cases e
    refine e_op (e_var (d := .int x) ?_ (e_var (d := .int y) ?_ ?_))
    · rw [List.getElem?_set_ne hij.symm, List.getElem?_set_self hi]
    · rw [List.getElem?_set_self (by simpa using hj)]
    · exact v_add q
  · rw [List.filter_eq_self.mpr (fun _ _ => rfl), List.map_map]
    unfold addL I at k
    rw [List.map_map] at k
    exact k
theorem addL_len {xs ys : List Int} (h : ys.length = xs.length) : (addL xs ys).length = xs.length := by
  unfold addL
  simp [h]
theorem addL_nn {xs ys : List Int} (hx : ∀ i ∈ xs, 0 ≤ i) (hy : ∀ i ∈ ys, 0 ≤ i) : ∀ i ∈ addL xs ys, 0 ≤ i := by
  intro i hi
  obtain ⟨⟨x, y⟩, hp, rfl⟩ := List.mem_map.mp hi
  have h1 := hx x (List.of_mem_zip hp).1
  have h2 := hy y (List.of_mem_zip hp).2
  show 0 ≤ x + y
  omega
theorem good_add {s1 c1 s2 c2 : List Int} (g1 : Good s1 c1) (g2 : Good s2 c2) (hl : s2.length = s1.length) : Good (addL s1 s2) (addL c1 c2) := by
  have a := g1.lc
  have b := g2.lc
  have e1 := addL_len hl
  have e2 : (addL c1 c2).length = c1.length := addL_len (by omega)
  exact ⟨addL_nn g1.s0 g2.s0, addL_nn g1.c0 g2.c0, by rw [e1]; exact g1.l1, by rw [e1]; exact g1.l6, by rw [e1, e2]; exact a⟩
theorem v_plus {s1 c1 s2 c2 : List Int} (k : Kt K Z) (g1 : Good s1 c1) (g2 : Good s2 c2) (hl : s2.length = s1.length) (h : Q (LD Z (addL s1 s2) (addL c1 c2)) pn) : S_Lines___add__ K Z [LD Z s1 c1, LD Z s2 c2] pn Q X := by
  have l6 := g1.l6
  have lc := g1.lc
  refine ⟨rfl, ?_⟩
  unfold T_Lines___add__
  kd_subs
  refine v_checkO k hl ?_
  kd_subs
  refine v_fld rfl ?_
  kd_subs
  refine v_fld rfl ?_
  kd_subs
  refine lc_add rfl (by decide) (by simp [startD, wipeD]) (by simp [startD, wipeD]) (by omega) ?_
  kd_subs
  refine v_fld rfl ?_
  kd_subs
  refine v_fld rfl ?_
  kd_subs
  refine lc_add rfl (by decide) (by simp [startD, wipeD]) (by simp [startD, wipeD]) (by omega) ?_
  kd_subs
  refine v_init k (good_add g1 g2 hl) (sqL _) (sqL _) ?_
  exact h
/-- at most, number by number -/
def leL (s1 c1 s2 c2 : List Int) : Bool := ((s1 ++ c1).zip (s2 ++ c2)).all fun p => decide (p.1 ≤ p.2)
theorem v_leO {s1 c1 s2 c2 : List Int} (k : Kt K Z) (g1 : Good s1 c1) (g2 : Good s2 c2) (hl : s2.length = s1.length) (h : Q (.bl (leL s1 c1 s2 c2)) pn) : S_Lines___le__ K Z [LD Z s1 c1, LD Z s2 c2] pn Q X := by
  have l6 := g1.l6
  have lc := g1.lc
  have lc2 := g2.lc
  refine ⟨rfl, ?_⟩
  unfold T_Lines___le__
  kd_subs
  refine v_checkO k hl ?_
  kd_subs
  refine v_fld rfl ?_
  kd_subs
  refine v_fld rfl ?_
  kd_subs
  refine v_addT (sz (by simp; omega)) ?_
  kd_subs
  refine v_fld rfl ?_
  kd_subs
  refine v_fld rfl ?_
  kd_subs
  refine v_addT (sz (by simp; omega)) ?_
  kd_subs
  rw [← List.map_append, ← List.map_append]
  refine v_listZip (sz (by simp; omega)) ?_
  kd_subs
  refine e_itL ?_
  kd_subs
  rw [zip_I]
  refine lc_pair (fun _ _ => true) leD rfl (by decide) (fun a b _ Q q => q) (fun a b hab _ Q q => ?_) (sz (by simp; omega)) ?_
  · obtain ⟨⟨x, y⟩, _, e⟩ := List.mem_map.mp hab
    cases e
    kd_subs
    exact q
  · kd_subs
    rw [List.filter_eq_self.mpr (fun _ _ => rfl), List.map_map]
    rw [show ((s1 ++ c1).zip (s2 ++ c2)).map ((fun x : D × D => leD x.1 x.2) ∘ fun p => (D.int p.1, D.int p.2)) = (((s1 ++ c1).zip (s2 ++ c2)).map fun p => decide (p.1 ≤ p.2)).map D.bl by rw [List.map_map]; exact List.map_congr_left fun p _ => by simp only [Function.comp, leD]]
    refine v_all ?_
    rw [List.all_map]
    exact h
end
end G50
end
section
set_option maxRecDepth 100000
set_option maxHeartbeats 4000000
namespace G50
open PySem L2 Lw Td
local macro_rules | `(tactic| kd_subs) => `(tactic| (repeat (with_reducible first | refine s_seq ?_ | refine e_call ?_ | refine e_cons ?_ | refine e_nil ?_ | refine e_c ?_ | refine e_var (by with_unfolding_all exact rfl) ?_ | refine e_varL (by with_unfolding_all exact rfl) ?_ | refine e_op ?_ | refine e_un ?_ | refine e_cb ?_ | refine s_ret ?_ | refine s_set ?_ | refine s_if ?_ | refine t_tst ?_ | refine t_tru ?_ | refine t_not ?_ | refine t_or ?_ | refine t_and ?_ | refine e_if ?_ | refine e_andV ?_ | refine e_orV ?_ | refine e_notV ?_ | refine e_chain ?_ | refine q_bl ?_ | refine q_tb ?_ | refine if_tt ?_ | refine if_ff ?_ | refine if_nt ?_ | refine if_nf ?_ | refine s_next ?_ | refine s_drop ?_ | refine s_ap (by with_unfolding_all exact rfl) ?_ | refine s_raise1 ?_ | refine s_for ?_ | refine s_par3 ?_ | refine seq_L ?_ | refine seq_T ?_ | refine rd_get ?_ | refine rd_len ?_ | refine s_setO ?_ | refine s_par ?_ | refine s_sf ?_ | refine e_two ?_ | refine e_make ?_ | refine e_makeKw ?_ | refine e_meth ?_ | refine e_methK ?_ | refine e_step ?_ | refine e_tup ?_ | refine e_lst ?_ | refine o_lst ?_ | refine e_lc ?_ | refine e_itB ?_ | refine e_own ?_ | refine i_lst ?_ | refine i_tup ?_ | refine i_zipT ?_ | refine i_zipL ?_ | refine e_sl ?_ | refine e_p ?_ | refine p_int ?_ | refine e_noP ?_ | refine v_cmp ?_ | refine v_neg ?_ | refine v_revL ?_ | refine v_max2 ?_ | refine v_intI ?_ | refine v_isN0 ?_ | refine e_yes ?_ | refine g_n ?_ | refine e_pk ?_ | refine v_add ?_ | refine v_sub ?_ | refine v_tupL ?_ | refine v_tupT ?_ | refine v_lstL ?_ | refine v_lstT ?_)))
local macro_rules | `(tactic| kd_mem) => `(tactic| (repeat (with_reducible first | refine e_call ?_ | refine e_cons ?_ | refine e_nil ?_ | refine e_c ?_ | refine e_var (by with_unfolding_all exact rfl) ?_ | refine e_varL (by with_unfolding_all exact rfl) ?_ | refine e_op ?_ | refine e_un ?_ | refine e_cb ?_ | refine s_ret ?_ | refine s_set ?_ | refine s_if ?_ | refine t_tst ?_ | refine t_tru ?_ | refine t_not ?_ | refine t_or ?_ | refine t_and ?_ | refine e_if ?_ | refine e_andV ?_ | refine e_orV ?_ | refine e_notV ?_ | refine e_chain ?_ | refine q_bl ?_ | refine q_tb ?_ | refine if_tt ?_ | refine if_ff ?_ | refine if_nt ?_ | refine if_nf ?_ | refine s_drop ?_ | refine s_ap (by with_unfolding_all exact rfl) ?_ | refine s_raise1 ?_ | refine s_for ?_ | refine s_par3 ?_ | refine seq_L ?_ | refine seq_T ?_ | refine rd_get ?_ | refine rd_len ?_ | refine s_setO ?_ | refine s_par ?_ | refine s_sf ?_ | refine e_two ?_ | refine e_make ?_ | refine e_makeKw ?_ | refine e_meth ?_ | refine e_methK ?_ | refine e_step ?_ | refine e_tup ?_ | refine e_lst ?_ | refine o_lst ?_ | refine e_lc ?_ | refine e_itB ?_ | refine e_own ?_ | refine i_lst ?_ | refine i_tup ?_ | refine i_zipT ?_ | refine i_zipL ?_ | refine e_sl ?_ | refine e_p ?_ | refine p_int ?_ | refine e_noP ?_ | refine v_cmp ?_ | refine v_neg ?_ | refine v_revL ?_ | refine v_max2 ?_ | refine v_intI ?_ | refine v_isN0 ?_ | refine e_yes ?_ | refine g_n ?_ | refine e_pk ?_ | refine v_add ?_ | refine v_sub ?_ | refine v_tupL ?_ | refine v_tupT ?_ | refine v_lstL ?_ | refine v_lstT ?_)))
/-! ### sums of intervals -/
theorem head_le : ∀ {ss ps : List Int} (c : Int), ps.length = ss.length →
    ((wantL ss ps).headD 0 ≤ c ↔ 0 ≤ c ∧ ∀ k, k < ss.length → (ps.take (k + 1)).sum - (ss.take (k + 1)).sum ≤ c)
  | [], ps, c, _ => by simp [wantL]
  | s :: ss, [], c, h => by simp at h
  | s :: ss, p :: ps, c, h => by
    have ih := head_le (ss := ss) (ps := ps) (c - p + s) (by simpa using h)
    rw [wantL]
    simp only [List.headD_cons]
    constructor
    · intro q
      have q' : (wantL ss ps).headD 0 ≤ c - p + s := by omega
      obtain ⟨z1, z2⟩ := ih.mp q'
      refine ⟨by omega, fun k hk => ?_⟩
      cases k with
      | zero => simp; omega
      | succ k =>
        have := z2 k (by simp at hk; omega)
        simp only [List.take_succ_cons, List.sum_cons] at this ⊢
        omega
    · rintro ⟨z1, z2⟩
      have := ih.mpr ⟨by have := z2 0 (by simp); simp at this; omega, fun k hk => by
        have := z2 (k + 1) (by simp; omega)
        simp only [List.take_succ_cons, List.sum_cons] at this ⊢
        omega⟩
      omega
theorem wantL_dropn : ∀ (j : Nat) (ss ps : List Int), ps.length = ss.length → wantL (ss.drop j) (ps.drop j) = (wantL ss ps).drop j
  | 0, _, _, _ => rfl
  | j + 1, [], ps, h => by simp [wantL]
  | j + 1, s :: ss, [], h => by simp at h
  | j + 1, s :: ss, p :: ps, h => by
    rw [List.drop_succ_cons, List.drop_succ_cons, wantL, List.drop_succ_cons]
    exact wantL_dropn j ss ps (by simpa using h)
theorem wantL_get {ss ps : List Int} {j : Nat} (hl : ps.length = ss.length) (hj : j < ss.length) : (wantL ss ps)[j]? = some ((wantL (ss.drop j) (ps.drop j)).headD 0) := by
  rw [wantL_dropn j ss ps hl]
  have h : j < (wantL ss ps).length := by rw [wantL_len ss ps hl]; exact hj
  rw [List.drop_eq_getElem_cons h, List.getElem?_eq_getElem h]
  rfl
theorem canL_iff {ss cs ps : List Int} (g : Good ss cs) (hl : ps.length = ss.length) :
    canL ss cs ps = true ↔ ∀ a, a < ss.length → ∀ k, k < ss.length - a → ((ps.drop a).take (k + 1)).sum ≤ thereL ss cs a (a + (k + 1)) := by
  have lc := g.lc
  have l1 := g.l1
  have hw := wantL_len ss ps hl
  have hd : ∀ a, a < ss.length → ∀ c : Int, 0 ≤ c → ((wantL (ss.drop a) (ps.drop a)).headD 0 ≤ c ↔ ∀ k, k < ss.length - a → ((ps.drop a).take (k + 1)).sum ≤ ((ss.drop a).take (k + 1)).sum + c) := by
    intro a ha c hc
    rw [head_le c (by simp [hl])]
    constructor
    · rintro ⟨_, z⟩ k hk
      have := z k (by simpa using hk)
      omega
    · intro z
      refine ⟨hc, fun k hk => ?_⟩
      have := z k (by simpa using hk)
      omega
  have e1 : ((wantL ss ps).headD 0 = 0) ↔ (wantL ss ps).headD 0 ≤ 0 := by
    have : 0 ≤ (wantL ss ps).headD 0 := by
      cases q : wantL ss ps with
      | nil => simp
      | cons w ws => exact wantL_nn ss ps w (by rw [q]; exact List.mem_cons_self)
    omega
  have cc : ∀ j, j < cs.length → 0 ≤ cs.getD j 0 := fun j hj => by
    rw [List.getD_eq_getElem?_getD, List.getElem?_eq_getElem hj]
    exact g.c0 _ (List.getElem_mem hj)
  have e2 : ((wantL ss ps).tail.zip cs).all (fun p => decide (p.1 ≤ p.2)) = true ↔ ∀ j, j < cs.length → (wantL (ss.drop (j + 1)) (ps.drop (j + 1))).headD 0 ≤ cs.getD j 0 := by
    rw [List.all_eq_true]
    have gt : ∀ j (hj : j < cs.length), ((wantL ss ps).tail.zip cs)[j]? = some ((wantL (ss.drop (j + 1)) (ps.drop (j + 1))).headD 0, cs.getD j 0) := by
      intro j hj
      have h1 := wantL_get (j := j + 1) hl (by omega)
      rw [List.getElem?_zip_eq_some]
      refine ⟨by rw [List.getElem?_tail]; exact h1, ?_⟩
      rw [List.getD_eq_getElem?_getD, List.getElem?_eq_getElem hj]
      rfl
    constructor
    · intro z j hj
      have := z _ (List.mem_of_getElem? (gt j hj))
      exact of_decide_eq_true this
    · rintro z ⟨x, y⟩ hxy
      obtain ⟨j, hj⟩ := List.mem_iff_getElem?.mp hxy
      have hj' : j < cs.length := by
        have := (List.getElem?_eq_some_iff.mp hj).1
        simp at this
        omega
      rw [gt j hj'] at hj
      cases hj
      exact decide_eq_true (z j hj')
  unfold canL
  rw [Bool.and_eq_true, decide_eq_true_eq, e1, e2]
  constructor
  · rintro ⟨z1, z2⟩ a ha k hk
    unfold thereL
    rw [show a + (k + 1) - a = k + 1 by omega]
    cases a with
    | zero =>
      have := (hd 0 ha 0 (by omega)).mp (by simpa using z1) k hk
      rw [if_neg (by omega)]
      simpa using this
    | succ j =>
      rw [if_pos (by omega)]
      exact (hd (j + 1) ha _ (cc j (by omega))).mp (z2 j (by omega)) k hk
  · intro z
    refine ⟨?_, fun j hj => ?_⟩
    · have := (hd 0 (by omega) 0 (by omega)).mpr fun k hk => by
        have := z 0 (by omega) k hk
        unfold thereL at this
        rw [if_neg (by omega), show 0 + (k + 1) - 0 = k + 1 by omega] at this
        simpa using this
      simpa using this
    · refine (hd (j + 1) (by omega) _ (cc j hj)).mpr fun k hk => ?_
      have := z (j + 1) (by omega) k hk
      unfold thereL at this
      rw [if_pos (by omega), show j + 1 + (k + 1) - (j + 1) = k + 1 by omega] at this
      exact this
section
variable {K : PySem.W.Frag} {Z : Er} {pn : Pn} {Q : D → Pn → Prop} {X : Addr → List (Str × D) → Pn → Prop}
/-! ### what the law draws -/
def Bd (i : Int) : Prop := 0 ≤ i ∧ i ≤ 10 ^ 30
theorem all2_ints {R : Int → Prop} : ∀ {items xs : List D}, All2 (fun _ x => ∃ i, x = .int i ∧ R i) items xs → ∃ ns, xs = I ns ∧ ns.length = items.length ∧ ∀ i ∈ ns, R i
  | _, _, .nil => ⟨[], rfl, rfl, by simp⟩
  | _, _, .cons ⟨i, e, r⟩ t => by
    obtain ⟨ns, h1, h2, h3⟩ := all2_ints t
    refine ⟨i :: ns, by rw [e, h1]; rfl, by simp [h2], fun j hj => ?_⟩
    rcases List.mem_cons.mp hj with rfl | hj
    · exact r
    · exact h3 j hj
theorem w_pick {xs : List D} (hi : pn.i ≤ 1000000) (hne : xs ≠ []) (hl : xs.length < 1000) (h : ∀ x ∈ xs, ∀ pn' : Pn, pn.i ≤ pn'.i → pn'.i ≤ pn.i + 1 → Q x pn') : S__law_pick K Z [.pen, .lst xs] pn Q X :=
  ⟨xs, rfl, hi, hne, hl, fun x hx i r h1 h2 => h x hx _ h1 h2⟩
/-- so many drawn numbers -/
theorem lc_pick {i : Nat} {ρ : SL} {TE : TDE} {R : Int → Prop} {xs : List D} {items : List D} {Q : List D → SL → Pn → Prop} (hw : ρ.set i .un = ρ) (hR : ∀ x ∈ xs, ∃ i, x = .int i ∧ R i) (hne : xs ≠ []) (hl : xs.length < 1000)
    (he : ∀ d ∈ items, ∀ (pn : Pn) (Q : QD), S__law_pick K Z [.pen, .lst xs] pn (fun x pn' => Q x (ρ.set i (.fz d)) pn') (fun c fs pn' => X0 c fs (ρ.set i (.fz d)) pn') → TE (ρ.set i (.fz d)) pn Q X0)
    (hn : pn.i + items.length ≤ 1000000) (h6 : items.length ≤ 1000) (h : ∀ ns : List Int, ∀ pn' : Pn, ns.length = items.length → (∀ i ∈ ns, R i) → pn'.i ≤ pn.i + items.length → Q (I ns) ρ pn') : lcW [i] (gN i) dYes TE items [] ρ pn Q := by
  refine lc_draw (fun _ x => ∃ i, x = .int i ∧ R i) 1 1000000 hw items [] (fun d hd pn Q hp q => ?_) (by omega) (sz (by simpa using h6)) fun xs pn' ha h1 h2 => ?_
  · exact he d hd pn Q (w_pick (by omega) hne hl fun x hx pn' j1 j2 => q x pn' (hR x hx) j1 (by omega))
  · obtain ⟨ns, rfl, h3, h4⟩ := all2_ints ha
    rw [List.nil_append]
    exact h ns pn' h3 h4 (by omega)
theorem p29 : L2.CPow 10 29 := ⟨by decide, by decide, by decide⟩
theorem p30 : L2.CPow 10 30 := ⟨by decide, by decide, by decide⟩
theorem v_chain (hi : pn.i ≤ 900000) (h : ∀ ss cs pn', Good ss cs → (∀ i ∈ ss, Bd i) → (∀ i ∈ cs, Bd i) → pn'.i ≤ pn.i + 20 → Q (.tup [.lst (I ss), .lst (I cs)]) pn') : S__law_chain K Z [.pen] pn Q X := by
  refine ⟨rfl, ?_⟩
  unfold T__law_chain
  kd_subs
  refine ⟨sz (by simp), ?_⟩
  kd_subs
  refine w_pick (by omega) (by simp) (by simp) fun x hx pn1 h1 h2 => ?_
  obtain ⟨m, rfl, m1, m6⟩ : ∃ m : Int, x = .int m ∧ 1 ≤ m ∧ m ≤ 6 := by
    simp only [List.mem_cons, List.not_mem_nil, or_false] at hx
    rcases hx with rfl | rfl | rfl | rfl | rfl | rfl | rfl
    all_goals exact ⟨_, rfl, by decide, by decide⟩
  kd_subs
  refine ⟨p29, ?_⟩
  kd_subs
  refine ⟨sz (by simp), ?_⟩
  kd_subs
  refine i_rngI (by omega) ?_
  refine lc_pick (K := K) (Z := Z) (R := Bd) (xs := [.int 0, .int 1, .int 2, .int 5, .int 10, .int (10 ^ (29 : Int).toNat)]) rfl ?_ (by simp) (by simp) (fun d hd pn Q q => ?_) (by simp; omega) (by simp; omega) fun ss pn2 ls bs i2 => ?_
  · intro x hx
    simp only [List.mem_cons, List.not_mem_nil, or_false] at hx
    rcases hx with rfl | rfl | rfl | rfl | rfl | rfl
    all_goals exact ⟨_, rfl, by decide, by decide⟩
  · kd_subs
    exact q
  simp at ls i2
  kd_subs
  refine i_rngI (by omega) ?_
  refine lc_pick (K := K) (Z := Z) (R := Bd) (xs := [.int 0, .int 0, .int 1, .int 3, .int 10, .int (10 ^ (30 : Int).toNat)]) rfl ?_ (by simp) (by simp) (fun d hd pn Q q => ?_) (by simp; omega) (by simp; omega) fun cs pn3 lc bc i3 => ?_
  · intro x hx
    simp only [List.mem_cons, List.not_mem_nil, or_false] at hx
    rcases hx with rfl | rfl | rfl | rfl | rfl | rfl
    all_goals exact ⟨_, rfl, by decide, by decide⟩
  · kd_subs
    refine ⟨p30, ?_⟩
    kd_subs
    refine ⟨sz (by simp), ?_⟩
    kd_subs
    exact q
  simp at lc i3
  kd_subs
  refine ⟨sz (by simp), ?_⟩
  exact h ss cs pn3 ⟨fun i hi => (bs i hi).1, fun i hi => (bc i hi).1, by omega, by omega, by omega⟩ bs bc (by omega)
theorem v_paid {n : Nat} (hn : n ≤ 6) (hi : pn.i ≤ 900000) (h : ∀ ps pn', ps.length = n → (∀ i ∈ ps, Bd i) → pn'.i ≤ pn.i + 6 → Q (.lst (I ps)) pn') : S__law_paid K Z [.pen, .int n] pn Q X := by
  refine ⟨rfl, ?_⟩
  unfold T__law_paid
  kd_subs
  refine i_rngI (by omega) ?_
  refine lc_pick (K := K) (Z := Z) (R := Bd) (xs := [.int 0, .int 0, .int 1, .int 2, .int 4, .int 7, .int (10 ^ (29 : Int).toNat)]) rfl ?_ (by simp) (by simp) (fun d hd pn Q q => ?_) (by simp; omega) (by simp; omega) fun ps pn1 ls bs i2 => ?_
  · intro x hx
    simp only [List.mem_cons, List.not_mem_nil, or_false] at hx
    rcases hx with rfl | rfl | rfl | rfl | rfl | rfl | rfl
    all_goals exact ⟨_, rfl, by decide, by decide⟩
  · kd_subs
    refine ⟨p29, ?_⟩
    kd_subs
    refine ⟨sz (by simp), ?_⟩
    kd_subs
    exact q
  simp at ls i2
  exact h ps pn1 ls bs (by omega)
end
end G50
end
section
set_option maxRecDepth 100000
set_option maxHeartbeats 4000000
namespace G50
open PySem L2 Lw Td
local macro_rules | `(tactic| kd_subs) => `(tactic| (repeat (with_reducible first | refine s_seq ?_ | refine e_call ?_ | refine e_cons ?_ | refine e_nil ?_ | refine e_c ?_ | refine e_var (by with_unfolding_all exact rfl) ?_ | refine e_varL (by with_unfolding_all exact rfl) ?_ | refine e_op ?_ | refine e_un ?_ | refine e_cb ?_ | refine s_ret ?_ | refine s_set ?_ | refine s_if ?_ | refine t_tst ?_ | refine t_tru ?_ | refine t_not ?_ | refine t_or ?_ | refine t_and ?_ | refine e_if ?_ | refine e_andV ?_ | refine e_orV ?_ | refine e_notV ?_ | refine e_chain ?_ | refine q_bl ?_ | refine q_tb ?_ | refine if_tt ?_ | refine if_ff ?_ | refine if_nt ?_ | refine if_nf ?_ | refine s_next ?_ | refine s_drop ?_ | refine s_ap (by with_unfolding_all exact rfl) ?_ | refine s_raise1 ?_ | refine s_for ?_ | refine s_par3 ?_ | refine seq_L ?_ | refine seq_T ?_ | refine rd_get ?_ | refine rd_len ?_ | refine s_setO ?_ | refine s_par ?_ | refine s_sf ?_ | refine e_two ?_ | refine e_make ?_ | refine e_makeKw ?_ | refine e_meth ?_ | refine e_methK ?_ | refine e_step ?_ | refine e_tup ?_ | refine e_lst ?_ | refine o_lst ?_ | refine e_lc ?_ | refine e_itB ?_ | refine e_own ?_ | refine i_lst ?_ | refine i_tup ?_ | refine i_zipT ?_ | refine i_zipL ?_ | refine e_sl ?_ | refine e_p ?_ | refine p_int ?_ | refine e_noP ?_ | refine v_cmp ?_ | refine v_neg ?_ | refine v_revL ?_ | refine v_max2 ?_ | refine v_intI ?_ | refine v_isN0 ?_ | refine e_yes ?_ | refine g_n ?_ | refine e_pk ?_ | refine v_add ?_ | refine v_sub ?_ | refine v_tupL ?_ | refine v_tupT ?_ | refine v_lstL ?_ | refine v_lstT ?_)))
local macro_rules | `(tactic| kd_mem) => `(tactic| (repeat (with_reducible first | refine e_call ?_ | refine e_cons ?_ | refine e_nil ?_ | refine e_c ?_ | refine e_var (by with_unfolding_all exact rfl) ?_ | refine e_varL (by with_unfolding_all exact rfl) ?_ | refine e_op ?_ | refine e_un ?_ | refine e_cb ?_ | refine s_ret ?_ | refine s_set ?_ | refine s_if ?_ | refine t_tst ?_ | refine t_tru ?_ | refine t_not ?_ | refine t_or ?_ | refine t_and ?_ | refine e_if ?_ | refine e_andV ?_ | refine e_orV ?_ | refine e_notV ?_ | refine e_chain ?_ | refine q_bl ?_ | refine q_tb ?_ | refine if_tt ?_ | refine if_ff ?_ | refine if_nt ?_ | refine if_nf ?_ | refine s_drop ?_ | refine s_ap (by with_unfolding_all exact rfl) ?_ | refine s_raise1 ?_ | refine s_for ?_ | refine s_par3 ?_ | refine seq_L ?_ | refine seq_T ?_ | refine rd_get ?_ | refine rd_len ?_ | refine s_setO ?_ | refine s_par ?_ | refine s_sf ?_ | refine e_two ?_ | refine e_make ?_ | refine e_makeKw ?_ | refine e_meth ?_ | refine e_methK ?_ | refine e_step ?_ | refine e_tup ?_ | refine e_lst ?_ | refine o_lst ?_ | refine e_lc ?_ | refine e_itB ?_ | refine e_own ?_ | refine i_lst ?_ | refine i_tup ?_ | refine i_zipT ?_ | refine i_zipL ?_ | refine e_sl ?_ | refine e_p ?_ | refine p_int ?_ | refine e_noP ?_ | refine v_cmp ?_ | refine v_neg ?_ | refine v_revL ?_ | refine v_max2 ?_ | refine v_intI ?_ | refine v_isN0 ?_ | refine e_yes ?_ | refine g_n ?_ | refine e_pk ?_ | refine v_add ?_ | refine v_sub ?_ | refine v_tupL ?_ | refine v_tupT ?_ | refine v_lstL ?_ | refine v_lstT ?_)))
section
variable {K : PySem.W.Frag} {Z : Er} {pn : Pn} {Q : D → Pn → Prop} {X : Addr → List (Str × D) → Pn → Prop}
theorem rng_at {n k : Nat} {f : Nat → D} {d : D} (h : ((List.range n).map f)[k]? = some d) : k < n ∧ d = f k := by
  by_cases c : k < n
  · rw [List.getElem?_map, List.getElem?_range c] at h
    cases h
    exact ⟨c, rfl⟩
  · rw [List.getElem?_eq_none (by simp; omega)] at h
    cases h
/-- a sum of an interval that is too great -/
def pS (ss cs ps : List Int) (a : Nat) : D → Bool
  | .int h => decide (thereL ss cs a h.toNat < ((ps.drop a).take (h.toNat - a)).sum)
  | _ => false
theorem pS_at {ss cs ps : List Int} {a j : Nat} : pS ss cs ps a (.int (1 + (a : Int) + (j : Int))) = decide (thereL ss cs a (a + (j + 1)) < ((ps.drop a).take (j + 1)).sum) := by
  simp only [pS]
  rw [show (1 + (a : Int) + (j : Int)).toNat = a + (j + 1) by omega, show a + (j + 1) - a = j + 1 by omega]
theorem v_shorts {ss cs ps : List Int} (g : Good ss cs) (hl : ps.length = ss.length) (h : ∀ F : List D, (∀ d ∈ F, Ok 1 10 d) → F.length ≤ 100 → F.isEmpty = canL ss cs ps → Q (.lst F) pn) : S__law_shorts K Z [.tup [.lst (I ss), .lst (I cs)], .lst (I ps)] pn Q X := by
  have l6 := g.l6
  refine ⟨rfl, ?_⟩
  unfold T__law_shorts
  kd_subs
  refine ⟨sz (by simp), ?_⟩
  kd_subs
  refine w_len (sqL ps) ?_
  kd_subs
  refine i_rng2 (by omega) ?_
  rw [show ((ps.length : Int) + 1 - 1).toNat = ss.length by omega]
  refine forW_inv (fun k ρ pn' => ∃ (F : List D) (x2 x5 : SV), ρ = [.fz (.tup [.lst (I ss), .lst (I cs)]), .fz (.lst (I ps)), x2, .fz (.lst F), .fz (.int ps.length), x5, .un] ∧ pn' = pn ∧ (∀ d ∈ F, Ok 1 10 d) ∧ F.length ≤ 10 * k ∧
    (F.isEmpty = true ↔ ∀ a, a < k → ∀ j, j < ss.length - a → ((ps.drop a).take (j + 1)).sum ≤ thereL ss cs a (a + (j + 1)))) ⟨[], .un, .un, rfl, rfl, by simp, by simp, by simp⟩ ?_ ?_
  · rintro k d ρ pn' E' hk ⟨F, x2, x5, rfl, rfl, hF, hFl, hFe⟩ nx _ _ _ _
    obtain ⟨hk2, rfl⟩ := rng_at hk
    kd_subs
    refine i_rng2 (by omega) ?_
    rw [show ((ps.length : Int) + 1 - (1 + (k : Int))).toNat = ss.length - k by omega]
    refine lc_filt (pS ss cs ps k) id rfl (fun d hd Q q => ?_) (fun d hd _ Q q => ?_) (sz (by simp; omega)) ?_
    · obtain ⟨i, hi, rfl⟩ := List.mem_map.mp hd
      have hi := List.mem_range.mp hi
      kd_subs
      rw [pS_at] at q
      refine w_cutI (a := k) (b := k + (i + 1)) (sqL ps) (by omega) (by omega) (by omega) fun d' hd' => ?_
      kd_subs
      refine w_sum hd' ?_
      kd_subs
      refine v_there (a := k) (b := k + (i + 1)) g (by omega) (by omega) (by omega) (by omega) ?_
      kd_subs
      rw [show k + (i + 1) - k = i + 1 by omega]
      exact q
    · obtain ⟨i, hi, rfl⟩ := List.mem_map.mp hd
      kd_subs
      exact q
    kd_subs
    refine e_itL ?_
    kd_subs
    refine lc_map (fun d => .tup [.int (1 + (k : Int)), d]) rfl (fun d hd Q q => ?_) (sz ?_) ?_
    · kd_subs
      refine ⟨sz (by simp), ?_⟩
      exact q
    · rw [List.length_map]
      refine Nat.le_trans (List.length_filter_le _ _) ?_
      simp
      omega
    kd_subs
    have lf : ((List.map id ((List.map (fun (i : Nat) => D.int (1 + (k : Int) + (i : Int))) (List.range (ss.length - k))).filter (pS ss cs ps k))).map fun d => D.tup [.int (1 + (k : Int)), d]).length ≤ 6 := by
      rw [List.length_map, List.length_map]
      refine Nat.le_trans (List.length_filter_le _ _) ?_
      simp
      omega
    refine v_addL (sz (by omega)) ?_
    kd_subs
    refine nx _ _ ⟨_, _, _, rfl, rfl, ?_, ?_, ?_⟩
    · intro d hd
      rcases List.mem_append.mp hd with hd | hd
      · exact hF d hd
      · obtain ⟨e, he, rfl⟩ := List.mem_map.mp hd
        obtain ⟨e', he', rfl⟩ := List.mem_map.mp he
        obtain ⟨i, hi, rfl⟩ := List.mem_map.mp (List.mem_filter.mp he').1
        have hi := List.mem_range.mp hi
        have small : ∀ z : Int, 0 ≤ z → z ≤ 100 → Ok 0 0 (.int z) := fun z z0 z1 => ok_100 z0 (by omega)
        exact (Ok.tup (okL_cons (small _ (by omega) (by omega)) (okL_cons (small _ (by omega) (by omega)) okL_nil))).mono (by omega) (by omega)
    · rw [List.length_append]
      omega
    · rw [List.isEmpty_iff, List.append_eq_nil_iff, ← List.isEmpty_iff, hFe]
      constructor
      · rintro ⟨z1, z2⟩ a ha j hj
        by_cases c : a < k
        · exact z1 a c j hj
        · obtain rfl : a = k := by omega
          have z3 : (List.map (fun (i : Nat) => D.int (1 + (a : Int) + (i : Int))) (List.range (ss.length - a))).filter (pS ss cs ps a) = [] := by simpa using z2
          have z4 := List.filter_eq_nil_iff.mp z3 (.int (1 + (a : Int) + (j : Int))) (List.mem_map.mpr ⟨j, List.mem_range.mpr hj, rfl⟩)
          rw [pS_at] at z4
          simp only [decide_eq_true_eq] at z4
          omega
      · intro z
        refine ⟨fun a ha => z a (by omega), ?_⟩
        have z3 : (List.map (fun (i : Nat) => D.int (1 + (k : Int) + (i : Int))) (List.range (ss.length - k))).filter (pS ss cs ps k) = [] := by
          rw [List.filter_eq_nil_iff]
          intro d hd
          obtain ⟨j, hj, rfl⟩ := List.mem_map.mp hd
          have hj := List.mem_range.mp hj
          have z5 := z k (by omega) j hj
          rw [pS_at]
          simp only [decide_eq_true_eq]
          omega
        rw [z3]
        rfl
  · rintro ρ pn' ⟨F, x2, x5, rfl, rfl, hF, hFl, hFe⟩
    kd_subs
    rw [List.length_map, List.length_range] at hFe hFl
    refine h F hF (by omega) ?_
    rw [Bool.eq_iff_iff, hFe, canL_iff g hl]
theorem v_into {ss cs ps : List Int} (g : Good ss cs) (hl : ps.length = ss.length) (h : Q (.tup (I (wantL ss ps))) pn) : S__law_into K Z [.tup [.lst (I ss), .lst (I cs)], .lst (I ps)] pn Q X := by
  have l6 := g.l6
  refine ⟨rfl, ?_⟩
  unfold T__law_into
  kd_subs
  refine ⟨sz (by simp), ?_⟩
  kd_subs
  refine w_len (sqL ps) ?_
  kd_subs
  refine i_rngI (by omega) ?_
  rw [show ((ps.length : Int)).toNat = ss.length by omega]
  refine forW_inv (fun k ρ pn' => ∃ (x3 x4 : SV), ρ = [.fz (.tup [.lst (I ss), .lst (I cs)]), .fz (.lst (I ps)), .ol (I ((wantL ss ps).take k)), x3, x4, .un, .un] ∧ pn' = pn) ⟨.un, .un, rfl, rfl⟩ ?_ ?_
  · rintro k d ρ pn' E' hk ⟨x3, x4, rfl, rfl⟩ nx _ _ _ _
    obtain ⟨hk2, rfl⟩ := rng_at hk
    kd_subs
    refine w_len (sqL ps) ?_
    kd_subs
    refine i_rng2 (by omega) ?_
    rw [show ((ps.length : Int) + 1 - ((k : Int) + 1)).toNat = ss.length - k by omega]
    refine lc_map (fun d => match d with | .int h => .int (((ps.drop k).take (h.toNat - k)).sum - ((ss.drop k).take (h.toNat - k)).sum) | _ => .non) rfl (fun d hd Q q => ?_) (sz (by simp; omega)) ?_
    · obtain ⟨i, hi, rfl⟩ := List.mem_map.mp hd
      have hi := List.mem_range.mp hi
      kd_subs
      refine w_cutI (a := k) (b := k + (i + 1)) (sqL ps) (by omega) (by omega) (by omega) fun d1 hd1 => ?_
      kd_subs
      refine w_sum hd1 ?_
      kd_subs
      refine v_ixTI rfl rfl ?_
      kd_subs
      refine w_cutI (a := k) (b := k + (i + 1)) (sqL ss) (by omega) (by omega) (by omega) fun d2 hd2 => ?_
      kd_subs
      refine w_sum hd2 ?_
      kd_subs
      dsimp only at q
      rw [show ((k : Int) + 1 + (i : Int)).toNat = k + (i + 1) by omega] at q
      exact q
    rw [List.map_map]
    kd_subs
    refine e_itL ?_
    kd_subs
    refine ⟨sz (by simp), ?_⟩
    kd_subs
    refine v_addL (sz (by simp; omega)) ?_
    kd_subs
    have ev : ([D.int 0] ++ List.map ((fun d : D => match d with | .int h => D.int (((ps.drop k).take (h.toNat - k)).sum - ((ss.drop k).take (h.toNat - k)).sum) | _ => .non) ∘ fun (i : Nat) => D.int ((k : Int) + 1 + (i : Int))) (List.range (ss.length - k))) =
        I (0 :: (List.range (ss.length - k)).map fun i => ((ps.drop k).take (i + 1)).sum - ((ss.drop k).take (i + 1)).sum) := by
      simp only [I, List.map_cons, List.map_map, List.singleton_append]
      congr 1
      apply List.map_congr_left
      intro i hi
      simp only [Function.comp]
      rw [show ((k : Int) + 1 + (i : Int)).toNat - k = i + 1 by omega]
    rw [ev]
    refine lc_map id rfl (fun d hd Q q => ?_) (sz (by simp; omega)) ?_
    · obtain ⟨i, hi, rfl⟩ := List.mem_map.mp hd
      kd_subs
      exact q
    rw [List.map_id]
    kd_subs
    refine v_maxL (by simp) fun m hm hy => ?_
    have em : m = (wantL (ss.drop k) (ps.drop k)).headD 0 := by
      have hc : ∀ c : Int, 0 ≤ c → ((wantL (ss.drop k) (ps.drop k)).headD 0 ≤ c ↔ ∀ j, j < ss.length - k → ((ps.drop k).take (j + 1)).sum - ((ss.drop k).take (j + 1)).sum ≤ c) := fun c hc => by
        rw [head_le c (by simp [hl])]
        simp [hc]
      have w0 : 0 ≤ (wantL (ss.drop k) (ps.drop k)).headD 0 := by
        cases q : wantL (ss.drop k) (ps.drop k) with
        | nil => simp
        | cons w ws => exact wantL_nn _ _ w (by rw [q]; exact List.mem_cons_self)
      have m0 : 0 ≤ m := hy 0 List.mem_cons_self
      have h1 := (hc m m0).mpr fun j hj => hy _ (List.mem_cons_of_mem _ (List.mem_map.mpr ⟨j, List.mem_range.mpr hj, rfl⟩))
      have h2 := (hc _ w0).mp (Int.le_refl _)
      rcases List.mem_cons.mp hm with rfl | hm
      · omega
      · obtain ⟨j, hj, rfl⟩ := List.mem_map.mp hm
        have := h2 j (List.mem_range.mp hj)
        omega
    subst em
    have hg := wantL_get hl hk2
    refine ap rfl (sz (by simp; omega)) ?_
    have e3 : I (List.take (k + 1) (wantL ss ps)) = I (List.take k (wantL ss ps)) ++ [.int ((wantL (ss.drop k) (ps.drop k)).headD 0)] := by
      rw [List.take_add_one, hg]
      simp [I]
    rw [e3] at nx
    exact nx _ _ ⟨_, _, rfl, rfl⟩
  · rintro ρ pn' ⟨x3, x4, rfl, rfl⟩
    kd_subs
    rw [List.length_map, List.length_range, List.take_of_length_le (by rw [wantL_len ss ps hl]; exact Nat.le_refl _)]
    exact h
theorem v_lleft {ss cs ps : List Int} (g : Good ss cs) (hl : ps.length = ss.length) (h : Q (.tup (I (leftL ss ps (wantL ss ps)))) pn) : S__law_left K Z [.tup [.lst (I ss), .lst (I cs)], .lst (I ps)] pn Q X := by
  have l6 := g.l6
  have hw := wantL_len ss ps hl
  refine ⟨rfl, ?_⟩
  unfold T__law_left
  kd_subs
  refine v_into g hl ?_
  kd_subs
  refine ⟨sz (by simp), ?_⟩
  refine v_addL (sz (by simp; omega)) ?_
  kd_subs
  refine w_len (sqL ps) ?_
  kd_subs
  refine i_rngI (by omega) ?_
  rw [show ((ps.length : Int)).toNat = ss.length by omega]
  refine lc_map (fun d => match d with | .int k => .int (ss.getD k.toNat 0 + (wantL ss ps).getD k.toNat 0 - ps.getD k.toNat 0 - (wantL ss ps ++ [0]).getD (k.toNat + 1) 0) | _ => .non) rfl (fun d hd Q q => ?_) (sz (by simp; omega)) ?_
  · obtain ⟨k, hk, rfl⟩ := List.mem_map.mp hd
    have hk := List.mem_range.mp hk
    obtain ⟨x1, e1⟩ : ∃ x, ss[k]? = some x := ⟨_, List.getElem?_eq_getElem (by omega)⟩
    obtain ⟨x2, e2⟩ : ∃ x, (wantL ss ps)[k]? = some x := ⟨_, List.getElem?_eq_getElem (by omega)⟩
    obtain ⟨x3, e3⟩ : ∃ x, ps[k]? = some x := ⟨_, List.getElem?_eq_getElem (by omega)⟩
    obtain ⟨x4, e4⟩ : ∃ x, (wantL ss ps ++ [0])[k + 1]? = some x := ⟨_, List.getElem?_eq_getElem (by simp; omega)⟩
    have e5 : (wantL ss ps ++ [0])[k]? = some x2 := by rw [List.getElem?_append_left (by omega)]; exact e2
    have sq : SqD (.lst (I (wantL ss ps) ++ [D.int 0])) (wantL ss ps ++ [0]) := by left; simp [I]
    kd_subs
    refine v_ixTI rfl rfl ?_
    kd_subs
    refine w_ix (sqL ss) rfl e1 ?_
    kd_subs
    refine w_ix sq rfl e5 ?_
    kd_subs
    refine w_ix (sqL ps) rfl e3 ?_
    kd_subs
    refine w_ix sq (by omega) e4 ?_
    kd_subs
    simp only [Int.toNat_natCast, List.getD_eq_getElem?_getD, e1, e2, e3, e4] at q
    exact q
  · kd_subs
    rw [List.map_map]
    unfold leftL I at h
    rw [List.map_map] at h
    exact h
end
end G50
end
section
set_option maxRecDepth 100000
set_option maxHeartbeats 8000000
namespace G50
open PySem L2 Lw Td
local macro_rules | `(tactic| kd_subs) => `(tactic| (repeat (with_reducible first | refine s_seq ?_ | refine e_call ?_ | refine e_cons ?_ | refine e_nil ?_ | refine e_c ?_ | refine e_var (by with_unfolding_all exact rfl) ?_ | refine e_varL (by with_unfolding_all exact rfl) ?_ | refine e_op ?_ | refine e_un ?_ | refine e_cb ?_ | refine s_ret ?_ | refine s_set ?_ | refine s_if ?_ | refine t_tst ?_ | refine t_tru ?_ | refine t_not ?_ | refine t_or ?_ | refine t_and ?_ | refine e_if ?_ | refine e_andV ?_ | refine e_orV ?_ | refine e_notV ?_ | refine e_chain ?_ | refine q_bl ?_ | refine q_tb ?_ | refine if_tt ?_ | refine if_ff ?_ | refine if_nt ?_ | refine if_nf ?_ | refine s_next ?_ | refine s_drop ?_ | refine s_ap (by with_unfolding_all exact rfl) ?_ | refine s_raise1 ?_ | refine s_for ?_ | refine s_par3 ?_ | refine seq_L ?_ | refine seq_T ?_ | refine rd_get ?_ | refine rd_len ?_ | refine s_setO ?_ | refine s_par ?_ | refine s_sf ?_ | refine e_two ?_ | refine e_make ?_ | refine e_makeKw ?_ | refine e_meth ?_ | refine e_methK ?_ | refine e_step ?_ | refine e_tup ?_ | refine e_lst ?_ | refine o_lst ?_ | refine e_lc ?_ | refine e_itB ?_ | refine e_own ?_ | refine i_lst ?_ | refine i_tup ?_ | refine i_zipT ?_ | refine i_zipL ?_ | refine e_sl ?_ | refine e_p ?_ | refine p_int ?_ | refine e_noP ?_ | refine v_cmp ?_ | refine v_neg ?_ | refine v_revL ?_ | refine v_max2 ?_ | refine v_intI ?_ | refine v_isN0 ?_ | refine e_yes ?_ | refine g_n ?_ | refine e_pk ?_ | refine v_add ?_ | refine v_sub ?_ | refine v_tupL ?_ | refine v_tupT ?_ | refine v_lstL ?_ | refine v_lstT ?_)))
local macro_rules | `(tactic| kd_mem) => `(tactic| (repeat (with_reducible first | refine e_call ?_ | refine e_cons ?_ | refine e_nil ?_ | refine e_c ?_ | refine e_var (by with_unfolding_all exact rfl) ?_ | refine e_varL (by with_unfolding_all exact rfl) ?_ | refine e_op ?_ | refine e_un ?_ | refine e_cb ?_ | refine s_ret ?_ | refine s_set ?_ | refine s_if ?_ | refine t_tst ?_ | refine t_tru ?_ | refine t_not ?_ | refine t_or ?_ | refine t_and ?_ | refine e_if ?_ | refine e_andV ?_ | refine e_orV ?_ | refine e_notV ?_ | refine e_chain ?_ | refine q_bl ?_ | refine q_tb ?_ | refine if_tt ?_ | refine if_ff ?_ | refine if_nt ?_ | refine if_nf ?_ | refine s_drop ?_ | refine s_ap (by with_unfolding_all exact rfl) ?_ | refine s_raise1 ?_ | refine s_for ?_ | refine s_par3 ?_ | refine seq_L ?_ | refine seq_T ?_ | refine rd_get ?_ | refine rd_len ?_ | refine s_setO ?_ | refine s_par ?_ | refine s_sf ?_ | refine e_two ?_ | refine e_make ?_ | refine e_makeKw ?_ | refine e_meth ?_ | refine e_methK ?_ | refine e_step ?_ | refine e_tup ?_ | refine e_lst ?_ | refine o_lst ?_ | refine e_lc ?_ | refine e_itB ?_ | refine e_own ?_ | refine i_lst ?_ | refine i_tup ?_ | refine i_zipT ?_ | refine i_zipL ?_ | refine e_sl ?_ | refine e_p ?_ | refine p_int ?_ | refine e_noP ?_ | refine v_cmp ?_ | refine v_neg ?_ | refine v_revL ?_ | refine v_max2 ?_ | refine v_intI ?_ | refine v_isN0 ?_ | refine e_yes ?_ | refine g_n ?_ | refine e_pk ?_ | refine v_add ?_ | refine v_sub ?_ | refine v_tupL ?_ | refine v_tupT ?_ | refine v_lstL ?_ | refine v_lstT ?_)))
theorem ok_bd {ns : List Int} (h : ∀ i ∈ ns, Bd i) : OkL 0 ns.length (I ns) := okL_small fun i hi => by
  obtain ⟨h1, h2⟩ := h i hi
  have : i.natAbs ≤ 10 ^ 30 := by omega
  exact Nat.le_trans this (by decide)
theorem range_getD (ns : List Int) : (List.range ns.length).map (fun i => ns.getD i 0) = ns := by
  apply List.ext_getElem
  · simp
  · intro i h1 h2
    simp [List.getD_eq_getElem?_getD, List.getElem?_eq_getElem h2]
theorem zip_self (xs : List D) : (xs.zip xs).map (fun x : D × D => D.tup [x.1, x.2]) = xs.map fun d => D.tup [d, d] := by
  induction xs with
  | nil => rfl
  | cons a t ih => simp [ih]
abbrev RR (C L : D) (n : Nat) (x3 x4 o6 o7 x8 x9 x10 : SV) : SL := [.fz .pen, .fz C, .fz L, x3, x4, .fz (.int n), o6, o7, x8, x9, x10, .un, .un, .un, .un]
section
variable {ss cs : List Int}
variable {K : PySem.W.Frag} {Z : Er} {pn : Pn} {Q : D → Pn → Prop} {X : Addr → List (Str × D) → Pn → Prop}
theorem sideL (k : Kt K Z) (ss cs : List Int) : sideC K Z.Lines (LD Z ss cs) := .inr ⟨_, _, rfl, k.nfL⟩
theorem sidel (k : Kt K Z) (ds : List D) : sideC K Z.Lines (.lst ds) := .inl ⟨_, rfl, k.nfl⟩
theorem there_all (ss cs : List Int) : thereL ss cs 0 ss.length = ss.sum := by
  unfold thereL
  rw [if_neg (by omega)]
  simp
theorem r_7 (k : Kt K Z) (g : Good ss cs) (bs : ∀ i ∈ ss, Bd i) (bc : ∀ i ∈ cs, Bd i) {E : DE} {x3 x4 x8 x9 x10 : SV} {d6 d7 : List D} (h : E.nx (RR (.tup [.lst (I ss), .lst (I cs)]) (LD Z ss cs) ss.length x3 x4 (.ol d6) (.ol d7) x8 x9 x10) pn) : T__law_right_7 K Z E (RR (.tup [.lst (I ss), .lst (I cs)]) (LD Z ss cs) ss.length x3 x4 (.ol d6) (.ol d7) x8 x9 x10) pn := by
  have l1 := g.l1
  have l6 := g.l6
  have lc := g.lc
  have n1 : (I ss).length = ss.length := List.length_map _
  have n2 : (I cs).length = cs.length := List.length_map _
  unfold T__law_right_7
  kd_mem
  have okc : Ok 2 100 (.lst [.tup (I ss), .tup (I cs)]) := (Ok.lst (okL_cons (Ok.tup ((ok_bd bs))) (okL_cons (Ok.tup (ok_bd bc)) okL_nil))).mono (by omega) (by omega)
  refine v_fld rfl ?_
  kd_mem
  refine v_fld rfl ?_
  kd_mem
  refine ⟨sz (by simp), ?_⟩
  kd_mem
  refine v_repr okc (by omega) (by omega) ?_
  kd_mem
  refine v_ixTI rfl rfl ?_
  kd_mem
  refine v_ixTI rfl rfl ?_
  kd_mem
  refine ⟨sz (by simp), ?_⟩
  kd_mem
  refine v_repr okc (by omega) (by omega) ?_
  refine v_eq_str ?_
  kd_mem
  refine v_len ⟨_, rfl, by omega, by omega, ?_⟩
  kd_mem
  refine w_eqI rfl ?_
  kd_mem
  refine s_next (rho (ρ' := (RR (.tup [.lst (I ss), .lst (I cs)]) (LD Z ss cs) ss.length x3 x4 (.ol d6) (.ol d7) x8 x9 x10)) rfl ?_)
  exact h
theorem r_8 (k : Kt K Z) (g : Good ss cs) (bs : ∀ i ∈ ss, Bd i) (bc : ∀ i ∈ cs, Bd i) {E : DE} {x3 x4 x8 x9 x10 : SV} {d6 d7 : List D} (h : E.nx (RR (.tup [.lst (I ss), .lst (I cs)]) (LD Z ss cs) ss.length x3 x4 (.ol d6) (.ol d7) x8 x9 x10) pn) : T__law_right_8 K Z E (RR (.tup [.lst (I ss), .lst (I cs)]) (LD Z ss cs) ss.length x3 x4 (.ol d6) (.ol d7) x8 x9 x10) pn := by
  have l1 := g.l1
  have l6 := g.l6
  have lc := g.lc
  have n1 : (I ss).length = ss.length := List.length_map _
  have n2 : (I cs).length = cs.length := List.length_map _
  unfold T__law_right_8
  kd_mem
  -- the lines one by one
  refine i_own rfl ?_
  refine lc_map id rfl (fun d hd Q q => ?_) (sz (by omega)) ?_
  · kd_mem
    exact q
  rw [List.map_id]
  kd_mem
  refine v_ixTI rfl rfl ?_
  refine w_eqLr rfl ?_
  kd_mem
  refine i_rng2 (by omega) ?_
  rw [show ((ss.length : Int) + 1 - 1).toNat = ss.length by omega]
  refine lc_map (fun d => match d with | .int h => .int (ss.getD (h.toNat - 1) 0) | _ => .non) rfl (fun d hd Q q => ?_) (sz (by simp; omega)) ?_
  · obtain ⟨i, hi, rfl⟩ := List.mem_map.mp hd
    have hi := List.mem_range.mp hi
    obtain ⟨x, hx⟩ : ∃ x, ss[i]? = some x := ⟨_, List.getElem?_eq_getElem hi⟩
    kd_mem
    refine v_item k hx (by omega) ?_
    dsimp only at q
    rw [show (1 + (i : Int)).toNat - 1 = i by omega, List.getD_eq_getElem?_getD, hx] at q
    exact q
  rw [List.map_map, show List.map ((fun d : D => match d with | .int h => D.int (ss.getD (h.toNat - 1) 0) | _ => .non) ∘ fun (i : Nat) => D.int (1 + (i : Int))) (List.range ss.length) = I ss by
    rw [← range_getD ss]
    simp only [I, List.map_map]
    rw [range_getD ss]
    apply List.map_congr_left
    intro i hi
    simp only [Function.comp]
    rw [show (1 + (i : Int)).toNat - 1 = i by omega]]
  kd_mem
  refine v_ixTI rfl rfl ?_
  refine w_eqLr rfl ?_
  kd_mem
  refine s_next (rho (ρ' := (RR (.tup [.lst (I ss), .lst (I cs)]) (LD Z ss cs) ss.length x3 x4 (.ol d6) (.ol d7) x8 x9 x10)) rfl ?_)
  exact h
theorem r_9 (k : Kt K Z) (g : Good ss cs) (bs : ∀ i ∈ ss, Bd i) (bc : ∀ i ∈ cs, Bd i) {E : DE} {x3 x4 x8 x9 x10 : SV} {d6 d7 : List D} (h : E.nx (RR (.tup [.lst (I ss), .lst (I cs)]) (LD Z ss cs) ss.length x3 x4 (.ol d6) (.ol d7) x8 x9 x10) pn) : T__law_right_9 K Z E (RR (.tup [.lst (I ss), .lst (I cs)]) (LD Z ss cs) ss.length x3 x4 (.ol d6) (.ol d7) x8 x9 x10) pn := by
  have l1 := g.l1
  have l6 := g.l6
  have lc := g.lc
  have n1 : (I ss).length = ss.length := List.length_map _
  have n2 : (I cs).length = cs.length := List.length_map _
  unfold T__law_right_9
  kd_mem
  -- in pairs
  refine i_zipO rfl rfl ?_
  refine lc_pair (fun _ _ => true) (fun a b => .tup [a, b]) rfl (by decide) (fun a b _ Q q => q) (fun a b hab _ Q q => ?_) (sz (by simp; omega)) ?_
  · kd_mem
    refine ⟨sz (by simp), ?_⟩
    exact q
  rw [List.filter_eq_self.mpr (fun _ _ => rfl), zip_self]
  kd_mem
  refine e_itL ?_
  kd_mem
  refine v_ixTI rfl rfl ?_
  kd_mem
  refine lc_map (fun d => .tup [d, d]) rfl (fun d hd Q q => ?_) (sz (by omega)) ?_
  · kd_mem
    refine ⟨sz (by simp), ?_⟩
    exact q
  kd_mem
  refine v_eq_same (n := 2) (b := 1000) ((Ok.lst (okL_all (n := 1) (b := 2) fun d hd => ?_)).mono (by omega) (by simp; omega)) (by omega) ?_
  · obtain ⟨e, he, rfl⟩ := List.mem_map.mp hd
    obtain ⟨i, hi, rfl⟩ := List.mem_map.mp he
    have o : Ok 0 0 (.int i) := ok_small (by obtain ⟨h1, h2⟩ := bs i hi; exact Nat.le_trans (show i.natAbs ≤ 10 ^ 30 by omega) (by decide))
    exact (Ok.tup (okL_cons o (okL_cons o okL_nil))).mono (by omega) (by omega)
  kd_mem
  refine s_next (rho (ρ' := (RR (.tup [.lst (I ss), .lst (I cs)]) (LD Z ss cs) ss.length x3 x4 (.ol d6) (.ol d7) x8 x9 x10)) rfl ?_)
  exact h
end
end G50
end
section
set_option maxRecDepth 100000
set_option maxHeartbeats 4000000
namespace G50
open PySem L2 Lw Td
local macro_rules | `(tactic| kd_subs) => `(tactic| (repeat (with_reducible first | refine s_seq ?_ | refine e_call ?_ | refine e_cons ?_ | refine e_nil ?_ | refine e_c ?_ | refine e_var (by with_unfolding_all exact rfl) ?_ | refine e_varL (by with_unfolding_all exact rfl) ?_ | refine e_op ?_ | refine e_un ?_ | refine e_cb ?_ | refine s_ret ?_ | refine s_set ?_ | refine s_if ?_ | refine t_tst ?_ | refine t_tru ?_ | refine t_not ?_ | refine t_or ?_ | refine t_and ?_ | refine e_if ?_ | refine e_andV ?_ | refine e_orV ?_ | refine e_notV ?_ | refine e_chain ?_ | refine q_bl ?_ | refine q_tb ?_ | refine if_tt ?_ | refine if_ff ?_ | refine if_nt ?_ | refine if_nf ?_ | refine s_next ?_ | refine s_drop ?_ | refine s_ap (by with_unfolding_all exact rfl) ?_ | refine s_raise1 ?_ | refine s_for ?_ | refine s_par3 ?_ | refine seq_L ?_ | refine seq_T ?_ | refine rd_get ?_ | refine rd_len ?_ | refine s_setO ?_ | refine s_par ?_ | refine s_sf ?_ | refine e_two ?_ | refine e_make ?_ | refine e_makeKw ?_ | refine e_meth ?_ | refine e_methK ?_ | refine e_step ?_ | refine e_tup ?_ | refine e_lst ?_ | refine o_lst ?_ | refine e_lc ?_ | refine e_itB ?_ | refine e_own ?_ | refine i_lst ?_ | refine i_tup ?_ | refine i_zipT ?_ | refine i_zipL ?_ | refine e_sl ?_ | refine e_p ?_ | refine p_int ?_ | refine e_noP ?_ | refine v_cmp ?_ | refine v_neg ?_ | refine v_revL ?_ | refine v_max2 ?_ | refine v_intI ?_ | refine v_isN0 ?_ | refine e_yes ?_ | refine g_n ?_ | refine e_pk ?_ | refine v_add ?_ | refine v_sub ?_ | refine v_tupL ?_ | refine v_tupT ?_ | refine v_lstL ?_ | refine v_lstT ?_)))
local macro_rules | `(tactic| kd_mem) => `(tactic| (repeat (with_reducible first | refine e_call ?_ | refine e_cons ?_ | refine e_nil ?_ | refine e_c ?_ | refine e_var (by with_unfolding_all exact rfl) ?_ | refine e_varL (by with_unfolding_all exact rfl) ?_ | refine e_op ?_ | refine e_un ?_ | refine e_cb ?_ | refine s_ret ?_ | refine s_set ?_ | refine s_if ?_ | refine t_tst ?_ | refine t_tru ?_ | refine t_not ?_ | refine t_or ?_ | refine t_and ?_ | refine e_if ?_ | refine e_andV ?_ | refine e_orV ?_ | refine e_notV ?_ | refine e_chain ?_ | refine q_bl ?_ | refine q_tb ?_ | refine if_tt ?_ | refine if_ff ?_ | refine if_nt ?_ | refine if_nf ?_ | refine s_drop ?_ | refine s_ap (by with_unfolding_all exact rfl) ?_ | refine s_raise1 ?_ | refine s_for ?_ | refine s_par3 ?_ | refine seq_L ?_ | refine seq_T ?_ | refine rd_get ?_ | refine rd_len ?_ | refine s_setO ?_ | refine s_par ?_ | refine s_sf ?_ | refine e_two ?_ | refine e_make ?_ | refine e_makeKw ?_ | refine e_meth ?_ | refine e_methK ?_ | refine e_step ?_ | refine e_tup ?_ | refine e_lst ?_ | refine o_lst ?_ | refine e_lc ?_ | refine e_itB ?_ | refine e_own ?_ | refine i_lst ?_ | refine i_tup ?_ | refine i_zipT ?_ | refine i_zipL ?_ | refine e_sl ?_ | refine e_p ?_ | refine p_int ?_ | refine e_noP ?_ | refine v_cmp ?_ | refine v_neg ?_ | refine v_revL ?_ | refine v_max2 ?_ | refine v_intI ?_ | refine v_isN0 ?_ | refine e_yes ?_ | refine g_n ?_ | refine e_pk ?_ | refine v_add ?_ | refine v_sub ?_ | refine v_tupL ?_ | refine v_tupT ?_ | refine v_lstL ?_ | refine v_lstT ?_)))
section
variable {ss cs : List Int}
variable {K : PySem.W.Frag} {Z : Er} {pn : Pn} {Q : D → Pn → Prop} {X : Addr → List (Str × D) → Pn → Prop}
theorem r_10 (k : Kt K Z) (g : Good ss cs) (bs : ∀ i ∈ ss, Bd i) (bc : ∀ i ∈ cs, Bd i) {E : DE} {x3 x4 x8 x9 x10 : SV} {d6 d7 : List D} (h : ∀ x3 x8, E.nx (RR (.tup [.lst (I ss), .lst (I cs)]) (LD Z ss cs) ss.length x3 x4 (.ol d6) (.ol d7) x8 x9 x10) pn) : T__law_right_10 K Z E (RR (.tup [.lst (I ss), .lst (I cs)]) (LD Z ss cs) ss.length x3 x4 (.ol d6) (.ol d7) x8 x9 x10) pn := by
  have l1 := g.l1
  have l6 := g.l6
  have lc := g.lc
  have n1 : (I ss).length = ss.length := List.length_map _
  have n2 : (I cs).length = cs.length := List.length_map _
  unfold T__law_right_10
  kd_subs
  -- what is reached
  refine i_rng2 (by omega) ?_
  rw [show ((ss.length : Int) + 1 - 1).toNat = ss.length by omega]
  refine forW_inv (fun t ρ pn' => ∃ (x3 x8 : SV), ρ = RR (.tup [.lst (I ss), .lst (I cs)]) (LD Z ss cs) ss.length x3 x4 (.ol d6) (.ol d7) x8 x9 x10 ∧ pn' = pn) ⟨_, _, rfl, rfl⟩ ?_ ?_
  · rintro t d ρ pn' E' ht ⟨y3, y8, rfl, rfl⟩ nx _ _ _ _
    obtain ⟨ht2, rfl⟩ := rng_at ht
    kd_subs
    refine i_rng2 (by omega) ?_
    rw [show ((ss.length : Int) + 1 - (1 + (t : Int))).toNat = ss.length - t by omega]
    refine lc_map (fun d => match d with | .int h => .int (thereL ss cs t h.toNat) | _ => .non) rfl (fun d hd Q q => ?_) (sz (by simp; omega)) ?_
    · obtain ⟨i, hi, rfl⟩ := List.mem_map.mp hd
      have hi := List.mem_range.mp hi
      kd_subs
      refine ⟨⟨_, rfl, rfl⟩, ?_⟩
      kd_subs
      refine v_reach (a := t) (b := (1 + (t : Int) + (i : Int)).toNat) k g (by omega) (by omega) (by omega) (by omega) ?_
      exact q
    kd_subs
    refine i_rng2 (by omega) ?_
    rw [show ((ss.length : Int) + 1 - (1 + (t : Int))).toNat = ss.length - t by omega]
    refine lc_map (fun d => match d with | .int h => .int (thereL ss cs t h.toNat) | _ => .non) rfl (fun d hd Q q => ?_) (sz (by simp; omega)) ?_
    · obtain ⟨i, hi, rfl⟩ := List.mem_map.mp hd
      have hi := List.mem_range.mp hi
      kd_subs
      refine v_there (a := t) (b := (1 + (t : Int) + (i : Int)).toNat) g (by omega) (by omega) (by omega) (by omega) ?_
      exact q
    kd_subs
    rw [List.map_map, show List.map ((fun d : D => match d with | .int h => D.int (thereL ss cs t h.toNat) | _ => .non) ∘ fun (i : Nat) => D.int (1 + (t : Int) + (i : Int))) (List.range (ss.length - t)) = I ((List.range (ss.length - t)).map fun (i : Nat) => thereL ss cs t (1 + (t : Int) + (i : Int)).toNat) by
      simp only [I, List.map_map]
      rfl]
    refine w_eqLr rfl ?_
    kd_subs
    exact nx _ _ ⟨_, _, rfl, rfl⟩
  rintro ρ pn' ⟨y3, y8, rfl, rfl⟩
  exact h _ _
theorem r_11_1 (k : Kt K Z) (g : Good ss cs) (bs : ∀ i ∈ ss, Bd i) (bc : ∀ i ∈ cs, Bd i) {ps : List Int} (lp : ps.length = ss.length) (p0 : ∀ i ∈ ps, 0 ≤ i) {E : DE} {x3 x4 x8 x10 : SV} {d6 d7 : List D} (h : E.nx (RR (.tup [.lst (I ss), .lst (I cs)]) (LD Z ss cs) ss.length x3 x4 (.ol d6) (.ol d7) x8 (.fz (.lst (I ps))) (.fz (.bl (canL ss cs ps)))) pn) : T__law_right_11_1 K Z E (RR (.tup [.lst (I ss), .lst (I cs)]) (LD Z ss cs) ss.length x3 x4 (.ol d6) (.ol d7) x8 (.fz (.lst (I ps))) x10) pn := by
  have l1 := g.l1
  have l6 := g.l6
  have lc := g.lc
  have n1 : (I ss).length = ss.length := List.length_map _
  have n2 : (I cs).length = cs.length := List.length_map _
  unfold T__law_right_11_1
  kd_mem
  refine v_shorts g lp fun F hF hFl hFe => ?_
  kd_mem
  refine ⟨sz (by simp), ?_⟩
  refine w_eqNil (okL_all hF) (by omega) ?_
  rw [show (F.isEmpty != false) = canL ss cs ps by rw [hFe]; simp]
  kd_mem
  exact h
theorem r_11_2 (k : Kt K Z) (g : Good ss cs) (bs : ∀ i ∈ ss, Bd i) (bc : ∀ i ∈ cs, Bd i) {ps : List Int} (lp : ps.length = ss.length) (p0 : ∀ i ∈ ps, 0 ≤ i) {E : DE} {x3 x4 x8 x10 : SV} {d6 d7 : List D} (h : E.nx (RR (.tup [.lst (I ss), .lst (I cs)]) (LD Z ss cs) ss.length x3 x4 (.ol d6) (.ol d7) x8 (.fz (.lst (I ps))) x10) pn) : T__law_right_11_2 K Z E (RR (.tup [.lst (I ss), .lst (I cs)]) (LD Z ss cs) ss.length x3 x4 (.ol d6) (.ol d7) x8 (.fz (.lst (I ps))) x10) pn := by
  have l1 := g.l1
  have l6 := g.l6
  have lc := g.lc
  have n1 : (I ss).length = ss.length := List.length_map _
  have n2 : (I cs).length = cs.length := List.length_map _
  unfold T__law_right_11_2
  kd_mem
  refine ⟨⟨_, rfl, rfl⟩, ?_⟩
  kd_mem
  refine v_mwanted k g (sqL ps) p0 lp ?_
  kd_mem
  refine v_into g lp ?_
  refine w_eqTr rfl ?_
  kd_mem
  refine ⟨⟨_, rfl, rfl⟩, ?_⟩
  kd_mem
  refine ⟨rfl, ?_⟩
  refine v_mwanted k g (sqT ps) p0 lp ?_
  kd_mem
  refine v_into g lp ?_
  refine w_eqTr rfl ?_
  kd_mem
  exact h
theorem r_11_3 (k : Kt K Z) (g : Good ss cs) (bs : ∀ i ∈ ss, Bd i) (bc : ∀ i ∈ cs, Bd i) {ps : List Int} (lp : ps.length = ss.length) (p0 : ∀ i ∈ ps, 0 ≤ i) {E : DE} {x3 x4 x8 : SV} {d6 d7 : List D} (h : E.nx (RR (.tup [.lst (I ss), .lst (I cs)]) (LD Z ss cs) ss.length x3 x4 (.ol d6) (.ol d7) x8 (.fz (.lst (I ps))) (.fz (.bl (canL ss cs ps)))) pn) : T__law_right_11_3 K Z E (RR (.tup [.lst (I ss), .lst (I cs)]) (LD Z ss cs) ss.length x3 x4 (.ol d6) (.ol d7) x8 (.fz (.lst (I ps))) (.fz (.bl (canL ss cs ps)))) pn := by
  have l1 := g.l1
  have l6 := g.l6
  have lc := g.lc
  have n1 : (I ss).length = ss.length := List.length_map _
  have n2 : (I cs).length = cs.length := List.length_map _
  unfold T__law_right_11_3
  kd_mem
  refine ⟨⟨_, rfl, rfl⟩, ?_⟩
  kd_mem
  refine v_mcan k g (sqT ps) p0 lp ?_
  kd_mem
  refine ⟨⟨_, rfl, rfl⟩, ?_⟩
  kd_mem
  refine ⟨rfl, ?_⟩
  refine v_mcan k g (sqL ps) p0 lp ?_
  kd_mem
  refine ⟨sz (by simp), ?_⟩
  have okb : Ok 1 2 (.lst [.bl (canL ss cs ps), .bl (canL ss cs ps)]) := (Ok.lst (okL_cons (ok_bl _) (okL_cons (ok_bl _) okL_nil))).mono (by omega) (by omega)
  kd_mem
  refine v_repr okb (by omega) (by omega) ?_
  kd_mem
  refine ⟨sz (by simp), ?_⟩
  kd_mem
  refine v_repr okb (by omega) (by omega) ?_
  refine v_eq_str ?_
  kd_mem
  exact h
theorem r_11_4 (k : Kt K Z) (g : Good ss cs) (bs : ∀ i ∈ ss, Bd i) (bc : ∀ i ∈ cs, Bd i) {ps : List Int} (lp : ps.length = ss.length) (p0 : ∀ i ∈ ps, 0 ≤ i) {E : DE} {x3 x4 x8 : SV} {d6 d7 : List D} (h : E.nx (RR (.tup [.lst (I ss), .lst (I cs)]) (LD Z ss cs) ss.length x3 x4 (.ol d6) (.ol d7) x8 (.fz (.lst (I ps))) (.fz (.bl (canL ss cs ps)))) pn) : T__law_right_11_4 K Z E (RR (.tup [.lst (I ss), .lst (I cs)]) (LD Z ss cs) ss.length x3 x4 (.ol d6) (.ol d7) x8 (.fz (.lst (I ps))) (.fz (.bl (canL ss cs ps)))) pn := by
  have l1 := g.l1
  have l6 := g.l6
  have lc := g.lc
  have n1 : (I ss).length = ss.length := List.length_map _
  have n2 : (I cs).length = cs.length := List.length_map _
  unfold T__law_right_11_4
  kd_mem
  refine v_told k g (sqL ps) p0 lp ?_
  kd_mem
  cases c : canL ss cs ps with
  | true =>
    rw [if_pos rfl]
    kd_mem
    refine v_lleft g lp ?_
    refine w_eqTr rfl ?_
    kd_mem
    rw [c] at h
    exact h
  | false =>
    rw [if_neg (by decide)]
    kd_mem
    refine v_eq_same ok_non (by omega) ?_
    kd_mem
    rw [c] at h
    exact h
theorem r_11 (k : Kt K Z) (g : Good ss cs) (bs : ∀ i ∈ ss, Bd i) (bc : ∀ i ∈ cs, Bd i) {E : DE} {x3 x4 x8 x9 x10 : SV} {d6 d7 : List D} (hi : pn.i ≤ 800020) (h : ∀ x4 x9 x10 pn', pn'.i ≤ pn.i + 30 → E.nx (RR (.tup [.lst (I ss), .lst (I cs)]) (LD Z ss cs) ss.length x3 x4 (.ol d6) (.ol d7) x8 x9 x10) pn') : T__law_right_11 K Z E (RR (.tup [.lst (I ss), .lst (I cs)]) (LD Z ss cs) ss.length x3 x4 (.ol d6) (.ol d7) x8 x9 x10) pn := by
  have l6 := g.l6
  unfold T__law_right_11
  kd_subs
  refine i_rngI (by omega) ?_
  refine forW_inv (fun t ρ pn2 => ∃ (x4 x9 x10 : SV), ρ = RR (.tup [.lst (I ss), .lst (I cs)]) (LD Z ss cs) ss.length x3 x4 (.ol d6) (.ol d7) x8 x9 x10 ∧ pn2.i ≤ pn.i + 6 * (t : Int)) ⟨_, _, _, rfl, by simp⟩ ?_ ?_
  · rintro t d ρ pn2 E' ht ⟨y4, y9, y10, rfl, hp⟩ nx _ _ _ _
    obtain ⟨ht2, rfl⟩ := rng_at ht
    have ht3 : t < 5 := ht2
    refine g_n ?_
    with_reducible refine s_seq ?_
    unfold T__law_right_11_0
    kd_mem
    refine v_paid (n := ss.length) l6 (by omega) fun ps pn3 lp bp i3 => ?_
    have p0 : ∀ i ∈ ps, 0 ≤ i := fun i hi => (bp i hi).1
    refine rho (ρ' := RR (.tup [.lst (I ss), .lst (I cs)]) (LD Z ss cs) ss.length x3 (.fz (.int (t : Int))) (.ol d6) (.ol d7) x8 (.fz (.lst (I ps))) y10) rfl ?_
    with_reducible refine s_seq ?_
    refine r_11_1 k g bs bc lp p0 ?_
    with_reducible refine s_seq ?_
    refine r_11_2 k g bs bc lp p0 ?_
    with_reducible refine s_seq ?_
    refine r_11_3 k g bs bc lp p0 ?_
    refine r_11_4 k g bs bc lp p0 ?_
    exact nx _ _ ⟨_, _, _, rfl, by omega⟩
  · rintro ρ pn2 ⟨y4, y9, y10, rfl, hp⟩
    rw [List.length_map, List.length_range] at hp
    have : ((5 : Int).toNat : Int) = 5 := rfl
    exact h _ _ _ _ (by omega)
theorem r_12 (k : Kt K Z) (g : Good ss cs) (bs : ∀ i ∈ ss, Bd i) (bc : ∀ i ∈ cs, Bd i) {E : DE} {x3 x4 x8 x9 x10 : SV} {d6 d7 : List D} (h : E.rt (.bl true) pn) : T__law_right_12 K Z E (RR (.tup [.lst (I ss), .lst (I cs)]) (LD Z ss cs) ss.length x3 x4 (.ol d6) (.ol d7) x8 x9 x10) pn := by
  have l1 := g.l1
  have l6 := g.l6
  have lc := g.lc
  have n1 : (I ss).length = ss.length := List.length_map _
  have n2 : (I cs).length = cs.length := List.length_map _
  unfold T__law_right_12
  kd_mem
  refine v_ixTI rfl rfl ?_
  kd_mem
  refine v_ixTI rfl rfl ?_
  kd_mem
  refine ⟨rfl, ?_⟩
  refine v_init k g (sqT ss) (sqL cs) ?_
  kd_mem
  refine rd_own (sideL k ss cs) ?_
  refine v_eqO k ?_
  rw [decide_eq_true rfl, decide_eq_true rfl, Bool.true_and]
  kd_mem
  refine ⟨⟨_, rfl, rfl⟩, ?_⟩
  kd_mem
  refine ⟨rfl, ?_⟩
  refine v_reach (a := 0) (b := ss.length) k g (by omega) (by omega) rfl rfl ?_
  rw [there_all]
  kd_mem
  refine v_ixTI rfl rfl ?_
  kd_mem
  refine v_sumL ?_
  refine w_eqI rfl ?_
  exact h
theorem v_right (k : Kt K Z) (hi : pn.i ≤ 800000) (h : ∀ pn', pn'.i ≤ pn.i + 100 → Q (.bl true) pn') : S__law_right K Z [.pen] pn Q X := by
  refine ⟨rfl, ?_⟩
  unfold T__law_right
  with_reducible refine s_seq ?_
  unfold T__law_right_0
  kd_mem
  refine v_chain (by omega) fun ss cs pn1 g bs bc i1 => ?_
  have l1 := g.l1
  have l6 := g.l6
  have lc := g.lc
  have n1 : (I ss).length = ss.length := List.length_map _
  have n2 : (I cs).length = cs.length := List.length_map _
  with_reducible refine s_seq ?_
  unfold T__law_right_1
  kd_mem
  refine v_ixTI rfl rfl ?_
  kd_mem
  refine w_len (sqL ss) ?_
  kd_mem
  refine v_ixTI rfl rfl ?_
  kd_mem
  refine v_ixTI rfl rfl ?_
  kd_mem
  with_reducible refine s_seq ?_
  unfold T__law_right_2
  kd_mem
  refine e_pkN rfl ?_
  kd_mem
  refine v_init k g (sqL ss) (sqL cs) ⟨?_, ?_⟩
  · simp only [D.noL, D.noLF, noLL_ints, Bool.and_self]
  with_reducible refine s_seq ?_
  unfold T__law_right_3
  kd_mem
  refine ap rfl (sz (by omega)) ?_
  with_reducible refine s_seq ?_
  unfold T__law_right_4
  refine s_ixC rfl (ixN_0 (by simp)) ?_
  with_reducible refine s_seq ?_
  unfold T__law_right_5
  kd_mem
  refine ap rfl (sz (by omega)) ?_
  with_reducible refine s_seq ?_
  unfold T__law_right_6
  refine s_ixC rfl (ixN_0 (by simp)) ?_
  refine rho (ρ' := RR (.tup [.lst (I ss), .lst (I cs)]) (LD Z ss cs) ss.length .un .un (.ol ((I ss ++ [D.int 7]).set 0 (D.int 99))) (.ol ((I cs ++ [D.int 7]).set 0 (D.int 99))) .un .un .un) rfl ?_
  with_reducible refine s_seq ?_
  refine r_7 k g bs bc ?_
  with_reducible refine s_seq ?_
  refine r_8 k g bs bc ?_
  with_reducible refine s_seq ?_
  refine r_9 k g bs bc ?_
  with_reducible refine s_seq ?_
  refine r_10 k g bs bc fun y3 y8 => ?_
  with_reducible refine s_seq ?_
  refine r_11 k g bs bc (by omega) fun y4 y9 y10 pn2 h2 => ?_
  refine r_12 k g bs bc ?_
  exact h _ (by omega)
end
end G50
end
section
set_option maxRecDepth 100000
set_option maxHeartbeats 4000000
namespace G50
open PySem L2 Lw Td
local macro_rules | `(tactic| kd_subs) => `(tactic| (repeat (with_reducible first | refine s_seq ?_ | refine e_call ?_ | refine e_cons ?_ | refine e_nil ?_ | refine e_c ?_ | refine e_var (by with_unfolding_all exact rfl) ?_ | refine e_varL (by with_unfolding_all exact rfl) ?_ | refine e_op ?_ | refine e_un ?_ | refine e_cb ?_ | refine s_ret ?_ | refine s_set ?_ | refine s_if ?_ | refine t_tst ?_ | refine t_tru ?_ | refine t_not ?_ | refine t_or ?_ | refine t_and ?_ | refine e_if ?_ | refine e_andV ?_ | refine e_orV ?_ | refine e_notV ?_ | refine e_chain ?_ | refine q_bl ?_ | refine q_tb ?_ | refine if_tt ?_ | refine if_ff ?_ | refine if_nt ?_ | refine if_nf ?_ | refine s_next ?_ | refine s_drop ?_ | refine s_ap (by with_unfolding_all exact rfl) ?_ | refine s_raise1 ?_ | refine s_for ?_ | refine s_par3 ?_ | refine seq_L ?_ | refine seq_T ?_ | refine rd_get ?_ | refine rd_len ?_ | refine s_setO ?_ | refine s_par ?_ | refine s_sf ?_ | refine e_two ?_ | refine e_make ?_ | refine e_makeKw ?_ | refine e_meth ?_ | refine e_methK ?_ | refine e_step ?_ | refine e_tup ?_ | refine e_lst ?_ | refine o_lst ?_ | refine e_lc ?_ | refine e_itB ?_ | refine e_own ?_ | refine i_lst ?_ | refine i_tup ?_ | refine i_zipT ?_ | refine i_zipL ?_ | refine e_sl ?_ | refine e_p ?_ | refine p_int ?_ | refine e_noP ?_ | refine v_cmp ?_ | refine v_neg ?_ | refine v_revL ?_ | refine v_max2 ?_ | refine v_intI ?_ | refine v_isN0 ?_ | refine e_yes ?_ | refine g_n ?_ | refine e_pk ?_ | refine v_add ?_ | refine v_sub ?_ | refine v_tupL ?_ | refine v_tupT ?_ | refine v_lstL ?_ | refine v_lstT ?_)))
local macro_rules | `(tactic| kd_mem) => `(tactic| (repeat (with_reducible first | refine e_call ?_ | refine e_cons ?_ | refine e_nil ?_ | refine e_c ?_ | refine e_var (by with_unfolding_all exact rfl) ?_ | refine e_varL (by with_unfolding_all exact rfl) ?_ | refine e_op ?_ | refine e_un ?_ | refine e_cb ?_ | refine s_ret ?_ | refine s_set ?_ | refine s_if ?_ | refine t_tst ?_ | refine t_tru ?_ | refine t_not ?_ | refine t_or ?_ | refine t_and ?_ | refine e_if ?_ | refine e_andV ?_ | refine e_orV ?_ | refine e_notV ?_ | refine e_chain ?_ | refine q_bl ?_ | refine q_tb ?_ | refine if_tt ?_ | refine if_ff ?_ | refine if_nt ?_ | refine if_nf ?_ | refine s_drop ?_ | refine s_ap (by with_unfolding_all exact rfl) ?_ | refine s_raise1 ?_ | refine s_for ?_ | refine s_par3 ?_ | refine seq_L ?_ | refine seq_T ?_ | refine rd_get ?_ | refine rd_len ?_ | refine s_setO ?_ | refine s_par ?_ | refine s_sf ?_ | refine e_two ?_ | refine e_make ?_ | refine e_makeKw ?_ | refine e_meth ?_ | refine e_methK ?_ | refine e_step ?_ | refine e_tup ?_ | refine e_lst ?_ | refine o_lst ?_ | refine e_lc ?_ | refine e_itB ?_ | refine e_own ?_ | refine i_lst ?_ | refine i_tup ?_ | refine i_zipT ?_ | refine i_zipL ?_ | refine e_sl ?_ | refine e_p ?_ | refine p_int ?_ | refine e_noP ?_ | refine v_cmp ?_ | refine v_neg ?_ | refine v_revL ?_ | refine v_max2 ?_ | refine v_intI ?_ | refine v_isN0 ?_ | refine e_yes ?_ | refine g_n ?_ | refine e_pk ?_ | refine v_add ?_ | refine v_sub ?_ | refine v_tupL ?_ | refine v_tupT ?_ | refine v_lstL ?_ | refine v_lstT ?_)))
theorem addL_app {a b c d : List Int} (h : b.length = a.length) : addL (a ++ c) (b ++ d) = addL a b ++ addL c d := by
  unfold addL
  rw [List.zip_append h.symm, List.map_append]
theorem leL_add {s1 c1 s2 c2 : List Int} (h2 : ∀ i ∈ s2, 0 ≤ i) (h3 : ∀ i ∈ c2, 0 ≤ i) (hl : s2.length = s1.length) : leL s1 c1 (addL s1 s2) (addL c1 c2) = true := by
  have one : ∀ (xs ys : List Int), (∀ i ∈ ys, 0 ≤ i) → (xs.zip (addL xs ys)).all (fun p => decide (p.1 ≤ p.2)) = true := by
    intro xs
    induction xs with
    | nil => intro ys _; rfl
    | cons x xs ih =>
      intro ys hy
      cases ys with
      | nil => rfl
      | cons y ys =>
        have hy0 := hy y List.mem_cons_self
        have := ih ys fun i hi => hy i (List.mem_cons_of_mem _ hi)
        unfold addL at this ⊢
        simp only [List.zip_cons_cons, List.map_cons, List.all_cons, Bool.and_eq_true, decide_eq_true_eq]
        exact ⟨by omega, this⟩
  unfold leL
  rw [List.zip_append (by rw [addL_len hl]), List.all_append, one s1 s2 h2, one c1 c2 h3]
  rfl
theorem leL_self (s c : List Int) : leL s c s c = true := by
  have one : ∀ xs : List Int, (xs.zip xs).all (fun p => decide (p.1 ≤ p.2)) = true := by
    intro xs
    induction xs with
    | nil => rfl
    | cons x xs ih => simp [ih]
  exact one (s ++ c)
section
variable {K : PySem.W.Frag} {Z : Er} {pn : Pn} {Q : D → Pn → Prop} {X : Addr → List (Str × D) → Pn → Prop}
/-- so many drawn numbers, each out of its own list -/
theorem lc_pick2 {i : Nat} {ρ : SL} {TE : TDE} {R : Int → Prop} {xs : D → List D} {items : List D} {Q : List D → SL → Pn → Prop} (hw : ρ.set i .un = ρ) (hR : ∀ d ∈ items, ∀ x ∈ xs d, ∃ i, x = .int i ∧ R i) (hne : ∀ d, xs d ≠ []) (hl : ∀ d, (xs d).length < 1000)
    (he : ∀ d ∈ items, ∀ (pn : Pn) (Q : QD), S__law_pick K Z [.pen, .lst (xs d)] pn (fun x pn' => Q x (ρ.set i (.fz d)) pn') (fun c fs pn' => X0 c fs (ρ.set i (.fz d)) pn') → TE (ρ.set i (.fz d)) pn Q X0)
    (hn : pn.i + items.length ≤ 1000000) (h6 : items.length ≤ 1000) (h : ∀ ns : List Int, ∀ pn' : Pn, ns.length = items.length → (∀ i ∈ ns, R i) → pn'.i ≤ pn.i + items.length → Q (I ns) ρ pn') : lcW [i] (gN i) dYes TE items [] ρ pn Q := by
  refine lc_draw (fun _ x => ∃ i, x = .int i ∧ R i) 1 1000000 hw items [] (fun d hd pn Q hp q => ?_) (by omega) (sz (by simpa using h6)) fun xs pn' ha h1 h2 => ?_
  · exact he d hd pn Q (w_pick (by omega) (hne d) (hl d) fun x hx pn' j1 j2 => q x pn' (hR d hd x hx) j1 (by omega))
  · obtain ⟨ns, rfl, h3, h4⟩ := all2_ints ha
    rw [List.nil_append]
    exact h ns pn' h3 h4 (by omega)
def gtD : D → D → Bool
  | .int i, .int j => decide (j < i)
  | _, _ => false
abbrev C2 (ss cs : List Int) : D := .tup [.lst (I ss), .lst (I cs)]
abbrev PR (one many other both due low mine its : SV) : SL := [.fz .pen, one, many, other, both, due, low, mine, its, .un, .un, .un]
variable {s1 c1 s2 c2 : List Int} {E : DE}
theorem q_2 (g : Good s1 c1) (b1 : ∀ i ∈ s1, Bd i) (hi : pn.i ≤ 900000) {x3 x4 x5 x6 x7 x8 : SV} (h : ∀ s2 pn', s2.length = s1.length → (∀ i ∈ s2, Bd i) → pn'.i ≤ pn.i + 6 → E.nx (PR (.fz (C2 s1 c1)) (.fz (.int s1.length)) (.fz (.tup [.lst (I s2), .lst []])) x4 x5 x6 x7 x8) pn') :
    T__law_pair_right_2 K Z E (PR (.fz (C2 s1 c1)) (.fz (.int s1.length)) x3 x4 x5 x6 x7 x8) pn := by
  have l6 := g.l6
  unfold T__law_pair_right_2
  kd_mem
  refine i_rngI (by omega) ?_
  rw [Int.toNat_natCast]
  refine lc_pick2 (K := K) (Z := Z) (R := Bd) (xs := fun d => [.int 0, .int 1, .int (match d with | .int i => s1.getD i.toNat 0 | _ => 0), .int (10 ^ (30 : Int).toNat)]) rfl ?_ (by simp) (by simp) (fun d hd pn Q q => ?_) (by simp; omega) (by simp; omega) fun s2 pn1 ls bs i2 => ?_
  · intro d hd x hx
    obtain ⟨i, hi, rfl⟩ := List.mem_map.mp hd
    have hi := List.mem_range.mp hi
    simp only [List.mem_cons, List.not_mem_nil, or_false] at hx
    rcases hx with rfl | rfl | rfl | rfl
    · exact ⟨_, rfl, by decide, by decide⟩
    · exact ⟨_, rfl, by decide, by decide⟩
    · refine ⟨_, rfl, ?_⟩
      rw [Int.toNat_natCast, List.getD_eq_getElem?_getD, List.getElem?_eq_getElem hi]
      exact b1 _ (List.getElem_mem hi)
    · exact ⟨_, rfl, by decide, by decide⟩
  · obtain ⟨i, hi, rfl⟩ := List.mem_map.mp hd
    have hi := List.mem_range.mp hi
    obtain ⟨x, hx⟩ : ∃ x, s1[i]? = some x := ⟨_, List.getElem?_eq_getElem hi⟩
    kd_mem
    refine v_ixTI rfl rfl ?_
    kd_mem
    refine w_ix (sqL s1) rfl hx ?_
    kd_mem
    refine ⟨p30, ?_⟩
    kd_mem
    refine ⟨sz (by simp), ?_⟩
    kd_mem
    dsimp only at q
    rw [Int.toNat_natCast, List.getD_eq_getElem?_getD, hx] at q
    exact q
  simp at ls i2
  kd_mem
  refine ⟨sz (by simp), ?_⟩
  kd_mem
  refine ⟨sz (by simp), ?_⟩
  exact h s2 pn1 (by omega) bs (by omega)
theorem q_3 (g : Good s1 c1) (b1 : ∀ i ∈ c1, Bd i) (hi : pn.i ≤ 900000) {x4 x5 x6 x7 x8 : SV} (h : ∀ c2 pn', c2.length = c1.length → (∀ i ∈ c2, Bd i) → pn'.i ≤ pn.i + 6 → E.nx (PR (.fz (C2 s1 c1)) (.fz (.int s1.length)) (.fz (C2 s2 c2)) x4 x5 x6 x7 x8) pn') :
    T__law_pair_right_3 K Z E (PR (.fz (C2 s1 c1)) (.fz (.int s1.length)) (.fz (.tup [.lst (I s2), .lst []])) x4 x5 x6 x7 x8) pn := by
  have l1 := g.l1
  have l6 := g.l6
  have lc := g.lc
  unfold T__law_pair_right_3
  kd_mem
  refine v_ixTI rfl rfl ?_
  kd_mem
  refine i_rngI (by omega) ?_
  rw [show ((s1.length : Int) - 1).toNat = c1.length by omega]
  refine lc_pick2 (K := K) (Z := Z) (R := Bd) (xs := fun d => [.int (match d with | .int i => c1.getD i.toNat 0 | _ => 0), .int 2]) rfl ?_ (by simp) (by simp) (fun d hd pn Q q => ?_) (by simp; omega) (by simp; omega) fun c2 pn1 ls bs i2 => ?_
  · intro d hd x hx
    obtain ⟨i, hi, rfl⟩ := List.mem_map.mp hd
    have hi := List.mem_range.mp hi
    simp only [List.mem_cons, List.not_mem_nil, or_false] at hx
    rcases hx with rfl | rfl
    · refine ⟨_, rfl, ?_⟩
      rw [Int.toNat_natCast, List.getD_eq_getElem?_getD, List.getElem?_eq_getElem hi]
      exact b1 _ (List.getElem_mem hi)
    · exact ⟨_, rfl, by decide, by decide⟩
  · obtain ⟨i, hi, rfl⟩ := List.mem_map.mp hd
    have hi := List.mem_range.mp hi
    obtain ⟨x, hx⟩ : ∃ x, c1[i]? = some x := ⟨_, List.getElem?_eq_getElem hi⟩
    kd_mem
    refine v_ixTI rfl rfl ?_
    kd_mem
    refine w_ix (sqL c1) rfl hx ?_
    kd_mem
    refine ⟨sz (by simp), ?_⟩
    kd_mem
    dsimp only at q
    rw [Int.toNat_natCast, List.getD_eq_getElem?_getD, hx] at q
    exact q
  simp at ls i2
  kd_mem
  refine ⟨sz (by simp), ?_⟩
  exact h c2 pn1 (by omega) bs (by omega)
section
variable (k : Kt K Z) (g1 : Good s1 c1) (g2 : Good s2 c2) (hl : s2.length = s1.length) {x4 x5 x6 x7 x8 : SV}
theorem q_4 (k : Kt K Z) (g1 : Good s1 c1) (g2 : Good s2 c2) (h : E.nx (PR (.fz (C2 s1 c1)) (.fz (.int s1.length)) (.fz (C2 s2 c2)) x4 x5 x6 (.fz (LD Z s1 c1)) (.fz (LD Z s2 c2))) pn) : T__law_pair_right_4 K Z E (PR (.fz (C2 s1 c1)) (.fz (.int s1.length)) (.fz (C2 s2 c2)) x4 x5 x6 x7 x8) pn := by
  unfold T__law_pair_right_4
  kd_mem
  refine v_ixTI rfl rfl ?_
  kd_mem
  refine v_ixTI rfl rfl ?_
  kd_mem
  refine v_init k g1 (sqL s1) (sqL c1) ?_
  kd_mem
  refine v_ixTI rfl rfl ?_
  kd_mem
  refine v_ixTI rfl rfl ?_
  kd_mem
  refine v_init k g2 (sqL s2) (sqT c2) ?_
  exact h
abbrev P7 (Z : Er) (s1 c1 s2 c2 : List Int) (x4 x5 x6 : SV) : SL := PR (.fz (C2 s1 c1)) (.fz (.int s1.length)) (.fz (C2 s2 c2)) x4 x5 x6 (.fz (LD Z s1 c1)) (.fz (LD Z s2 c2))
abbrev BO (Z : Er) (s1 c1 s2 c2 : List Int) : D := LD Z (addL s1 s2) (addL c1 c2)
theorem q_6 (k : Kt K Z) (g1 : Good s1 c1) (g2 : Good s2 c2) (hl : s2.length = s1.length) (h : E.nx (P7 Z s1 c1 s2 c2 (.fz (BO Z s1 c1 s2 c2)) x5 x6) pn) : T__law_pair_right_6 K Z E (P7 Z s1 c1 s2 c2 (.fz (LD Z s1 c1)) x5 x6) pn := by
  unfold T__law_pair_right_6
  refine s_augO rfl ?_
  kd_mem
  refine rd_own (.inr ⟨_, rfl⟩) ?_
  refine v_plus k g1 g2 hl ?_
  exact h
theorem q_7 (g1 : Good s1 c1) (g2 : Good s2 c2) (hl : s2.length = s1.length) (h : E.nx (P7 Z s1 c1 s2 c2 x4 (.fz (.lst (I (addL s1 s2 ++ addL c1 c2)))) x6) pn) : T__law_pair_right_7 K Z E (P7 Z s1 c1 s2 c2 x4 x5 x6) pn := by
  have a1 := g1.l6
  have a2 := g1.lc
  have a3 := g2.lc
  unfold T__law_pair_right_7
  kd_mem
  refine v_ixTI rfl rfl ?_
  kd_mem
  refine v_ixTI rfl rfl ?_
  refine v_addL (sz (by simp; omega)) ?_
  kd_mem
  refine v_ixTI rfl rfl ?_
  kd_mem
  refine v_ixTI rfl rfl ?_
  refine v_addL (sz (by simp; omega)) ?_
  kd_mem
  rw [← List.map_append, ← List.map_append]
  refine lc_add rfl (by decide) (by simp [wipeD]) (by simp [wipeD]) (by simp; omega) ?_
  rw [addL_app hl]
  exact h
theorem q_8 (k : Kt K Z) (g1 : Good s1 c1) (g2 : Good s2 c2) (hl : s2.length = s1.length) (h : E.nx (P7 Z s1 c1 s2 c2 (.fz (BO Z s1 c1 s2 c2)) (.fz (.lst (I (addL s1 s2 ++ addL c1 c2)))) x6) pn) :
    T__law_pair_right_8 K Z E (P7 Z s1 c1 s2 c2 (.fz (BO Z s1 c1 s2 c2)) (.fz (.lst (I (addL s1 s2 ++ addL c1 c2)))) x6) pn := by
  have a1 := g1.l6
  have a2 := g1.lc
  have a3 := g2.lc
  have e1 := addL_len hl
  have e2 : (addL c1 c2).length = c1.length := addL_len (by omega)
  unfold T__law_pair_right_8
  kd_mem
  refine v_fld rfl ?_
  kd_mem
  refine v_fld rfl ?_
  kd_mem
  refine v_addL (sz (by simp; omega)) ?_
  kd_mem
  rw [← List.map_append]
  refine w_eqLr rfl ?_
  kd_mem
  refine rd_own (.inr ⟨_, rfl⟩) ?_
  refine v_plus k g1 g2 hl ?_
  kd_mem
  refine rd_ne (sideL k _ _) ?_
  refine v_eqO k ⟨_, rfl, ?_⟩
  rw [decide_eq_true rfl, decide_eq_true rfl]
  kd_mem
  refine if_f rfl ?_
  kd_mem
  refine v_ixTI rfl rfl ?_
  kd_mem
  refine v_ixTI rfl rfl ?_
  kd_mem
  refine v_init k g1 (sqL s1) (sqL c1) ?_
  kd_mem
  refine rd_ne (sideL k _ _) ?_
  refine v_eqO k ⟨_, rfl, ?_⟩
  rw [decide_eq_true rfl, decide_eq_true rfl]
  kd_mem
  refine if_f rfl ?_
  exact h
theorem q_9 (g1 : Good s1 c1) (g2 : Good s2 c2) (hl : s2.length = s1.length) (h : E.nx (P7 Z s1 c1 s2 c2 x4 x5 (.fz (.bl (leL s1 c1 s2 c2)))) pn) : T__law_pair_right_9 K Z E (P7 Z s1 c1 s2 c2 x4 x5 x6) pn := by
  have a1 := g1.l6
  have a2 := g1.lc
  have a3 := g2.lc
  unfold T__law_pair_right_9
  kd_mem
  refine v_ixTI rfl rfl ?_
  kd_mem
  refine v_ixTI rfl rfl ?_
  refine v_addL (sz (by simp; omega)) ?_
  kd_mem
  refine v_ixTI rfl rfl ?_
  kd_mem
  refine v_ixTI rfl rfl ?_
  refine v_addL (sz (by simp; omega)) ?_
  kd_mem
  rw [← List.map_append, ← List.map_append, zip_I]
  refine lc_pair gtD (fun _ _ => .int 1) rfl (by decide) (fun a b hab Q q => ?_) (fun a b hab _ Q q => ?_) (sz (by simp; omega)) ?_
  · obtain ⟨⟨x, y⟩, _, e⟩ := List.mem_map.mp hab
    cases e
    kd_mem
    exact q
  · kd_mem
    exact q
  kd_mem
  refine ⟨sz (by simp), ?_⟩
  refine w_eqNil (n := 0) (okL_all (n := 0) (b := 0) fun d hd => ?_) (by omega) ?_
  · obtain ⟨_, _, rfl⟩ := List.mem_map.mp hd
    exact ok_100 (by omega) (by omega)
  rw [show ((((((s1 ++ c1).zip (s2 ++ c2)).map fun p => (D.int p.1, D.int p.2)).filter fun x : D × D => gtD x.1 x.2).map fun _ => D.int 1).isEmpty != false) = leL s1 c1 s2 c2 by
    unfold leL
    rw [Bool.eq_iff_iff, List.all_eq_true]
    simp only [bne_iff_ne, ne_eq, Bool.not_eq_false, List.isEmpty_iff, List.map_eq_nil_iff, List.filter_eq_nil_iff, List.mem_map, forall_exists_index, and_imp]
    constructor
    · intro z p hp
      have := z _ p hp rfl
      simp only [gtD, decide_eq_true_eq] at this
      exact decide_eq_true (by omega)
    · rintro z _ p hp rfl
      have := of_decide_eq_true (z p hp)
      simp only [gtD, decide_eq_true_eq]
      omega]
  exact h
theorem q_10 (k : Kt K Z) (g1 : Good s1 c1) (g2 : Good s2 c2) (hl : s2.length = s1.length) (h : E.nx (P7 Z s1 c1 s2 c2 x4 x5 (.fz (.bl (leL s1 c1 s2 c2)))) pn) : T__law_pair_right_10 K Z E (P7 Z s1 c1 s2 c2 x4 x5 (.fz (.bl (leL s1 c1 s2 c2)))) pn := by
  have okb : ∀ a b, Ok 1 2 (.lst [.bl a, .bl b]) := fun a b => (Ok.lst (okL_cons (ok_bl _) (okL_cons (ok_bl _) okL_nil))).mono (by omega) (by omega)
  unfold T__law_pair_right_10
  kd_mem
  refine rd_own (sideL k _ _) ?_
  refine v_leO k g1 g2 hl ?_
  kd_mem
  refine rd_own (sideL k _ _) ?_
  refine v_eqO k ?_
  kd_mem
  refine ⟨sz (by simp), ?_⟩
  kd_mem
  refine v_repr (okb _ _) (by omega) (by omega) ?_
  kd_mem
  refine v_ixTI rfl rfl ?_
  kd_mem
  refine v_ixTI rfl rfl ?_
  refine v_eq_intsL ?_
  kd_mem
  by_cases c : s1 = s2
  · rw [decide_eq_true c]
    refine if_t rfl ?_
    kd_mem
    refine v_ixTI rfl rfl ?_
    kd_mem
    refine v_ixTI rfl rfl ?_
    refine v_eq_intsL ?_
    kd_mem
    refine ⟨sz (by simp), ?_⟩
    kd_mem
    rw [show (decide (c1 = c2) != false) = (true && decide (c1 = c2)) by simp]
    refine v_repr (okb _ _) (by omega) (by omega) ?_
    refine v_eq_str ?_
    kd_mem
    exact h
  · rw [decide_eq_false c]
    refine if_f rfl ?_
    kd_mem
    refine ⟨sz (by simp), ?_⟩
    kd_mem
    rw [Bool.false_and]
    refine v_repr (okb _ _) (by omega) (by omega) ?_
    refine v_eq_str ?_
    kd_mem
    exact h
theorem q_11 (k : Kt K Z) (g1 : Good s1 c1) (g2 : Good s2 c2) (hl : s2.length = s1.length) (h : E.rt (.bl true) pn) : T__law_pair_right_11 K Z E (P7 Z s1 c1 s2 c2 (.fz (BO Z s1 c1 s2 c2)) x5 x6) pn := by
  have g3 := good_add g1 g2 hl
  unfold T__law_pair_right_11
  kd_mem
  refine rd_own (sideL k _ _) ?_
  refine v_leO k g1 g3 (addL_len hl) ?_
  rw [leL_add g2.s0 g2.c0 hl]
  kd_mem
  refine rd_own (sideL k _ _) ?_
  refine v_leO k g1 g1 rfl ?_
  rw [leL_self]
  kd_mem
  refine v_ixTI rfl rfl ?_
  kd_mem
  refine rd_ne (sidel k _) ?_
  refine v_eqL k ⟨_, rfl, ?_⟩
  exact h
end
theorem v_pairR (k : Kt K Z) (hi : pn.i ≤ 800000) (h : ∀ pn', pn'.i ≤ pn.i + 100 → Q (.bl true) pn') : S__law_pair_right K Z [.pen] pn Q X := by
  refine ⟨rfl, ?_⟩
  unfold T__law_pair_right
  with_reducible refine s_seq ?_
  unfold T__law_pair_right_0
  kd_mem
  refine v_chain (by omega) fun s1 c1 pn1 g1 bs bc i1 => ?_
  with_reducible refine s_seq ?_
  unfold T__law_pair_right_1
  kd_mem
  refine v_ixTI rfl rfl ?_
  kd_mem
  refine w_len (sqL s1) ?_
  refine rho (ρ' := PR (.fz (C2 s1 c1)) (.fz (.int s1.length)) .un .un .un .un .un .un) rfl ?_
  with_reducible refine s_seq ?_
  refine q_2 g1 bs (by omega) fun s2 pn2 hl b2 i2 => ?_
  with_reducible refine s_seq ?_
  refine q_3 g1 bc (by omega) fun c2 pn3 hc b3 i3 => ?_
  have g2 : Good s2 c2 := ⟨fun i hi => (b2 i hi).1, fun i hi => (b3 i hi).1, by have := g1.l1; omega, by have := g1.l6; omega, by have := g1.lc; omega⟩
  with_reducible refine s_seq ?_
  refine q_4 k g1 g2 ?_
  with_reducible refine s_seq ?_
  unfold T__law_pair_right_5
  kd_mem
  refine rho (ρ' := P7 Z s1 c1 s2 c2 (.fz (LD Z s1 c1)) .un .un) rfl ?_
  with_reducible refine s_seq ?_
  refine q_6 k g1 g2 hl ?_
  with_reducible refine s_seq ?_
  refine q_7 g1 g2 hl ?_
  with_reducible refine s_seq ?_
  refine q_8 k g1 g2 hl ?_
  with_reducible refine s_seq ?_
  refine q_9 g1 g2 hl ?_
  with_reducible refine s_seq ?_
  refine q_10 k g1 g2 hl ?_
  refine q_11 k g1 g2 hl ?_
  exact h _ (by omega)
end
end G50
end
section
set_option maxRecDepth 100000
set_option maxHeartbeats 4000000
namespace G50
open PySem L2 Lw Td
local macro_rules | `(tactic| kd_subs) => `(tactic| (repeat (with_reducible first | refine s_seq ?_ | refine e_call ?_ | refine e_cons ?_ | refine e_nil ?_ | refine e_c ?_ | refine e_var (by with_unfolding_all exact rfl) ?_ | refine e_varL (by with_unfolding_all exact rfl) ?_ | refine e_op ?_ | refine e_un ?_ | refine e_cb ?_ | refine s_ret ?_ | refine s_set ?_ | refine s_if ?_ | refine t_tst ?_ | refine t_tru ?_ | refine t_not ?_ | refine t_or ?_ | refine t_and ?_ | refine e_if ?_ | refine e_andV ?_ | refine e_orV ?_ | refine e_notV ?_ | refine e_chain ?_ | refine q_bl ?_ | refine q_tb ?_ | refine if_tt ?_ | refine if_ff ?_ | refine if_nt ?_ | refine if_nf ?_ | refine s_next ?_ | refine s_drop ?_ | refine s_ap (by with_unfolding_all exact rfl) ?_ | refine s_raise1 ?_ | refine s_for ?_ | refine s_par3 ?_ | refine seq_L ?_ | refine seq_T ?_ | refine rd_get ?_ | refine rd_len ?_ | refine s_setO ?_ | refine s_par ?_ | refine s_sf ?_ | refine e_two ?_ | refine e_make ?_ | refine e_makeKw ?_ | refine e_meth ?_ | refine e_methK ?_ | refine e_step ?_ | refine e_tup ?_ | refine e_lst ?_ | refine o_lst ?_ | refine e_lc ?_ | refine e_itB ?_ | refine e_own ?_ | refine i_lst ?_ | refine i_tup ?_ | refine i_zipT ?_ | refine i_zipL ?_ | refine e_sl ?_ | refine e_p ?_ | refine p_int ?_ | refine e_noP ?_ | refine v_cmp ?_ | refine v_neg ?_ | refine v_revL ?_ | refine v_max2 ?_ | refine v_intI ?_ | refine v_isN0 ?_ | refine e_yes ?_ | refine g_n ?_ | refine e_pk ?_ | refine v_add ?_ | refine v_sub ?_ | refine v_tupL ?_ | refine v_tupT ?_ | refine v_lstL ?_ | refine v_lstT ?_)))
local macro_rules | `(tactic| kd_mem) => `(tactic| (repeat (with_reducible first | refine e_call ?_ | refine e_cons ?_ | refine e_nil ?_ | refine e_c ?_ | refine e_var (by with_unfolding_all exact rfl) ?_ | refine e_varL (by with_unfolding_all exact rfl) ?_ | refine e_op ?_ | refine e_un ?_ | refine e_cb ?_ | refine s_ret ?_ | refine s_set ?_ | refine s_if ?_ | refine t_tst ?_ | refine t_tru ?_ | refine t_not ?_ | refine t_or ?_ | refine t_and ?_ | refine e_if ?_ | refine e_andV ?_ | refine e_orV ?_ | refine e_notV ?_ | refine e_chain ?_ | refine q_bl ?_ | refine q_tb ?_ | refine if_tt ?_ | refine if_ff ?_ | refine if_nt ?_ | refine if_nf ?_ | refine s_drop ?_ | refine s_ap (by with_unfolding_all exact rfl) ?_ | refine s_raise1 ?_ | refine s_for ?_ | refine s_par3 ?_ | refine seq_L ?_ | refine seq_T ?_ | refine rd_get ?_ | refine rd_len ?_ | refine s_setO ?_ | refine s_par ?_ | refine s_sf ?_ | refine e_two ?_ | refine e_make ?_ | refine e_makeKw ?_ | refine e_meth ?_ | refine e_methK ?_ | refine e_step ?_ | refine e_tup ?_ | refine e_lst ?_ | refine o_lst ?_ | refine e_lc ?_ | refine e_itB ?_ | refine e_own ?_ | refine i_lst ?_ | refine i_tup ?_ | refine i_zipT ?_ | refine i_zipL ?_ | refine e_sl ?_ | refine e_p ?_ | refine p_int ?_ | refine e_noP ?_ | refine v_cmp ?_ | refine v_neg ?_ | refine v_revL ?_ | refine v_max2 ?_ | refine v_intI ?_ | refine v_isN0 ?_ | refine e_yes ?_ | refine g_n ?_ | refine e_pk ?_ | refine v_add ?_ | refine v_sub ?_ | refine v_tupL ?_ | refine v_tupT ?_ | refine v_lstL ?_ | refine v_lstT ?_)))
section
variable {K : PySem.W.Frag} {Z : Er} {pn : Pn} {Q : D → Pn → Prop} {X : Addr → List (Str × D) → Pn → Prop}
abbrev s3 : List Int := [5, 0, 5]
abbrev k3 : List Int := [5, 0]
theorem good3 : Good s3 k3 := ⟨by decide, by decide, by decide, by decide, by decide⟩
theorem v_law (k : Kt K Z) : R_law K Z := by
  intro ns hns
  unfold T_law
  refine rho (ρ' := [.un, .fz .pen, .un, .un]) rfl ?_
  with_reducible refine s_seq ?_
  unfold T_law_0
  kd_subs
  refine i_rngI (by omega) ?_
  refine forW_inv (fun t ρ pn => ∃ x2, ρ = [.un, .fz .pen, x2, .un] ∧ pn.i ≤ 200 * (t : Int)) ⟨_, rfl, by simp⟩ ?_ ?_
  · rintro t d ρ pn E' ht ⟨x2, rfl, hp⟩ nx _ _ _ _
    have ht2 := (List.getElem?_eq_some_iff.mp ht).1
    have ht3 : t < 7 := by simpa using ht2
    kd_subs
    refine v_right k (by omega) fun pn1 h1 => ?_
    kd_subs
    refine v_pairR k (by omega) fun pn2 h2 => ?_
    kd_subs
    exact nx _ _ ⟨_, rfl, by omega⟩
  rintro ρ pn ⟨x2, rfl, hp⟩
  with_reducible refine s_seq ?_
  unfold T_law_1
  kd_mem
  refine ⟨sz (by simp), ?_⟩
  kd_mem
  refine ⟨sz (by simp), ?_⟩
  kd_mem
  refine v_init (ss := s3) (cs := k3) k good3 (.inl rfl) (.inl rfl) ?_
  refine rho (ρ' := [.un, .fz .pen, x2, .fz (LD Z s3 k3)]) rfl ?_
  with_reducible refine s_seq ?_
  unfold T_law_2
  kd_mem
  refine ⟨⟨_, rfl, rfl⟩, ?_⟩
  kd_mem
  refine ⟨sz (by simp), ?_⟩
  refine v_mwanted (ps := [1, 5, 5]) k good3 (.inr rfl) (by decide) (by decide) ?_
  kd_mem
  refine ⟨⟨_, rfl, rfl⟩, ?_⟩
  kd_mem
  refine ⟨sz (by simp), ?_⟩
  refine v_leftBy (ps := [1, 4, 2]) k good3 (.inl rfl) (by decide) (by decide) (fun c => ?_) (fun c => absurd c (by decide))
  kd_mem
  refine ⟨⟨_, rfl, rfl⟩, ?_⟩
  kd_mem
  refine ⟨sz (by simp), ?_⟩
  refine v_mcan (ps := [0, 0, 6]) k good3 (.inr rfl) (by decide) (by decide) ?_
  kd_mem
  refine ⟨sz (by simp), ?_⟩
  kd_mem
  refine ⟨sz (by simp), ?_⟩
  kd_mem
  refine ⟨sz (by simp), ?_⟩
  kd_mem
  refine ⟨sz (by simp), ?_⟩
  have e1 : wantL s3 [1, 5, 5] = [1, 5, 0] := by decide
  have e2 : leftL s3 [1, 4, 2] (wantL s3 [1, 4, 2]) = [0, 0, 3] := by decide
  have e3 : canL s3 k3 [0, 0, 6] = false := by decide
  rw [e1, e2, e3]
  refine w_eqS (n := 3) (b := 100) ((Ok.lst (okL_cons (Ok.tup (n := 1) (b := 3) ?_) (okL_cons (Ok.tup (n := 1) (b := 3) ?_) (okL_cons (Ok.mono (m := 2) (c := 0) (ok_bl _) (by omega) (by omega)) okL_nil)))).mono (by omega) (by omega)) (by omega) rfl ?_
  · exact okL_all (n := 1) (b := 0) fun d hd => by
      obtain ⟨i, hi, rfl⟩ := List.mem_map.mp hd
      simp only [List.mem_cons, List.not_mem_nil, or_false] at hi
      rcases hi with rfl | rfl | rfl <;> exact (ok_100 (by decide) (by decide)).mono (by omega) (by omega)
  · exact okL_all (n := 1) (b := 0) fun d hd => by
      obtain ⟨i, hi, rfl⟩ := List.mem_map.mp hd
      simp only [List.mem_cons, List.not_mem_nil, or_false] at hi
      rcases hi with rfl | rfl | rfl <;> exact (ok_100 (by decide) (by decide)).mono (by omega) (by omega)
  kd_subs
  unfold T_law_3
  kd_mem
  refine ⟨sz (by simp), ?_⟩
  kd_mem
  refine v_init0 (ss := [1, 2]) (cs := [0]) k ⟨by decide, by decide, by decide, by decide, by decide⟩ (.inl rfl) rfl ?_
  kd_mem
  refine ⟨sz (by simp), ?_⟩
  kd_mem
  refine ⟨sz (by simp), ?_⟩
  kd_mem
  refine v_init (ss := [1, 2]) (cs := [0]) k ⟨by decide, by decide, by decide, by decide, by decide⟩ (.inr rfl) (.inl rfl) ?_
  kd_mem
  refine rd_own (sideL k _ _) ?_
  refine v_eqO k ?_
  rw [decide_eq_true rfl, decide_eq_true rfl, Bool.true_and]
  kd_mem
  refine ⟨sz (by simp), ?_⟩
  kd_mem
  refine v_init0 (ss := [1]) (cs := []) k ⟨by decide, by decide, by decide, by decide, by decide⟩ (.inl rfl) rfl ?_
  kd_mem
  refine v_fld rfl ?_
  kd_mem
  refine ⟨sz (by simp), ?_⟩
  refine w_eqTr (as := []) (bs := []) rfl ?_
  kd_mem
  refine ⟨sz (by simp), ?_⟩
  kd_mem
  refine v_init0 (ss := [1]) (cs := []) k ⟨by decide, by decide, by decide, by decide, by decide⟩ (.inl rfl) rfl ?_
  kd_mem
  refine ⟨sz (by simp), ?_⟩
  kd_mem
  refine v_init0 (ss := [1, 0]) (cs := [0]) k ⟨by decide, by decide, by decide, by decide, by decide⟩ (.inl rfl) rfl ?_
  kd_mem
  refine rd_ne (sideL k _ _) ?_
  refine v_eqO k ⟨_, rfl, ?_⟩
  rfl
end
end G50
end
section
set_option maxRecDepth 100000
set_option maxHeartbeats 4000000
namespace G50
open PySem PySem.Spec PyProof.Rows L2 Lw Td
section
variable {R : Params}
noncomputable abbrev KK (R : Params) : PySem.W.Frag := hd50.heap_39 R
theorem fI_BadLines : Fun (KK R) "__init__" "BadLines.__init__" (inClass (top 7) 0) 69 (fdAt (KK R) 69) := fun_at (by rfl) (by kernel_rfl)
theorem okI_BadLines {P : Program} {w : World} {K : PySem.W.Frag} {mg : Str → Option Value} {base : Heap} {f C : Addr} {gd : FuncData} (F : Fun K "__init__" "BadLines.__init__" (inClass (top 7) 0) f gd) (T : OexC K C) (no : PySem.W.findIn K (.ref C) "part" = some none) : FnOk P w K mg base CX0 1 f gd ["self", "part"] (spI1 C "part") := by
  have sc : FnScope ["self", "part"] ["self", "part"] (defScope (inClass (top 7) 0)) := ⟨rfl, rfl, rfl, by decide +kernel, rfl, by decide +kernel, by decide +kernel⟩
  refine F.ok sc (fun vs H Q E h => ?_) (fun cdv A outer s H vs Q E hr h => ?_)
  · obtain ⟨a, v, rfl, _⟩ := h
    rfl
  · obtain ⟨a, v, rfl, ha, k⟩ := h
    exact ⟨_, pss_one (ps_ost (pv 0) (pv 1)), _, rfl, _, rfl, a, C, rfl, T, no, .inl ⟨ha, fun d nd ne => k d nd ne⟩⟩
theorem cl_BadLines {P : Program} {w : World} {mg : Str → Option Value} {base : Heap} (g : mg "BadLines" = some (.ref 72)) : Cl1 P w (KK R) mg base "BadLines" "part" 72 69 (fdAt (KK R) 69) := cl1_mk (by kernel_rfl) (by kernel_rfl) g fI_BadLines (okI_BadLines fI_BadLines) (fun _ _ _ _ _ _ _ _ => rfl) (fun _ _ _ _ _ _ _ _ => rfl)
theorem fI_BadNumber : Fun (KK R) "__init__" "BadNumber.__init__" (inClass (top 8) 0) 88 (fdAt (KK R) 88) := fun_at (by rfl) (by kernel_rfl)
theorem okI_BadNumber {P : Program} {w : World} {K : PySem.W.Frag} {mg : Str → Option Value} {base : Heap} {f C : Addr} {gd : FuncData} (F : Fun K "__init__" "BadNumber.__init__" (inClass (top 8) 0) f gd) (T : OexC K C) (no : PySem.W.findIn K (.ref C) "value" = some none) : FnOk P w K mg base CX0 1 f gd ["self", "value"] (spI1 C "value") := by
  have sc : FnScope ["self", "value"] ["self", "value"] (defScope (inClass (top 8) 0)) := ⟨rfl, rfl, rfl, by decide +kernel, rfl, by decide +kernel, by decide +kernel⟩
  refine F.ok sc (fun vs H Q E h => ?_) (fun cdv A outer s H vs Q E hr h => ?_)
  · obtain ⟨a, v, rfl, _⟩ := h
    rfl
  · obtain ⟨a, v, rfl, ha, k⟩ := h
    exact ⟨_, pss_one (ps_ost (pv 0) (pv 1)), _, rfl, _, rfl, a, C, rfl, T, no, .inl ⟨ha, fun d nd ne => k d nd ne⟩⟩
theorem cl_BadNumber {P : Program} {w : World} {mg : Str → Option Value} {base : Heap} (g : mg "BadNumber" = some (.ref 91)) : Cl1 P w (KK R) mg base "BadNumber" "value" 91 88 (fdAt (KK R) 88) := cl1_mk (by kernel_rfl) (by kernel_rfl) g fI_BadNumber (okI_BadNumber fI_BadNumber) (fun _ _ _ _ _ _ _ _ => rfl) (fun _ _ _ _ _ _ _ _ => rfl)
abbrev ZZ : Er := ⟨52, 72, 91, 270⟩
theorem ns_StayError : PySem.W.nsIn (KK R) mainGlobals "StayError" = some (some (.ref 52)) := by kernel_rfl
theorem ns_BadLines : PySem.W.nsIn (KK R) mainGlobals "BadLines" = some (some (.ref 72)) := by kernel_rfl
theorem ns_BadNumber : PySem.W.nsIn (KK R) mainGlobals "BadNumber" = some (some (.ref 91)) := by kernel_rfl
theorem ns_Lines : PySem.W.nsIn (KK R) mainGlobals "Lines" = some (some (.ref 270)) := by kernel_rfl
theorem ns__law_pen : PySem.W.nsIn (KK R) mainGlobals "_law_pen" = some (some (.ref 317)) := by kernel_rfl
theorem fn__law_pen : Fun (KK R) "_law_pen" "_law_pen" (top 34) 317 (fdAt (KK R) 317) := fun_at (by rfl) (by kernel_rfl)
theorem bi__law_pen : Binds (KK R) (fdAt (KK R) 317) ["_law_script"] [] := fn__law_pen.binds fun kV doc pm an cdv ct us hl => match us, hl with | [u0], _ => rfl
theorem ns__law_draw : PySem.W.nsIn (KK R) mainGlobals "_law_draw" = some (some (.ref 324)) := by kernel_rfl
theorem fn__law_draw : Fun (KK R) "_law_draw" "_law_draw" (top 35) 324 (fdAt (KK R) 324) := fun_at (by rfl) (by kernel_rfl)
theorem bi__law_draw : Binds (KK R) (fdAt (KK R) 324) ["_law_pen_here", "_law_many"] [] := fn__law_draw.binds fun kV doc pm an cdv ct us hl => match us, hl with | [u0, u1], _ => rfl
theorem ns__law_pick : PySem.W.nsIn (KK R) mainGlobals "_law_pick" = some (some (.ref 331)) := by kernel_rfl
theorem fn__law_pick : Fun (KK R) "_law_pick" "_law_pick" (top 36) 331 (fdAt (KK R) 331) := fun_at (by rfl) (by kernel_rfl)
theorem bi__law_pick : Binds (KK R) (fdAt (KK R) 331) ["_law_pen_here", "_law_some"] [] := fn__law_pick.binds fun kV doc pm an cdv ct us hl => match us, hl with | [u0, u1], _ => rfl
theorem fd__law_chain : FunD (KK R) "_law_chain" "_law_chain" (defArgs (top 37)) (defBody (top 37)) (defScope (top 37)) [] [] 336 (fdAt (KK R) 336) := funD_at (by rfl) (by kernel_rfl) (.inl ⟨rfl, rfl⟩)
theorem bi__law_chain : Binds (KK R) (fdAt (KK R) 336) [("_law_pen_here" : Str)] [] := fd__law_chain.bindsN fun kV doc pm an cdv ct us hl => match us, hl with | [u0], _ => rfl
theorem ns__law_chain : PySem.W.nsIn (KK R) mainGlobals "_law_chain" = some (some (.ref 336)) := by kernel_rfl
theorem fd_is_sequence : FunD (KK R) "is_sequence" "is_sequence" (defArgs (top 4)) (defBody (top 4)) (defScope (top 4)) [] [] 42 (fdAt (KK R) 42) := funD_at (by rfl) (by kernel_rfl) (.inl ⟨rfl, rfl⟩)
theorem bi_is_sequence : Binds (KK R) (fdAt (KK R) 42) [("value" : Str)] [] := fd_is_sequence.bindsN fun kV doc pm an cdv ct us hl => match us, hl with | [u0], _ => rfl
theorem ns_is_sequence : PySem.W.nsIn (KK R) mainGlobals "is_sequence" = some (some (.ref 42)) := by kernel_rfl
theorem fd_is_integer : FunD (KK R) "is_integer" "is_integer" (defArgs (top 1)) (defBody (top 1)) (defScope (top 1)) [] [] 21 (fdAt (KK R) 21) := funD_at (by rfl) (by kernel_rfl) (.inl ⟨rfl, rfl⟩)
theorem bi_is_integer : Binds (KK R) (fdAt (KK R) 21) [("value" : Str)] [] := fd_is_integer.bindsN fun kV doc pm an cdv ct us hl => match us, hl with | [u0], _ => rfl
theorem ns_is_integer : PySem.W.nsIn (KK R) mainGlobals "is_integer" = some (some (.ref 21)) := by kernel_rfl
theorem fd_is_amount : FunD (KK R) "is_amount" "is_amount" (defArgs (top 3)) (defBody (top 3)) (defScope (top 3)) [] [] 35 (fdAt (KK R) 35) := funD_at (by rfl) (by kernel_rfl) (.inl ⟨rfl, rfl⟩)
theorem bi_is_amount : Binds (KK R) (fdAt (KK R) 35) [("value" : Str)] [] := fd_is_amount.bindsN fun kV doc pm an cdv ct us hl => match us, hl with | [u0], _ => rfl
theorem ns_is_amount : PySem.W.nsIn (KK R) mainGlobals "is_amount" = some (some (.ref 35)) := by kernel_rfl
theorem fd_are_amounts : FunD (KK R) "are_amounts" "are_amounts" (defArgs (top 23)) (defBody (top 23)) (defScope (top 23)) [] [] 157 (fdAt (KK R) 157) := funD_at (by rfl) (by kernel_rfl) (.inl ⟨rfl, rfl⟩)
theorem bi_are_amounts : Binds (KK R) (fdAt (KK R) 157) [("value" : Str)] [] := fd_are_amounts.bindsN fun kV doc pm an cdv ct us hl => match us, hl with | [u0], _ => rfl
theorem ns_are_amounts : PySem.W.nsIn (KK R) mainGlobals "are_amounts" = some (some (.ref 157)) := by kernel_rfl
theorem fd_Lines___init__ : FunD (KK R) "__init__" "Lines.__init__" (defArgs (inClass (top 26) 0)) (defBody (inClass (top 26) 0)) (defScope (inClass (top 26) 0)) [.non] [] 186 (fdAt (KK R) 186) := funD_at (by rfl) (by kernel_rfl) (He.dflB_ok (by kernel_rfl))
theorem mk_Lines : Mk (KK R) 270 186 := ⟨by kernel_rfl, by kernel_rfl, by kernel_rfl, by kernel_rfl⟩
theorem fd_Lines___len__ : FunD (KK R) "__len__" "Lines.__len__" (defArgs (inClass (top 26) 2)) (defBody (inClass (top 26) 2)) (defScope (inClass (top 26) 2)) [] [] 201 (fdAt (KK R) 201) := funD_at (by rfl) (by kernel_rfl) (.inl ⟨rfl, rfl⟩)
theorem bi_Lines___len__ : Binds (KK R) (fdAt (KK R) 201) [("self" : Str)] [] := fd_Lines___len__.bindsN fun kV doc pm an cdv ct us hl => match us, hl with | [u0], _ => rfl
theorem ow_Lines___len__ : Ow (KK R) 270 "__len__" 201 := ⟨by kernel_rfl, by kernel_rfl, by kernel_rfl, by kernel_rfl⟩
theorem fd_Lines___iter__ : FunD (KK R) "__iter__" "Lines.__iter__" (defArgs (inClass (top 26) 4)) (defBody (inClass (top 26) 4)) (defScope (inClass (top 26) 4)) [] [] 215 (fdAt (KK R) 215) := funD_at (by rfl) (by kernel_rfl) (.inl ⟨rfl, rfl⟩)
theorem bi_Lines___iter__ : Binds (KK R) (fdAt (KK R) 215) [("self" : Str)] [] := fd_Lines___iter__.bindsN fun kV doc pm an cdv ct us hl => match us, hl with | [u0], _ => rfl
theorem ow_Lines___iter__ : Ow (KK R) 270 "__iter__" 215 := ⟨by kernel_rfl, by kernel_rfl, by kernel_rfl, by kernel_rfl⟩
theorem fd_is_within : FunD (KK R) "is_within" "is_within" (defArgs (top 2)) (defBody (top 2)) (defScope (top 2)) [] [] 28 (fdAt (KK R) 28) := funD_at (by rfl) (by kernel_rfl) (.inl ⟨rfl, rfl⟩)
theorem bi_is_within : Binds (KK R) (fdAt (KK R) 28) [("value" : Str), ("least" : Str), ("most" : Str)] [] := fd_is_within.bindsN fun kV doc pm an cdv ct us hl => match us, hl with | [u0, u1, u2], _ => rfl
theorem ns_is_within : PySem.W.nsIn (KK R) mainGlobals "is_within" = some (some (.ref 28)) := by kernel_rfl
theorem fd_Lines___getitem__ : FunD (KK R) "__getitem__" "Lines.__getitem__" (defArgs (inClass (top 26) 3)) (defBody (inClass (top 26) 3)) (defScope (inClass (top 26) 3)) [] [] 208 (fdAt (KK R) 208) := funD_at (by rfl) (by kernel_rfl) (.inl ⟨rfl, rfl⟩)
theorem bi_Lines___getitem__ : Binds (KK R) (fdAt (KK R) 208) [("self" : Str), ("j" : Str)] [] := fd_Lines___getitem__.bindsN fun kV doc pm an cdv ct us hl => match us, hl with | [u0, u1], _ => rfl
theorem ow_Lines___getitem__ : Ow (KK R) 270 "__getitem__" 208 := ⟨by kernel_rfl, by kernel_rfl, by kernel_rfl, by kernel_rfl⟩
theorem fd_Lines_reach : FunD (KK R) "reach" "Lines.reach" (defArgs (inClass (top 26) 5)) (defBody (inClass (top 26) 5)) (defScope (inClass (top 26) 5)) [] [] 222 (fdAt (KK R) 222) := funD_at (by rfl) (by kernel_rfl) (.inl ⟨rfl, rfl⟩)
theorem bi_Lines_reach : Binds (KK R) (fdAt (KK R) 222) [("self" : Str), ("i" : Str), ("j" : Str)] [] := fd_Lines_reach.bindsN fun kV doc pm an cdv ct us hl => match us, hl with | [u0, u1, u2], _ => rfl
theorem ow_Lines_reach : Ow (KK R) 270 "reach" 222 := ⟨by kernel_rfl, by kernel_rfl, by kernel_rfl, by kernel_rfl⟩
theorem fd__law_there : FunD (KK R) "_law_there" "_law_there" (defArgs (top 39)) (defBody (top 39)) (defScope (top 39)) [] [] 348 (fdAt (KK R) 348) := funD_at (by rfl) (by kernel_rfl) (.inl ⟨rfl, rfl⟩)
theorem bi__law_there : Binds (KK R) (fdAt (KK R) 348) [("_law_chain_here" : Str), ("_law_low" : Str), ("_law_high" : Str)] [] := fd__law_there.bindsN fun kV doc pm an cdv ct us hl => match us, hl with | [u0, u1, u2], _ => rfl
theorem ns__law_there : PySem.W.nsIn (KK R) mainGlobals "_law_there" = some (some (.ref 348)) := by kernel_rfl
theorem fd__law_paid : FunD (KK R) "_law_paid" "_law_paid" (defArgs (top 38)) (defBody (top 38)) (defScope (top 38)) [] [] 341 (fdAt (KK R) 341) := funD_at (by rfl) (by kernel_rfl) (.inl ⟨rfl, rfl⟩)
theorem bi__law_paid : Binds (KK R) (fdAt (KK R) 341) [("_law_pen_here" : Str), ("_law_many" : Str)] [] := fd__law_paid.bindsN fun kV doc pm an cdv ct us hl => match us, hl with | [u0, u1], _ => rfl
theorem ns__law_paid : PySem.W.nsIn (KK R) mainGlobals "_law_paid" = some (some (.ref 341)) := by kernel_rfl
theorem fd__law_shorts : FunD (KK R) "_law_shorts" "_law_shorts" (defArgs (top 40)) (defBody (top 40)) (defScope (top 40)) [] [] 353 (fdAt (KK R) 353) := funD_at (by rfl) (by kernel_rfl) (.inl ⟨rfl, rfl⟩)
theorem bi__law_shorts : Binds (KK R) (fdAt (KK R) 353) [("_law_chain_here" : Str), ("_law_paid_here" : Str)] [] := fd__law_shorts.bindsN fun kV doc pm an cdv ct us hl => match us, hl with | [u0, u1], _ => rfl
theorem ns__law_shorts : PySem.W.nsIn (KK R) mainGlobals "_law_shorts" = some (some (.ref 353)) := by kernel_rfl
theorem fd_check_spent : FunD (KK R) "check_spent" "check_spent" (defArgs (top 25)) (defBody (top 25)) (defScope (top 25)) [] [] 171 (fdAt (KK R) 171) := funD_at (by rfl) (by kernel_rfl) (.inl ⟨rfl, rfl⟩)
theorem bi_check_spent : Binds (KK R) (fdAt (KK R) 171) [("lines" : Str), ("spent" : Str)] [] := fd_check_spent.bindsN fun kV doc pm an cdv ct us hl => match us, hl with | [u0, u1], _ => rfl
theorem ns_check_spent : PySem.W.nsIn (KK R) mainGlobals "check_spent" = some (some (.ref 171)) := by kernel_rfl
theorem fd_wanted_of : FunD (KK R) "wanted_of" "wanted_of" (defArgs (top 27)) (defBody (top 27)) (defScope (top 27)) [] [] 281 (fdAt (KK R) 281) := funD_at (by rfl) (by kernel_rfl) (.inl ⟨rfl, rfl⟩)
theorem bi_wanted_of : Binds (KK R) (fdAt (KK R) 281) [("sums" : Str), ("spent" : Str)] [] := fd_wanted_of.bindsN fun kV doc pm an cdv ct us hl => match us, hl with | [u0, u1], _ => rfl
theorem ns_wanted_of : PySem.W.nsIn (KK R) mainGlobals "wanted_of" = some (some (.ref 281)) := by kernel_rfl
theorem fd_Lines_wanted : FunD (KK R) "wanted" "Lines.wanted" (defArgs (inClass (top 26) 6)) (defBody (inClass (top 26) 6)) (defScope (inClass (top 26) 6)) [] [] 229 (fdAt (KK R) 229) := funD_at (by rfl) (by kernel_rfl) (.inl ⟨rfl, rfl⟩)
theorem bi_Lines_wanted : Binds (KK R) (fdAt (KK R) 229) [("self" : Str), ("spent" : Str)] [] := fd_Lines_wanted.bindsN fun kV doc pm an cdv ct us hl => match us, hl with | [u0, u1], _ => rfl
theorem ow_Lines_wanted : Ow (KK R) 270 "wanted" 229 := ⟨by kernel_rfl, by kernel_rfl, by kernel_rfl, by kernel_rfl⟩
theorem fd__law_into : FunD (KK R) "_law_into" "_law_into" (defArgs (top 41)) (defBody (top 41)) (defScope (top 41)) [] [] 358 (fdAt (KK R) 358) := funD_at (by rfl) (by kernel_rfl) (.inl ⟨rfl, rfl⟩)
theorem bi__law_into : Binds (KK R) (fdAt (KK R) 358) [("_law_chain_here" : Str), ("_law_paid_here" : Str)] [] := fd__law_into.bindsN fun kV doc pm an cdv ct us hl => match us, hl with | [u0, u1], _ => rfl
theorem ns__law_into : PySem.W.nsIn (KK R) mainGlobals "_law_into" = some (some (.ref 358)) := by kernel_rfl
theorem fd_can_pay : FunD (KK R) "can_pay" "can_pay" (defArgs (top 28)) (defBody (top 28)) (defScope (top 28)) [] [] 286 (fdAt (KK R) 286) := funD_at (by rfl) (by kernel_rfl) (.inl ⟨rfl, rfl⟩)
theorem bi_can_pay : Binds (KK R) (fdAt (KK R) 286) [("sums" : Str), ("caps" : Str), ("spent" : Str)] [] := fd_can_pay.bindsN fun kV doc pm an cdv ct us hl => match us, hl with | [u0, u1, u2], _ => rfl
theorem ns_can_pay : PySem.W.nsIn (KK R) mainGlobals "can_pay" = some (some (.ref 286)) := by kernel_rfl
theorem fd_Lines_can : FunD (KK R) "can" "Lines.can" (defArgs (inClass (top 26) 7)) (defBody (inClass (top 26) 7)) (defScope (inClass (top 26) 7)) [] [] 236 (fdAt (KK R) 236) := funD_at (by rfl) (by kernel_rfl) (.inl ⟨rfl, rfl⟩)
theorem bi_Lines_can : Binds (KK R) (fdAt (KK R) 236) [("self" : Str), ("spent" : Str)] [] := fd_Lines_can.bindsN fun kV doc pm an cdv ct us hl => match us, hl with | [u0, u1], _ => rfl
theorem ow_Lines_can : Ow (KK R) 270 "can" 236 := ⟨by kernel_rfl, by kernel_rfl, by kernel_rfl, by kernel_rfl⟩
theorem fd_left_with : FunD (KK R) "left_with" "left_with" (defArgs (top 29)) (defBody (top 29)) (defScope (top 29)) [] [] 291 (fdAt (KK R) 291) := funD_at (by rfl) (by kernel_rfl) (.inl ⟨rfl, rfl⟩)
theorem bi_left_with : Binds (KK R) (fdAt (KK R) 291) [("sums" : Str), ("spent" : Str), ("moves" : Str)] [] := fd_left_with.bindsN fun kV doc pm an cdv ct us hl => match us, hl with | [u0, u1, u2], _ => rfl
theorem ns_left_with : PySem.W.nsIn (KK R) mainGlobals "left_with" = some (some (.ref 291)) := by kernel_rfl
theorem fd_Lines_left_by : FunD (KK R) "left_by" "Lines.left_by" (defArgs (inClass (top 26) 8)) (defBody (inClass (top 26) 8)) (defScope (inClass (top 26) 8)) [] [] 243 (fdAt (KK R) 243) := funD_at (by rfl) (by kernel_rfl) (.inl ⟨rfl, rfl⟩)
theorem bi_Lines_left_by : Binds (KK R) (fdAt (KK R) 243) [("self" : Str), ("spent" : Str)] [] := fd_Lines_left_by.bindsN fun kV doc pm an cdv ct us hl => match us, hl with | [u0, u1], _ => rfl
theorem ow_Lines_left_by : Ow (KK R) 270 "left_by" 243 := ⟨by kernel_rfl, by kernel_rfl, by kernel_rfl, by kernel_rfl⟩
theorem fd__law_told : FunD (KK R) "_law_told" "_law_told" (defArgs (top 43)) (defBody (top 43)) (defScope (top 43)) [] [] 370 (fdAt (KK R) 370) := funD_at (by rfl) (by kernel_rfl) (.inl ⟨rfl, rfl⟩)
theorem bi__law_told : Binds (KK R) (fdAt (KK R) 370) [("_law_made" : Str), ("_law_paid_here" : Str)] [] := fd__law_told.bindsN fun kV doc pm an cdv ct us hl => match us, hl with | [u0, u1], _ => rfl
theorem ns__law_told : PySem.W.nsIn (KK R) mainGlobals "_law_told" = some (some (.ref 370)) := by kernel_rfl
theorem fd__law_left : FunD (KK R) "_law_left" "_law_left" (defArgs (top 42)) (defBody (top 42)) (defScope (top 42)) [] [] 363 (fdAt (KK R) 363) := funD_at (by rfl) (by kernel_rfl) (.inl ⟨rfl, rfl⟩)
theorem bi__law_left : Binds (KK R) (fdAt (KK R) 363) [("_law_chain_here" : Str), ("_law_paid_here" : Str)] [] := fd__law_left.bindsN fun kV doc pm an cdv ct us hl => match us, hl with | [u0, u1], _ => rfl
theorem ns__law_left : PySem.W.nsIn (KK R) mainGlobals "_law_left" = some (some (.ref 363)) := by kernel_rfl
theorem fd_Lines___eq__ : FunD (KK R) "__eq__" "Lines.__eq__" (defArgs (inClass (top 26) 11)) (defBody (inClass (top 26) 11)) (defScope (inClass (top 26) 11)) [] [] 260 (fdAt (KK R) 260) := funD_at (by rfl) (by kernel_rfl) (.inl ⟨rfl, rfl⟩)
theorem bi_Lines___eq__ : Binds (KK R) (fdAt (KK R) 260) [("self" : Str), ("other" : Str)] [] := fd_Lines___eq__.bindsN fun kV doc pm an cdv ct us hl => match us, hl with | [u0, u1], _ => rfl
theorem ow_Lines___eq__ : Ow (KK R) 270 "__eq__" 260 := ⟨by kernel_rfl, by kernel_rfl, by kernel_rfl, by kernel_rfl⟩
theorem fd__law_right : FunD (KK R) "_law_right" "_law_right" (defArgs (top 44)) (defBody (top 44)) (defScope (top 44)) [] [] 375 (fdAt (KK R) 375) := funD_at (by rfl) (by kernel_rfl) (.inl ⟨rfl, rfl⟩)
theorem bi__law_right : Binds (KK R) (fdAt (KK R) 375) [("_law_pen_here" : Str)] [] := fd__law_right.bindsN fun kV doc pm an cdv ct us hl => match us, hl with | [u0], _ => rfl
theorem ns__law_right : PySem.W.nsIn (KK R) mainGlobals "_law_right" = some (some (.ref 375)) := by kernel_rfl
theorem fd_check_other : FunD (KK R) "check_other" "check_other" (defArgs (top 24)) (defBody (top 24)) (defScope (top 24)) [] [] 164 (fdAt (KK R) 164) := funD_at (by rfl) (by kernel_rfl) (.inl ⟨rfl, rfl⟩)
theorem bi_check_other : Binds (KK R) (fdAt (KK R) 164) [("lines" : Str), ("other" : Str)] [] := fd_check_other.bindsN fun kV doc pm an cdv ct us hl => match us, hl with | [u0, u1], _ => rfl
theorem ns_check_other : PySem.W.nsIn (KK R) mainGlobals "check_other" = some (some (.ref 164)) := by kernel_rfl
theorem fd_Lines___add__ : FunD (KK R) "__add__" "Lines.__add__" (defArgs (inClass (top 26) 9)) (defBody (inClass (top 26) 9)) (defScope (inClass (top 26) 9)) [] [] 248 (fdAt (KK R) 248) := funD_at (by rfl) (by kernel_rfl) (.inl ⟨rfl, rfl⟩)
theorem bi_Lines___add__ : Binds (KK R) (fdAt (KK R) 248) [("self" : Str), ("other" : Str)] [] := fd_Lines___add__.bindsN fun kV doc pm an cdv ct us hl => match us, hl with | [u0, u1], _ => rfl
theorem ow_Lines___add__ : Ow (KK R) 270 "__add__" 248 := ⟨by kernel_rfl, by kernel_rfl, by kernel_rfl, by kernel_rfl⟩
theorem fd_Lines___le__ : FunD (KK R) "__le__" "Lines.__le__" (defArgs (inClass (top 26) 10)) (defBody (inClass (top 26) 10)) (defScope (inClass (top 26) 10)) [] [] 253 (fdAt (KK R) 253) := funD_at (by rfl) (by kernel_rfl) (.inl ⟨rfl, rfl⟩)
theorem bi_Lines___le__ : Binds (KK R) (fdAt (KK R) 253) [("self" : Str), ("other" : Str)] [] := fd_Lines___le__.bindsN fun kV doc pm an cdv ct us hl => match us, hl with | [u0, u1], _ => rfl
theorem ow_Lines___le__ : Ow (KK R) 270 "__le__" 253 := ⟨by kernel_rfl, by kernel_rfl, by kernel_rfl, by kernel_rfl⟩
theorem fd__law_pair_right : FunD (KK R) "_law_pair_right" "_law_pair_right" (defArgs (top 45)) (defBody (top 45)) (defScope (top 45)) [] [] 380 (fdAt (KK R) 380) := funD_at (by rfl) (by kernel_rfl) (.inl ⟨rfl, rfl⟩)
theorem bi__law_pair_right : Binds (KK R) (fdAt (KK R) 380) [("_law_pen_here" : Str)] [] := fd__law_pair_right.bindsN fun kV doc pm an cdv ct us hl => match us, hl with | [u0], _ => rfl
theorem ns__law_pair_right : PySem.W.nsIn (KK R) mainGlobals "_law_pair_right" = some (some (.ref 380)) := by kernel_rfl
theorem fd_law : FunD (KK R) "law" "law" (defArgs (top 46)) (defBody (top 46)) (defScope (top 46)) [] [] 387 (fdAt (KK R) 387) := funD_at (by rfl) (by kernel_rfl) (.inl ⟨rfl, rfl⟩)
theorem bi_law : Binds (KK R) (fdAt (KK R) 387) [("_law_script" : Str)] [] := fd_law.bindsN fun kV doc pm an cdv ct us hl => match us, hl with | [u0], _ => rfl
theorem ns_law : PySem.W.nsIn (KK R) mainGlobals "law" = some (some (.ref 387)) := by kernel_rfl
theorem no_all : PySem.W.nsIn (KK R) mainGlobals "all" = some none := by kernel_rfl
theorem no_bool : PySem.W.nsIn (KK R) mainGlobals "bool" = some none := by kernel_rfl
theorem no_int : PySem.W.nsIn (KK R) mainGlobals "int" = some none := by kernel_rfl
theorem no_isinstance : PySem.W.nsIn (KK R) mainGlobals "isinstance" = some none := by kernel_rfl
theorem no_iter : PySem.W.nsIn (KK R) mainGlobals "iter" = some none := by kernel_rfl
theorem no_len : PySem.W.nsIn (KK R) mainGlobals "len" = some none := by kernel_rfl
theorem no_list : PySem.W.nsIn (KK R) mainGlobals "list" = some none := by kernel_rfl
theorem no_max : PySem.W.nsIn (KK R) mainGlobals "max" = some none := by kernel_rfl
theorem no_range : PySem.W.nsIn (KK R) mainGlobals "range" = some none := by kernel_rfl
theorem no_repr : PySem.W.nsIn (KK R) mainGlobals "repr" = some none := by kernel_rfl
theorem no_sum : PySem.W.nsIn (KK R) mainGlobals "sum" = some none := by kernel_rfl
theorem no_tuple : PySem.W.nsIn (KK R) mainGlobals "tuple" = some none := by kernel_rfl
theorem no_zip : PySem.W.nsIn (KK R) mainGlobals "zip" = some none := by kernel_rfl
theorem no_abs : PySem.W.nsIn (KK R) mainGlobals "abs" = some none := by kernel_rfl
theorem nv_MOST_SUMS : PySem.W.nsIn (KK R) mainGlobals "MOST_SUMS" = some (some (.int 6 375)) := by kernel_rfl
theorem cls_Lines : Cls (KK R) 270 := ⟨by kernel_rfl, by kernel_rfl, by kernel_rfl, by kernel_rfl⟩
theorem clsI_Lines : ClsI (KK R) 270 := ⟨cls_Lines, by kernel_rfl, by kernel_rfl, by kernel_rfl, by kernel_rfl⟩
theorem noi_Lines : Ty.NoI (KK R) 270 "add" := ⟨⟨_, by rfl, by rfl⟩, by kernel_rfl, by kernel_rfl⟩
theorem fa_Lines {mg : Str → Option Value} {h : Heap} (X : (KK R).In h) (G : h.Ns mainGlobals mg) : Fa_Lines (KK R) mg ZZ := ⟨PySem.W.mg_of X G ns_Lines, by kernel_rfl, cls_Lines, clsI_Lines, by kernel_rfl, by kernel_rfl, by kernel_rfl, noi_Lines, (show PySem.W.findIn (KK R) (.ref 270) "sums" = some none from by kernel_rfl), (show PySem.W.findIn (KK R) (.ref 270) "caps" = some none from by kernel_rfl)⟩
theorem ec_StayError {mg : Str → Option Value} {h : Heap} (X : (KK R).In h) (G : h.Ns mainGlobals mg) : EcF (KK R) mg "StayError" 52 := ⟨PySem.W.mg_of X G ns_StayError, by kernel_rfl, exB_of (by kernel_rfl)⟩
theorem ec_BadLines {mg : Str → Option Value} {h : Heap} (X : (KK R).In h) (G : h.Ns mainGlobals mg) : EcF (KK R) mg "BadLines" 72 := ⟨PySem.W.mg_of X G ns_BadLines, by kernel_rfl, exB_of (by kernel_rfl)⟩
theorem ec_BadNumber {mg : Str → Option Value} {h : Heap} (X : (KK R).In h) (G : h.Ns mainGlobals mg) : EcF (KK R) mg "BadNumber" 91 := ⟨PySem.W.mg_of X G ns_BadNumber, by kernel_rfl, exB_of (by kernel_rfl)⟩
theorem kt : Kt (KK R) ZZ := ⟨by kernel_rfl, by kernel_rfl, by kernel_rfl, by kernel_rfl, by kernel_rfl, by kernel_rfl, by kernel_rfl, exB_of (by kernel_rfl), clsI_Lines, by kernel_rfl, by kernel_rfl, by kernel_rfl⟩
theorem whole {P : Program} {w : World} {mg : Str → Option Value} {base : Heap} (X : (KK R).In base) (G : base.Ns mainGlobals mg) (hSy : ∃ m, base.Ns sysModules m) (hN : base.NoDigits) : FnG P w (KK R) mg base CX0 8 387 (fdAt (KK R) 387) ["_law_script"] (Td.spLaw (KK R)) := by
  have T : Txt mg := ⟨PySem.W.mg_none_of X G no_all, PySem.W.mg_none_of X G no_bool, PySem.W.mg_none_of X G no_int, PySem.W.mg_none_of X G no_isinstance, PySem.W.mg_none_of X G no_iter, PySem.W.mg_none_of X G no_len, PySem.W.mg_none_of X G no_list, PySem.W.mg_none_of X G no_max, PySem.W.mg_none_of X G no_range, PySem.W.mg_none_of X G no_repr, PySem.W.mg_none_of X G no_sum, PySem.W.mg_none_of X G no_tuple, PySem.W.mg_none_of X G no_zip, ⟨_, PySem.W.mg_of X G nv_MOST_SUMS⟩⟩
  have B : TxtB mg := ⟨PySem.W.mg_none_of X G no_len, PySem.W.mg_none_of X G no_abs, PySem.W.mg_none_of X G no_int, PySem.W.mg_none_of X G no_list⟩
  have Z0 : Er := ZZ
  have FA_Lines : Fa_Lines (KK R) mg ZZ := fa_Lines X G
  have X_BadLines : Cl1 P w (KK R) mg base "BadLines" "part" 72 69 (fdAt (KK R) 69) := cl_BadLines (PySem.W.mg_of X G ns_BadLines)
  have X_BadNumber : Cl1 P w (KK R) mg base "BadNumber" "value" 91 88 (fdAt (KK R) 88) := cl_BadNumber (PySem.W.mg_of X G ns_BadNumber)
  have EC_StayError : EcF (KK R) mg "StayError" 52 := ec_StayError X G
  have EC_BadLines : EcF (KK R) mg "BadLines" 72 := ec_BadLines X G
  have EN_BadLines_part : PySem.W.findIn (KK R) (.ref 72) "part" = some none := by kernel_rfl
  have M_Lines : Mk (KK R) 270 186 := mk_Lines
  have G__law_pen : CalP P w (KK R) mg base "_law_pen" 1 [("_law_script" : Str)] (spPen (KK R)) 317 (fdAt (KK R) 317) := ⟨ok_pen fn__law_pen B, PySem.W.mg_of X G ns__law_pen, fn__law_pen.kp, bi__law_pen⟩
  have G__law_pick : FD P w (KK R) mg base "_law_pick" 2 [("_law_pen_here" : Str), ("_law_some" : Str)] (S__law_pick (KK R) ZZ) 331 (fdAt (KK R) 331) := ⟨pick_D (ok_pick fn__law_pick B fn__law_draw (PySem.W.mg_of X G ns__law_draw) bi__law_draw), PySem.W.mg_of X G ns__law_pick, fn__law_pick.kp, bi__law_pick⟩
  have C__law_chain := c__law_chain (P := P) (w := w) (K := KK R) (Z := ZZ) fd__law_chain T hN G__law_pick
  have G__law_chain : FD P w (KK R) mg base "_law_chain" 3 [("_law_pen_here" : Str)] (S__law_chain (KK R) ZZ) 336 (fdAt (KK R) 336) := ⟨C__law_chain, PySem.W.mg_of X G ns__law_chain, fd__law_chain.kp, bi__law_chain⟩
  have C_is_sequence := c_is_sequence (P := P) (w := w) (K := KK R) (Z := ZZ) fd_is_sequence T hN 
  have G_is_sequence : FD P w (KK R) mg base "is_sequence" 1 [("value" : Str)] (S_is_sequence (KK R) ZZ) 42 (fdAt (KK R) 42) := ⟨C_is_sequence, PySem.W.mg_of X G ns_is_sequence, fd_is_sequence.kp, bi_is_sequence⟩
  have C_is_integer := c_is_integer (P := P) (w := w) (K := KK R) (Z := ZZ) fd_is_integer T hN 
  have G_is_integer : FD P w (KK R) mg base "is_integer" 1 [("value" : Str)] (S_is_integer (KK R) ZZ) 21 (fdAt (KK R) 21) := ⟨C_is_integer, PySem.W.mg_of X G ns_is_integer, fd_is_integer.kp, bi_is_integer⟩
  have C_is_amount := c_is_amount (P := P) (w := w) (K := KK R) (Z := ZZ) fd_is_amount T hN G_is_integer
  have G_is_amount : FD P w (KK R) mg base "is_amount" 2 [("value" : Str)] (S_is_amount (KK R) ZZ) 35 (fdAt (KK R) 35) := ⟨C_is_amount, PySem.W.mg_of X G ns_is_amount, fd_is_amount.kp, bi_is_amount⟩
  have C_are_amounts := c_are_amounts (P := P) (w := w) (K := KK R) (Z := ZZ) fd_are_amounts T hN G_is_sequence G_is_amount
  have G_are_amounts : FD P w (KK R) mg base "are_amounts" 3 [("value" : Str)] (S_are_amounts (KK R) ZZ) 157 (fdAt (KK R) 157) := ⟨C_are_amounts, PySem.W.mg_of X G ns_are_amounts, fd_are_amounts.kp, bi_are_amounts⟩
  have C_Lines___init__ := c_Lines___init__ (P := P) (w := w) (K := KK R) (Z := ZZ) fd_Lines___init__ T hN G_are_amounts X_BadLines FA_Lines
  obtain ⟨dd_RI_Lines_2, vv_RI_Lines_2, bb_RI_Lines_2⟩ := (fd_Lines___init__ (R := R)).binds1 (ps := [("self" : Str), ("sums" : Str), ("caps" : Str)]) 3 1 (by simp) rfl (fun T kV doc pm an cdv ct us its h1 h2 => match us, its, h1, h2 with | [u0, u1, u2], [t0], _, _ => ⟨_, rfl, rfl⟩)
  cases vals_nil vv_RI_Lines_2
  have RI_Lines_2 := fri_of C_Lines___init__ bb_RI_Lines_2
  have RK_Lines_caps_sums := fik_of (ks := [("caps" : Str), ("sums" : Str)]) (is := [1, 0]) C_Lines___init__ (kbI_of (ks := [("caps" : Str), ("sums" : Str)]) (is := [1, 0]) (ps := [("self" : Str), ("sums" : Str), ("caps" : Str)]) fd_Lines___init__ (by simp) fun T kV doc pm an cdv ct x1 ws its h1 h2 => match ws, its, h1, h2 with | [u0, u1], [t0], _, _ => ⟨_, rfl, rfl⟩)
  obtain ⟨dd_RI_Lines_1, vv_RI_Lines_1, bb_RI_Lines_1⟩ := (fd_Lines___init__ (R := R)).binds1 (ps := [("self" : Str), ("sums" : Str), ("caps" : Str)]) 2 0 (by simp) rfl (fun T kV doc pm an cdv ct us its h1 h2 => match us, its, h1, h2 with | [u0, u1], [t0], _, _ => ⟨_, rfl, rfl⟩)
  have RI_Lines_1 := fri_dflt C_Lines___init__ bb_RI_Lines_1 vv_RI_Lines_1 (dd := [D.non]) (fun pp G => (.cons .non .nil))
  have C_Lines___len__ := c_Lines___len__ (P := P) (w := w) (K := KK R) (Z := ZZ) fd_Lines___len__ T hN FA_Lines
  have R_Lines___len__ : FR P w (KK R) mg base 1 201 (S_Lines___len__ (KK R) ZZ) := fr_of C_Lines___len__ bi_Lines___len__
  have O_Lines___len__ : Ow (KK R) 270 "__len__" 201 := ow_Lines___len__
  have R_Lines___iter__ : FIt P w (KK R) mg base 1 270 215 "sums" := c_Lines___iter__ (K := KK R) (Z := ZZ) fd_Lines___iter__ bi_Lines___iter__ T FA_Lines
  have O_Lines___iter__ : Ow (KK R) 270 "__iter__" 215 := ow_Lines___iter__
  have C_is_within := c_is_within (P := P) (w := w) (K := KK R) (Z := ZZ) fd_is_within T hN G_is_integer
  have G_is_within : FD P w (KK R) mg base "is_within" 2 [("value" : Str), ("least" : Str), ("most" : Str)] (S_is_within (KK R) ZZ) 28 (fdAt (KK R) 28) := ⟨C_is_within, PySem.W.mg_of X G ns_is_within, fd_is_within.kp, bi_is_within⟩
  have C_Lines___getitem__ := c_Lines___getitem__ (P := P) (w := w) (K := KK R) (Z := ZZ) fd_Lines___getitem__ T hN FA_Lines G_is_within X_BadNumber
  have R_Lines___getitem__ : FR P w (KK R) mg base 3 208 (S_Lines___getitem__ (KK R) ZZ) := fr_of C_Lines___getitem__ bi_Lines___getitem__
  have O_Lines___getitem__ : Ow (KK R) 270 "__getitem__" 208 := ow_Lines___getitem__
  have C_Lines_reach := c_Lines_reach (P := P) (w := w) (K := KK R) (Z := ZZ) fd_Lines_reach T hN FA_Lines G_is_within X_BadNumber
  have R_Lines_reach : FR P w (KK R) mg base 3 222 (S_Lines_reach (KK R) ZZ) := fr_of C_Lines_reach bi_Lines_reach
  have O_Lines_reach : Ow (KK R) 270 "reach" 222 := ow_Lines_reach
  have RK_Lines_reach_j_i := fkw_of (ks := [("j" : Str), ("i" : Str)]) (n := 1) (is := [0, 2, 1]) C_Lines_reach (kb_of (ks := [("j" : Str), ("i" : Str)]) (n := 1) (is := [0, 2, 1]) (ps := [("self" : Str), ("i" : Str), ("j" : Str)]) fd_Lines_reach fun kV doc pm an cdv ct us ws h1 h2 => match us, ws, h1, h2 with | [u0], [t0, t1], _, _ => rfl)
  have C__law_there := c__law_there (P := P) (w := w) (K := KK R) (Z := ZZ) fd__law_there T hN 
  have G__law_there : FD P w (KK R) mg base "_law_there" 1 [("_law_chain_here" : Str), ("_law_low" : Str), ("_law_high" : Str)] (S__law_there (KK R) ZZ) 348 (fdAt (KK R) 348) := ⟨C__law_there, PySem.W.mg_of X G ns__law_there, fd__law_there.kp, bi__law_there⟩
  have C__law_paid := c__law_paid (P := P) (w := w) (K := KK R) (Z := ZZ) fd__law_paid T hN G__law_pick
  have G__law_paid : FD P w (KK R) mg base "_law_paid" 3 [("_law_pen_here" : Str), ("_law_many" : Str)] (S__law_paid (KK R) ZZ) 341 (fdAt (KK R) 341) := ⟨C__law_paid, PySem.W.mg_of X G ns__law_paid, fd__law_paid.kp, bi__law_paid⟩
  have C__law_shorts := c__law_shorts (P := P) (w := w) (K := KK R) (Z := ZZ) fd__law_shorts T hN G__law_there
  have G__law_shorts : FD P w (KK R) mg base "_law_shorts" 2 [("_law_chain_here" : Str), ("_law_paid_here" : Str)] (S__law_shorts (KK R) ZZ) 353 (fdAt (KK R) 353) := ⟨C__law_shorts, PySem.W.mg_of X G ns__law_shorts, fd__law_shorts.kp, bi__law_shorts⟩
  have C_check_spent := c_check_spent (P := P) (w := w) (K := KK R) (Z := ZZ) fd_check_spent T hN G_are_amounts FA_Lines X_BadLines
  have G_check_spent : FD P w (KK R) mg base "check_spent" 4 [("lines" : Str), ("spent" : Str)] (S_check_spent (KK R) ZZ) 171 (fdAt (KK R) 171) := ⟨C_check_spent, PySem.W.mg_of X G ns_check_spent, fd_check_spent.kp, bi_check_spent⟩
  have C_wanted_of := c_wanted_of (P := P) (w := w) (K := KK R) (Z := ZZ) fd_wanted_of T hN 
  have G_wanted_of : FD P w (KK R) mg base "wanted_of" 1 [("sums" : Str), ("spent" : Str)] (S_wanted_of (KK R) ZZ) 281 (fdAt (KK R) 281) := ⟨C_wanted_of, PySem.W.mg_of X G ns_wanted_of, fd_wanted_of.kp, bi_wanted_of⟩
  have C_Lines_wanted := c_Lines_wanted (P := P) (w := w) (K := KK R) (Z := ZZ) fd_Lines_wanted T hN G_check_spent FA_Lines G_wanted_of
  have R_Lines_wanted : FR P w (KK R) mg base 5 229 (S_Lines_wanted (KK R) ZZ) := fr_of C_Lines_wanted bi_Lines_wanted
  have O_Lines_wanted : Ow (KK R) 270 "wanted" 229 := ow_Lines_wanted
  have RK_Lines_wanted_spent := fkw_of (ks := [("spent" : Str)]) (n := 1) (is := [0, 1]) C_Lines_wanted (kb_of (ks := [("spent" : Str)]) (n := 1) (is := [0, 1]) (ps := [("self" : Str), ("spent" : Str)]) fd_Lines_wanted fun kV doc pm an cdv ct us ws h1 h2 => match us, ws, h1, h2 with | [u0], [t0], _, _ => rfl)
  have C__law_into := c__law_into (P := P) (w := w) (K := KK R) (Z := ZZ) fd__law_into T hN 
  have G__law_into : FD P w (KK R) mg base "_law_into" 1 [("_law_chain_here" : Str), ("_law_paid_here" : Str)] (S__law_into (KK R) ZZ) 358 (fdAt (KK R) 358) := ⟨C__law_into, PySem.W.mg_of X G ns__law_into, fd__law_into.kp, bi__law_into⟩
  have C_can_pay := c_can_pay (P := P) (w := w) (K := KK R) (Z := ZZ) fd_can_pay T hN G_wanted_of
  have G_can_pay : FD P w (KK R) mg base "can_pay" 2 [("sums" : Str), ("caps" : Str), ("spent" : Str)] (S_can_pay (KK R) ZZ) 286 (fdAt (KK R) 286) := ⟨C_can_pay, PySem.W.mg_of X G ns_can_pay, fd_can_pay.kp, bi_can_pay⟩
  have C_Lines_can := c_Lines_can (P := P) (w := w) (K := KK R) (Z := ZZ) fd_Lines_can T hN G_check_spent FA_Lines G_can_pay
  have R_Lines_can : FR P w (KK R) mg base 5 236 (S_Lines_can (KK R) ZZ) := fr_of C_Lines_can bi_Lines_can
  have O_Lines_can : Ow (KK R) 270 "can" 236 := ow_Lines_can
  have RK_Lines_can_spent := fkw_of (ks := [("spent" : Str)]) (n := 1) (is := [0, 1]) C_Lines_can (kb_of (ks := [("spent" : Str)]) (n := 1) (is := [0, 1]) (ps := [("self" : Str), ("spent" : Str)]) fd_Lines_can fun kV doc pm an cdv ct us ws h1 h2 => match us, ws, h1, h2 with | [u0], [t0], _, _ => rfl)
  have C_left_with := c_left_with (P := P) (w := w) (K := KK R) (Z := ZZ) fd_left_with T hN 
  have G_left_with : FD P w (KK R) mg base "left_with" 1 [("sums" : Str), ("spent" : Str), ("moves" : Str)] (S_left_with (KK R) ZZ) 291 (fdAt (KK R) 291) := ⟨C_left_with, PySem.W.mg_of X G ns_left_with, fd_left_with.kp, bi_left_with⟩
  have C_Lines_left_by := c_Lines_left_by (P := P) (w := w) (K := KK R) (Z := ZZ) fd_Lines_left_by T hN G_check_spent FA_Lines G_can_pay X_BadLines G_wanted_of G_left_with
  have R_Lines_left_by : FR P w (KK R) mg base 5 243 (S_Lines_left_by (KK R) ZZ) := fr_of C_Lines_left_by bi_Lines_left_by
  have O_Lines_left_by : Ow (KK R) 270 "left_by" 243 := ow_Lines_left_by
  have C__law_told := c__law_told (P := P) (w := w) (K := KK R) (Z := ZZ) fd__law_told T hN O_Lines_left_by R_Lines_left_by FA_Lines EC_StayError EC_BadLines EN_BadLines_part
  have G__law_told : FD P w (KK R) mg base "_law_told" 6 [("_law_made" : Str), ("_law_paid_here" : Str)] (S__law_told (KK R) ZZ) 370 (fdAt (KK R) 370) := ⟨C__law_told, PySem.W.mg_of X G ns__law_told, fd__law_told.kp, bi__law_told⟩
  have C__law_left := c__law_left (P := P) (w := w) (K := KK R) (Z := ZZ) fd__law_left T hN G__law_into
  have G__law_left : FD P w (KK R) mg base "_law_left" 2 [("_law_chain_here" : Str), ("_law_paid_here" : Str)] (S__law_left (KK R) ZZ) 363 (fdAt (KK R) 363) := ⟨C__law_left, PySem.W.mg_of X G ns__law_left, fd__law_left.kp, bi__law_left⟩
  have C_Lines___eq__ := c_Lines___eq__ (P := P) (w := w) (K := KK R) (Z := ZZ) fd_Lines___eq__ T hN FA_Lines
  have R_Lines___eq__ : FR P w (KK R) mg base 1 260 (S_Lines___eq__ (KK R) ZZ) := fr_of C_Lines___eq__ bi_Lines___eq__
  have O_Lines___eq__ : Ow (KK R) 270 "__eq__" 260 := ow_Lines___eq__
  have C__law_right := c__law_right (P := P) (w := w) (K := KK R) (Z := ZZ) fd__law_right T hN hSy G__law_chain FA_Lines M_Lines RI_Lines_2 O_Lines___len__ R_Lines___len__ O_Lines___iter__ R_Lines___iter__ O_Lines___getitem__ R_Lines___getitem__ O_Lines_reach R_Lines_reach G__law_there G__law_paid G__law_shorts O_Lines_wanted R_Lines_wanted G__law_into RK_Lines_wanted_spent O_Lines_can R_Lines_can RK_Lines_can_spent G__law_told G__law_left O_Lines___eq__ R_Lines___eq__ RK_Lines_caps_sums RK_Lines_reach_j_i
  have G__law_right : FG P w (KK R) mg base "_law_right" 7 [("_law_pen_here" : Str)] (S__law_right (KK R) ZZ) 375 (fdAt (KK R) 375) := ⟨C__law_right, PySem.W.mg_of X G ns__law_right, fd__law_right.kp, bi__law_right⟩
  have C_check_other := c_check_other (P := P) (w := w) (K := KK R) (Z := ZZ) fd_check_other T hN FA_Lines X_BadLines
  have G_check_other : FD P w (KK R) mg base "check_other" 3 [("lines" : Str), ("other" : Str)] (S_check_other (KK R) ZZ) 164 (fdAt (KK R) 164) := ⟨C_check_other, PySem.W.mg_of X G ns_check_other, fd_check_other.kp, bi_check_other⟩
  have C_Lines___add__ := c_Lines___add__ (P := P) (w := w) (K := KK R) (Z := ZZ) fd_Lines___add__ T hN G_check_other FA_Lines M_Lines RI_Lines_2
  have R_Lines___add__ : FR P w (KK R) mg base 6 248 (S_Lines___add__ (KK R) ZZ) := fr_of C_Lines___add__ bi_Lines___add__
  have O_Lines___add__ : Ow (KK R) 270 "__add__" 248 := ow_Lines___add__
  have C_Lines___le__ := c_Lines___le__ (P := P) (w := w) (K := KK R) (Z := ZZ) fd_Lines___le__ T hN G_check_other FA_Lines
  have R_Lines___le__ : FR P w (KK R) mg base 4 253 (S_Lines___le__ (KK R) ZZ) := fr_of C_Lines___le__ bi_Lines___le__
  have O_Lines___le__ : Ow (KK R) 270 "__le__" 253 := ow_Lines___le__
  have C__law_pair_right := c__law_pair_right (P := P) (w := w) (K := KK R) (Z := ZZ) fd__law_pair_right T hN hSy G__law_chain G__law_pick FA_Lines M_Lines RI_Lines_2 O_Lines___add__ R_Lines___add__ O_Lines___eq__ R_Lines___eq__ O_Lines___le__ R_Lines___le__
  have G__law_pair_right : FG P w (KK R) mg base "_law_pair_right" 7 [("_law_pen_here" : Str)] (S__law_pair_right (KK R) ZZ) 380 (fdAt (KK R) 380) := ⟨C__law_pair_right, PySem.W.mg_of X G ns__law_pair_right, fd__law_pair_right.kp, bi__law_pair_right⟩
  exact fnG_cx0 (c_law (K := KK R) (Z := ZZ) fd_law T hN hSy G__law_pen G__law_right G__law_pair_right FA_Lines M_Lines RI_Lines_2 O_Lines_can R_Lines_can O_Lines_left_by R_Lines_left_by O_Lines_wanted R_Lines_wanted O_Lines___eq__ R_Lines___eq__ RI_Lines_1 (v_law kt)) fun _ _ _ _ _ h => h
theorem bindsZ (s : Shared) (u : Value) : BindsTo s (fdAt (KK R) 387) ⟨[u], []⟩ [("_law_script", u)] := by
  obtain ⟨oc, od, dV, kV, doc, pm, an, cdv, ct, osl, e, lk, hcd, hD, _⟩ := (fd_law (R := R)).ex
  rw [e]
  rcases hD with ⟨_, rfl⟩ | ⟨e, _⟩
  · exact .of_eq rfl
  · exact absurd rfl e
theorem ns_law0 : PySem.W.nsIn (KK R) mainGlobals "law" = some (some (.ref 387)) := by kernel_rfl
end
end G50
end
section
open PySem PySem.W PyProof.Rows
set_option maxRecDepth 100000 in
set_option maxHeartbeats 0 in
theorem PySem.Challenge.cw_stayhouse_k50_lines_reckoned_holds : PySem.Challenge.rw_stayhouse_k50_lines_reckoned.Holds :=
 hd50 (by
  refine Lw.walk_ofG (l := PySem.Challenge.rw_stayhouse_k50_lines_reckoned) (n := 63) (k := 8) (x := "_law_script") (K := hd50.heap_39) (sp := Td.spLaw) rfl (by decide) rfl ⟨rfl, by decide, by decide⟩ ?I (fun w h Y => PySem.W.kIn_of Y) ?F ?S
  case I => kernel_rfl
  case F =>
    intro w mg fa h KX G hmg
    have e := hmg.symm.trans (PySem.W.mg_of KX G G50.ns_law)
    obtain rfl : fa = 387 := PySem.Value.ref.inj (Option.some.inj e)
    exact ⟨_, G50.bindsZ, fun base X G hS hN => G50.whole X G hS hN⟩
  case S =>
    intro K H a ns hl hO hS
    exact ⟨a, ns, rfl, hS, hl, fun _ => rfl⟩)
end
