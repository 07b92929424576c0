import PyProof.Rows.All
import Wide.All
import OpenK.AllK
import Wide.FinOn
import HandS.ForExc
import HandS.ExcInit
import HandS.ExcIs
import HandS.IsInst
import HandS.Defaults
import HandS.MakeKw
import HandS.ClsMeth
import HandS.HeadEnd
import PyProof.ReprRoads
import KE.KStateDown
import Lean
import HandS.Head0
import HandS.Head1
import HandS.Head2
import HandS.HeadHook1
import HandS.HeadHook2
import HandS.HeadHook4
import HandS.Lambda
import HandS.EndTab
import HandS.NestedK
import HandS.SetFor
import HandS.Zip
import HandS.FStr
import HandS.TupLe
import PyProof.ReprLen
import HandS.OwnEq
import HandS.Nested
import KE.KSuper
import PySem.Challenge.RW_roundwright_k00_errors_of_all_parts
import HandS.ForMost
set_option Elab.async false
set_option linter.all false
set_option maxRecDepth 100000
set_option maxHeartbeats 4000000
namespace PySem
namespace EX1
open PySem.W PySem.Calls PyProof.Rows PySem.HandSPX
open Builtin Builtin.ObjectAttr
section
variable {M : Model} {A : Around} {E : Value → Shared → Prop} {h : Heap} {g : Array GenState} {d : Drawn} {t : Nat} {os : OsState}
variable {nm q : Str} {C N : Addr} {bs bm bmB : List Value} {hdct : Bool} {sn : List Str} {sub : List Value} {ab : Bool} {col : Option Bool} {dd : Option Addr} {k0 k1 k2 k3 k5 : Option Value} {B newId initId : String} {kw : List (Str × Value)}
theorem check_new_kw (F : ExcBaseFacts B newId initId bmB) (hT : ∀ X : String, bm.contains (.type X) = bmB.contains (.type X)) {rest : List Value} {Q : Unit → Shared → Prop}
    (hC : h.get? C = some (excClassObj nm q C N bs bm hdct sn sub ab col dd k0 k1 k2 k3 k5 newId)) (hq : Q () ⟨h, g, d, t, os⟩) : wpAny M A (checkBuiltinCall newId ⟨.ref C :: rest, kw⟩) Q E ⟨h, g, d, t, os⟩ := by
  have hcont : (Value.ref C :: bm).contains (.type B) = true := by rw [List.contains_cons, hT, F.hasB, Bool.or_true]
  have hstar := F.noStar
  simp only [checkBuiltinCall, F.newKind, F.newSplit, F.newRow]
  repeat (first | refine wpAny_loadPart_at hC ?_ | (refine wpAny_isSubtype_exc hC ?_; rw [hcont]) | refine wpAny_staticBase_exc hC ?_ | refine wpAny_madeBy_exc hC ?_ | simp only [bne_self_eq_false, Bool.false_eq_true, if_false] | wp_step)
  exact hq
end
section
variable {prog : Program} {w : World} {A : Around} {E : Value → Shared → Prop} {R : Result → Shared → Prop} {h : Heap} {g : Array GenState} {d : Drawn} {t : Nat} {os : OsState}
variable {nm q : Str} {C N : Addr} {bs bm bmB : List Value} {hdct : Bool} {sn : List Str} {sub : List Value} {ab : Bool} {col : Option Bool} {dd : Option Addr} {k0 k1 k2 k3 k5 : Option Value} {B newId initId : String} {kw : List (Str × Value)}
theorem new_kw (F : ExcBaseFacts B newId initId bmB) (hT : ∀ X : String, bm.contains (.type X) = bmB.contains (.type X)) {rest : List Value}
    (hC : h.get? C = some (excClassObj nm q C N bs bm hdct sn sub ab col dd k0 k1 k2 k3 k5 newId))
    (hq : R (.ok (.ret (.ref (h.objs.size + 1)))) ⟨(h.push { cls := .type "tuple", data := .seq rest.toArray }).push
      { cls := .ref C, data := .fields #[.ref h.objs.size, .none, .none, .none, .bool false, .none] }, g, d, t, os⟩) (hrest : rest.length ≤ sizeLine) :
    codeAny (model prog w) A (.builtin newId ⟨.ref C :: rest, kw⟩) R ⟨h, g, d, t, os⟩ := by
  have hends := F.ends
  have hcB : (Value.ref C :: bm).contains (.type B) = true := by rw [List.contains_cons, hT, F.hasB, Bool.or_true]
  have hcA : (Value.ref C :: bm).contains (.type "AttributeError") = false := by rw [List.contains_cons, hT, F.noAttr]; rfl
  have hcN : (Value.ref C :: bm).contains (.type "NameError") = false := by rw [List.contains_cons, hT, F.noName]; rfl
  refine codeAny_builtinAt F.entry ?_
  unfold Builtin.«BaseException.__new__»
  refine wpAt_bind ?_
  show wpAt _ _ _ (stack >>= _) _ _ _
  refine wpAt_bind (wpAt_stack fun p below => wpAt_of_wpAny ?_)
  wp_walk
  refine wpAt_of_wpAny ?_
  rw [F.owner]
  repeat (first | with_reducible refine wpAny_madeHere_exc F.canon hC ?_ | with_reducible refine wpAny_loadPart_at hC ?_ | (with_reducible refine wpAny_isSubtype_exc hC ?_; first | rw [hcB] | rw [hcA] | rw [hcN]) | wp_step)
  show R _ _
  rw [Heap.size_push]
  exact hq

theorem type_call_kw (F : ExcBaseFacts B newId initId bmB) (hT : ∀ X : String, bm.contains (.type X) = bmB.contains (.type X)) {rest : List Value} {fI : Addr} {Q : Fin → Shared → Prop}
    (hC : h.get? C = some (excClassObj nm q C N bs bm hdct sn sub ab col dd k0 k1 k2 k3 k5 newId))
    (hi : W.Looks (model prog w) h (typeLookup (.ref C) "__init__") (some (.ref fI))) (hb : ∀ self, W.Looks (model prog w) h (bindSpecial (.ref fI) self) (.ref fI, [self])) (hrest : rest.length ≤ sizeLine)
    (hq : codeAny (model prog w) A (.call (.ref fI) ⟨.ref (h.objs.size + 1) :: rest, kw⟩)
      (fun r s' => match r with | .ok (.ret v) => v = .none ∧ Q (.done (.ret (.ref (h.objs.size + 1)))) s' | .ok _ => False | .error e => E e s')
      ⟨(h.push (W.kdv_tup rest)).push (excO C h.objs.size), g, d, t, os⟩) :
    wpAny (model prog w) A (Builtin.«type.__call__» ⟨.ref C :: rest, kw⟩) Q E ⟨h, g, d, t, os⟩ := by
  repeat (first | with_reducible refine wpAny_loadPart_at hC ?_ | with_reducible refine wpAny_madeBy_exc hC ?_ | wp_step)
  refine codeAny_call_builtin_code (Code.quiet_builtin _ F.quiet) (check_new_kw F hT hC ?_)
  refine new_kw F hT hC ?_ hrest
  show wpAny _ _ _ _ _ _
  have k : ∀ b o, h.get? b = some o → ((h.push (W.kdv_tup rest)).push (excO C h.objs.size)).get? b = some o := fun b o e => Heap.get?_push_of_some _ (Heap.get?_push_of_some _ e)
  have hC₁ := k _ _ hC
  have hget : ((h.push (W.kdv_tup rest)).push (excO C h.objs.size)).get? (h.objs.size + 1) = some (excO C h.objs.size) := by heap_get
  have hcC : (Value.ref C :: bm).contains (.ref C) = true := by simp
  have i1 := hi.keeps k
  have b1 := (hb (.ref (h.objs.size + 1))).keeps k
  unfold isInstance
  repeat (first | with_reducible refine wpAny_loadPart_at hget ?_ | (with_reducible refine wpAny_isSubtype_exc hC₁ ?_; rw [hcC]) | wp_step)
  show wpAny _ _ (typeLookup (.ref C) _) _ _ _
  refine i1.at ?_
  refine wpAny_holding (wpAny_bind (b1.at ?_))
  refine wpAny_bind (wpAny_call (codeAny_mono hq fun r s' z => ?_))
  rcases r with e | (v | _ | _ | _) <;> first | exact z | exact z.elim | skip
  obtain ⟨rfl, z⟩ := z
  first
    | exact wpAny_pure (wpAny_pure z)
    | (wp_walk; exact z)

theorem call_kw (F : ExcBaseFacts B newId initId bmB) (hT : ∀ X : String, bm.contains (.type X) = bmB.contains (.type X)) {rest : List Value} {fI : Addr}
    (hC : h.get? C = some (excClassObj nm q C N bs bm hdct sn sub ab col dd k0 k1 k2 k3 k5 newId))
    (hi : W.Looks (model prog w) h (typeLookup (.ref C) "__init__") (some (.ref fI))) (hb : ∀ self, W.Looks (model prog w) h (bindSpecial (.ref fI) self) (.ref fI, [self])) (hrest : rest.length ≤ sizeLine)
    (hq : codeAny (model prog w) (A.under (.builtin "type.__call__" ⟨.ref C :: rest, kw⟩)) (.call (.ref fI) ⟨.ref (h.objs.size + 1) :: rest, kw⟩) (W.InitBack (h.objs.size + 1) R)
      ⟨(h.push (W.kdv_tup rest)).push (excO C h.objs.size), g, d, t, os⟩) :
    codeAny (model prog w) A (.call (.ref C) ⟨rest, kw⟩) R ⟨h, g, d, t, os⟩ := by
  have f1 := tc_lookup
  have f2 := tc_bind (.ref C)
  have hTy : (⟨h, g, d, t, os⟩ : Shared).TypeIs (.ref C) "type" := ⟨_, hC, rfl⟩
  refine codeAny_of_tree ?_
  show wpAny _ _ (callAny (.ref C) _) _ _ _
  repeat (any_goals (first | assumption | with_reducible refine wpAny_loadPart_at hC ?_ | wp_step))
  refine ⟨rfl, ?_⟩
  refine codeAny_call_builtin_at (Code.quiet_builtin _ (by decide +kernel)) entry_typeCall (wpAny_check_type_call_sub hC (type_call_kw F hT hC hi hb hrest ?_))
  refine codeAny_mono hq fun r s' z => ?_
  rcases r with e | (v | _ | _ | _) <;> exact z
end
end EX1
end PySem

namespace L2
open PySem PySem.Spec PyProof.Rows
/-! ### an own exception as a value -/
/-- C(e, .., k = v, ..), C's own (or inherited) __init__ keeping sp: what stands at a is an exception of C -/
def tMkE (C : Addr) (sp : Sp) (gV : List V → List V → List V) (ta tk : TA) : TE := fun σ H Q => ta σ H fun vs H1 => tk σ H1 fun zs H2 => vs.length ≤ 1000 ∧ ∀ a, H2 a = none → sp (gV (.ref a :: vs) zs) (upd H2 a (exo a C none)) (fun v H3 => v = .non ∧ Q (.ref a) H3) (fun _ _ _ => False)
section
variable {X : Cx} {CX : CXT} {C fI : Addr} {k : Nat} {fd : FuncData} {ps : List Str} {sp : Sp} {x : Str} {p pos : Pos} {e : Expr} {es : List Expr} {kws : List Keyword} {ta tk : TA}
theorem run_mkE {pins : List (Addr × Obj)} {σ : St} {H : Hp} {s : Shared} {Q : VK} {us ws : List Value} {vs zs : List V} {ks : List Str} {g : List Value → List Value → List Value} {gV : List V → List V → List V}
    (T : OexC X.K C) (iC : PySem.W.findIn X.K (.ref C) "__init__" = some (some (.ref fI))) (tI : PySem.W.typeIn X.K (.ref fI) = some (.type "function"))
    (F1 : FnOk X.prog X.w X.K X.mg X.base CX k fI fd ps sp) (hr : Room (k + 1) X.A) (hx : Passes CX X (fun _ _ _ => False))
    (hbt : ∀ (s : Shared) (a : Addr), X.K.In s.heap → BindsTo s fd ⟨.ref a :: us, ks.zip ws⟩ (ps.zip (g (.ref a :: us) ws)))
    (hrel : ∀ a : Addr, Vals (gV (.ref a :: vs) zs) (g (.ref a :: us) ws))
    (I : Inv X pins σ H s) (r : Vals vs us) (hz : vs.length ≤ 1000)
    (h : ∀ a, H a = none → sp (gV (.ref a :: vs) zs) (upd H a (exo a C none)) (fun v H2 => v = .non ∧ Q (.ref a) H2) (fun _ _ _ => False)) :
    wpAny (model X.prog X.w) X.A (call (.ref C) us (ks.zip ws)) (EP X pins σ Q) X.xe s := by
  obtain ⟨nm, q, N, bs, bm, sn, sub, ab, col, dd, k0, k1, k2, k3, k5, hC, hbm⟩ := T.cls
  obtain ⟨hp, gg, dr, tk, os⟩ := s
  have hsz : hp.objs.size ≤ hp.objs.size + 1 := Nat.le_succ _
  have hn : H (hp.objs.size + 1) = none := I.hok.fresh hsz
  have hq := h (hp.objs.size + 1) hn
  have kk : ∀ b o, hp.get? b = some o → ((hp.push (PySem.W.kdv_tup us)).push (PySem.HandSPX.excO C hp.objs.size)).get? b = some o := fun b o e => Heap.get?_push_of_some _ (Heap.get?_push_of_some _ e)
  have hget : ((hp.push (PySem.W.kdv_tup us)).push (PySem.HandSPX.excO C hp.objs.size)).get? (hp.objs.size + 1) = some (PySem.HandSPX.excO C hp.objs.size) := by heap_get
  have I2 : Inv X pins σ (upd H (hp.objs.size + 1) (exo (hp.objs.size + 1) C none)) ⟨(hp.push (PySem.W.kdv_tup us)).push (PySem.HandSPX.excO C hp.objs.size), gg, dr, tk, os⟩ :=
    I.laid (t' := tk) (a := hp.objs.size + 1) (o := exo (hp.objs.size + 1) C none) (h' := (hp.push (PySem.W.kdv_tup us)).push (PySem.HandSPX.excO C hp.objs.size)) kk hsz (exo_ok hget)
  have r2 := hrel (hp.objs.size + 1)
  have hus : us.length ≤ sizeLine := by
    rw [← Paired.length r, sizeLine_eq]
    omega
  refine wpAny_call (PySem.EX1.call_kw F.excBase_ValueError (fun Y => PySem.HandSPX.refsVE_contains Y bm hbm) (I.kIn _ _ hC) (PySem.W.looks_findIn I.kIn iC) (fun self => PySem.W.bind_fn I.kIn self tI) hus
    (codeAny_mono (F1.run _ X.stack _ _ ⟨Value.ref (hp.objs.size + 1) :: us, ks.zip ws⟩ (g (Value.ref (hp.objs.size + 1) :: us) ws) _ _ (fun _ _ _ => False) (hr.make C us (ks.zip ws)) (I2.env0.make C us (ks.zip ws)) (hbt _ _ I2.kIn) r2 hq) fun r s' hq' => ?_))
  cases r with
  | error er => exact hx pins σ _ _ er s' I2 hq'
  | ok fl =>
    cases fl with
    | ret u =>
      obtain ⟨v, H', I3, rv, ev, q3⟩ := I2.after hq'
      subst ev
      exact ⟨rv, ⟨V.ref (hp.objs.size + 1), H', I3, rfl, q3⟩⟩
    | next => exact False.elim hq'
    | brk => exact False.elim hq'
    | cont => exact False.elim hq'
/-- C(e, ..) -/
theorem pe_mkE {ds : List Value} {dvs : List V} (T : OexC X.K C) (iC : PySem.W.findIn X.K (.ref C) "__init__" = some (some (.ref fI))) (tI : PySem.W.typeIn X.K (.ref fI) = some (.type "function"))
    (F1 : FnOk X.prog X.w X.K X.mg X.base CX k fI fd ps sp) (hr : Room (k + 1) X.A) (hb : Binds X.K fd ps ds) (hd : Vals dvs ds) (hx : Passes CX X (fun _ _ _ => False)) (hg : Gl X x) (hm : X.mg x = some (.ref C)) (ha : PA X (e :: es) ta)
    (hdb : (x == ("__debug__" : Str)) = false := by decide) (he : starEach (e :: es) X.env = (false, eval e X.env) :: starEach es X.env := by rfl) (hpl : (backTo pos (starEach es X.env)).any (·.1) = false := by rfl) :
    PE X (.Call (.Name x p) (e :: es) [] pos) (tMkE C sp (fun vs _ => vs ++ dvs) ta tNil) := by
  refine ⟨fun pins s σ H Q I h => ?_⟩
  refine wpAny_Call_Name_kw (ld_glob I hg hm ?_ hdb)
  refine PySem.W.callWith_K (h₀ := X.base) I.ok.mod.kin T.kC (thn (ha.run pos pins s σ H _ I h) fun us s1 ⟨vs, H1, I1, r1, hz, q1⟩ => ⟨I1.kIn, ?_⟩) he hpl
  have lz : ∀ a : Addr, (Value.ref a :: us ++ ds).length = ps.length := fun a => by
    have hn : H1 (s1.heap.objs.size) = none := I1.hok.fresh (Nat.le_refl _)
    have e := F1.len _ _ _ _ (q1 _ hn)
    have e2 : ((V.ref (s1.heap.objs.size) :: vs) ++ dvs).length = (Value.ref a :: us ++ ds).length := by
      simp only [List.cons_append, List.length_cons, List.length_append]
      rw [r1.length, hd.length]
    rw [← e2]
    exact e
  exact run_mkE (ks := []) (ws := []) (zs := []) (g := fun us _ => us ++ ds) (gV := fun vs _ => vs ++ dvs) T iC tI F1 hr hx
    (fun s a X => hb s (.ref a :: us) X (lz a)) (fun a => Vals.append (.cons rfl r1) hd) I1 r1 hz q1
/-- C(k = e) -/
theorem pe_mkEk {ks : List Str} {g : List Value → List Value → List Value} {gV : List V → List V → List V} (T : OexC X.K C) (iC : PySem.W.findIn X.K (.ref C) "__init__" = some (some (.ref fI))) (tI : PySem.W.typeIn X.K (.ref fI) = some (.type "function"))
    (F1 : FnOk X.prog X.w X.K X.mg X.base CX k fI fd ps sp) (hr : Room (k + 1) X.A) (hb : KBn X.K fd ps 1 ks g gV) (hx : Passes CX X (fun _ _ _ => False)) (hg : Gl X x) (hm : X.mg x = some (.ref C)) (hkw : PK X kws tk)
    (hall : (backToKw pos (keywordEach kws X.env)).all (·.1.isSome) = true := by rfl) (hks : (backToKw pos (keywordEach kws X.env)).filterMap (·.1) = ks := by rfl) (hdb : (x == ("__debug__" : Str)) = false := by decide)
    (hpl : ((backTo pos (starEach [] X.env)).any (·.1) || (backToKw pos (keywordEach kws X.env)).any (·.1.isNone)) = false := by rfl) (hkl : kws.length = ks.length := by rfl) :
    PE X (.Call (.Name x p) [] kws pos) (fun σ H Q => tk σ H fun zs H2 => zs.length = ks.length ∧ ∀ a, H2 a = none → sp (gV [.ref a] zs) (upd H2 a (exo a C none)) (fun v H3 => v = .non ∧ Q (.ref a) H3) (fun _ _ _ => False)) := by
  refine ⟨fun pins s σ H Q I h => ?_⟩
  refine wpAny_Call_Name_kw (ld_glob I hg hm ?_ hdb)
  refine PySem.W.callWith_KW0 (h₀ := X.base) I.ok.mod.kin T.kC hall ?_ hpl
  refine thn (hkw.run pos pins s σ H _ I h) fun ws s2 ⟨zs, H2, I2, rz, l2, q2⟩ => ⟨I2.kIn, ?_⟩
  rw [hks]
  exact run_mkE (us := []) (vs := []) (g := g) (gV := gV) T iC tI F1 hr hx (fun s a X => hb.to s [.ref a] ws X rfl (rz.length.symm.trans l2)) (fun a => hb.rel (.cons rfl .nil) rz) I2 .nil (by decide) q2
end
end L2

set_option maxHeartbeats 4000000
namespace PySem.W
open PySem PySem.Spec PySem.Calls PyProof.Rows
section
variable {prog : Program} {w : World} {A : Around} {E : Value → Shared → Prop} {s : Shared} {K : Frag} {x D : Addr} {ox : Obj} {od : Option Obj}
theorem findObj_dataO {C : Addr} {name : Str} {a g : Value} (hc : (clsIn K C).isSome = true) (ha : findIn K (.ref C) name = some (some a)) (hg : specialIn K a "__get__" = some (some g)) (ht : takesIn K a = some true) : findObj K C od name = some (.bind g a) := by
  obtain ⟨cd, hc⟩ := Option.isSome_iff_exists.mp hc
  unfold findObj
  rw [hc, Option.bind_some, ha, Option.bind_some]
  simp [hg, ht]
theorem kin_classO {Q : Option Value → Shared → Prop} (hga : findIn K (.ref D) "__getattribute__" = some (some (.builtin "BaseException.__getattribute__"))) (hgt : findIn K (.ref D) "__getattr__" = some none) (hsub : subIn K (.ref D) (.type "BaseException") = some true)
    (hdct : hasDictIn K D = true) (ha : findIn K (.ref D) "__class__" = some (some (.builtin "object.__class__")))
    (hn : specialIn K (.builtin "object.__class__") "__get__" = some (some (.builtin "getset_descriptor.__get__"))) (htk : takesIn K (.builtin "object.__class__") = some true) (hm : mroIn K D (.type "object") = some true)
    (X : K.In s.heap) (I : InstAt s.heap x ox D od) (h : Q (some (.ref D)) { s with toks := s.toks + 1 }) : wpAny (model prog w) A (getAttr? (.ref x) "__class__") Q E s := by
  have hf : findObj K D od "__class__" = some (.bind (.builtin "getset_descriptor.__get__") (.builtin "object.__class__")) := findObj_dataO (by obtain ⟨cd, hc, _⟩ := any_some hdct; rw [hc]; rfl) ha hn htk
  obtain ⟨hp, g, d, t, os⟩ := s
  have L0 := I.type (M := model prog w)
  have L1 := looks_findIn (M := model prog w) X hga
  have L2 := looks_findIn (M := model prog w) X hgt
  have L3 := looks_find (M := model prog w) X I hf
  have sub : Looks (model prog w) hp (isInstance (.ref x) (.type "BaseException")) true := L0.andThen (looks_subIn X hsub)
  have hx0 : (false && onTheHeap (Value.builtin "BaseException.__getattribute__")) = false := rfl
  have hx2 : (Value.builtin "BaseException.__getattribute__" == Value.builtin "object.__getattribute__") = false := by decide +kernel
  have hx1 : (onTheHeap (Value.ref D) && Value.builtin "BaseException.__getattribute__" == Value.builtin "object.__getattribute__") = false := by rw [hx2]; rfl
  unfold getAttr? getAttrBy? getAttrBy
  refine wpAny_bind (wpAny_mkText (wpAny_bind (wpAny_attempt (wpAny_holding (wpAny_bind (L0.at (wpAny_bind (L1.at ?_))))))))
  show wpAny _ _ (if (onTheHeap (Value.ref D) && Value.builtin "BaseException.__getattribute__" == Value.builtin "object.__getattribute__") = true then _ else _) _ _ _
  rw [hx1, if_neg Bool.false_ne_true]
  unfold getAttrByItsOwn hookBefore
  refine wpAny_bind ?_
  rw [if_pos (show onTheHeap (Value.ref D) = true from rfl)]
  refine L2.at ?_
  refine wpAny_bind (wpAny_attempt (wpAny_holding ?_))
  unfold callGetattribute
  rw [hx0, if_neg Bool.false_ne_true]
  unfold boundAndCalled
  rw [PySem.F.excAttr_ValueError.ga.bind (.ref x)]
  refine wpAny_bind (wpAny_pure ?_)
  show wpAny _ _ (call (.builtin "BaseException.__getattribute__") [.ref x, .str "__class__" t]) _ _ _
  refine wpAny_call (codeAny_call_builtin PySem.F.excAttr_ValueError.ga.plain PySem.F.entry_bexc_ga ?_)
  refine @check_slot (model prog w) _ _ ⟨hp, g, d, t + 1, os⟩ "BaseException.__getattribute__" "BaseException" "__getattribute__" (.ref x) [.str "__class__" t] [] _ (by decide +kernel) (by decide +kernel) sub (PySem.F.args_bexc_ga (.ref x) (.str "__class__" t)) ?_
  unfold Builtin.«object.__getattribute__»
  refine wpAny_bind (wpAny_of_eq (a := ((Value.ref x : Value), [Value.str "__class__" t])) (by first | rfl | (simp only [slotArgs]; rfl)) ?_)
  refine wpAny_bind (wpAny_pure (wpAny_bind (L0.at (wpAny_bind (L3.at ?_)))))
  show wpAny _ _ (holding [Value.builtin "object.__class__"] (call (.builtin "getset_descriptor.__get__") [.builtin "object.__class__", .ref x, .ref D]) >>= ret) _ _ _
  refine wpAny_bind (wpAny_holding (wpAny_call (class_get (s := ⟨hp, g, d, t + 1, os⟩) (ox := ox) (od := od) X I hm ?_)))
  refine wpAny_pure ?_
  show wpAny _ _ (handedOut (.ref D)) _ _ _
  rw [handedOut_of (v := .ref D) rfl]
  first
    | exact wpAny_pure (wpAny_pure h)
    | exact wpAny_pure h
    | exact wpAny_pure (wpAny_bind (wpAny_pure (wpAny_pure h)))
theorem kitx_excO (hga : findIn K (.ref D) "__getattribute__" = some (some (.builtin "BaseException.__getattribute__"))) (hgt : findIn K (.ref D) "__getattr__" = some none) (hsub : subIn K (.ref D) (.type "BaseException") = some true) (hdct : hasDictIn K D = true) (ha : findIn K (.ref D) "__class__" = some (some (.builtin "object.__class__")))
    (hn : specialIn K (.builtin "object.__class__") "__get__" = some (some (.builtin "getset_descriptor.__get__"))) (htk : takesIn K (.builtin "object.__class__") = some true) (hm : mroIn K D (.type "object") = some true) :
    KitX K (.ref x) (.ref D) (fun h => InstAt h x ox D od) where
  ty := fun _ _ _ I => I.type
  it := fun _ _ X _ => by
    obtain ⟨cdD, hcD, _⟩ := any_some hdct
    unfold clsIn at hcD
    split at hcD
    · rename_i c' d' cd' sl' ho
      intro A' Q' E' s' k q
      unfold isType loadHead
      exact wpAny_bind (wpAny_loadPart (k _ _ (X _ _ ho)) (wpAny_pure q))
    · cases hcD
  ne := fun h tp dd its n sl X htp => by
    obtain ⟨cdD, hcD, _⟩ := any_some hdct
    refine Bool.eq_false_iff.mpr fun q => ?_
    have e : D = tp := Value.ref.inj (beq_iff_eq.mp q)
    subst e
    unfold clsIn at hcD
    split at hcD
    · rename_i c' d' cd' sl' ho
      have z := (X _ _ ho).symm.trans htp
      cases z
    · cases hcD
  ca := fun X I k => kin_classO hga hgt hsub hdct ha hn htk hm X I k
end
end PySem.W
namespace L2
open PySem PySem.Spec PyProof.Rows
/-- isinstance(e, c), e an exception that is held as a value -/
def rIsV (K : PySem.W.Frag) : List V → Hp → VK → Prop := fun xs H Q => ∃ (a C : Addr) (d : Option Addr) (c : V) (u : Value) (b : Bool), xs = [.ref a, c] ∧ H a = some (exo a C d) ∧ (∀ dd, d = some dd → ∃ fs, H dd = some (exd dd fs)) ∧ ExcC K C ∧ ClsV c u ∧ PySem.W.kitOne K (.ref C) u = some b ∧ Q (.bl b) H
section
variable {X : Cx} {pins : List (Addr × Obj)} {σ : St} {H : Hp} {s : Shared} {a C : Addr} {d : Option Addr}
theorem exo_inst (I : Inv X pins σ H s) (e : H a = some (exo a C d)) (hd : ∀ dd, d = some dd → ∃ fs, H dd = some (exd dd fs)) : ∃ ox od, PySem.W.InstAt s.heap a ox C od := by
  obtain ⟨t1, ho⟩ := exo_at I.hok e
  cases d with
  | none => exact ⟨_, none, ho, rfl, rfl, trivial⟩
  | some dd =>
    obtain ⟨fs, ed⟩ := hd dd rfl
    obtain ⟨mA, ⟨od, _, _, hoD, _⟩, _⟩ := exd_at I.hok ed
    exact ⟨_, some od, ho, rfl, rfl, hoD⟩
theorem call_isV : CallR X (.builtin "isinstance") (rIsV X.K) := by
  intro pins s σ H xs us Q I r h
  obtain ⟨a, C, d, c, u, b, rfl, ha, hd, T, k, e, q⟩ := h
  obtain ⟨u1, u2, rfl, r1, r2⟩ := vals2 r
  cases (show u1 = Value.ref a from r1)
  have e2 := k.eq r2
  subst e2
  obtain ⟨ox, od, J⟩ := exo_inst I ha hd
  exact PySem.W.kia_one (PySem.W.kitx_excO T.hg T.hk T.hs T.hd T.ha T.hn T.ht T.hm) I.kIn J e (fun z => nomatch z) fun tk => ⟨.bl b, H, I.tok tk, rfl, q⟩
end
/-- e.n, e an exception that is held as a value, with its dict -/
def tExf (K : PySem.W.Frag) (n : Str) (te : TE) : TE := fun σ H Q => te σ H fun x H1 => ∃ (a C d : Addr) (fs : List (Str × V)) (v : V), x = .ref a ∧ ExcC K C ∧ PySem.W.findIn K (.ref C) n = some none ∧ H1 a = some (exo a C (some d)) ∧ H1 d = some (exd d fs) ∧ fs.lookup n = some v ∧ Q v H1
section
variable {X : Cx} {e : Expr} {n : Str} {te : TE} {pos : Pos}
theorem pe_exf (he : PE X e te) (hb : attributeBase e n X.env (eval e X.env) = eval e X.env := by rfl) : PE X (.Attribute e n pos) (tExf X.K n te) := by
  refine ⟨fun pins s σ H Q I h => ?_⟩
  refine attr_of hb (thn (he.run pins s σ H _ I h) fun u s1 hh => ?_)
  obtain ⟨x, H1, I1, rx, a, C, d, fs, v, ex, T, hno, ea, ed, hv, q⟩ := hh
  subst ex
  obtain rfl : u = Value.ref a := rx
  obtain ⟨t1, ho⟩ := exo_at I1.hok ea
  obtain ⟨mA, hns, hr⟩ := exd_at I1.hok ed
  obtain ⟨od, hod, hl⟩ := lookIn_ns hns
  obtain ⟨u, hu, ru⟩ := RelO.some_of (v := v) (o := mA n) (by rw [← hv]; exact hr n)
  have J : PySem.W.InstAt s1.heap a _ C (some od) := ⟨ho, rfl, rfl, hod⟩
  exact HandSPX.exc_get I1.kIn J T.hg T.hk T.hs (PySem.W.findObj_own T.hd hno rfl (by rw [hl, hu])) (handed_of ru) ⟨v, H1, I1.tok _, ru, q⟩
end
/-- C.m(e, ..), C a class of one's own, m a plain def of it: called as it stands -/
structure CDef (K : PySem.W.Frag) (C : Addr) (mc : Value) (m : Str) (f : Addr) : Prop where
  rd : ClX.CRead K C mc
  at_ : PySem.W.findCls K (.ref C) mc m = some (.val (.ref f))
  kp : PySem.W.keepIn K (.ref f) = true
section
variable {X : Cx} {CX : CXT} {k : Nat} {C f : Addr} {mc : Value} {fd : FuncData} {ps : List Str} {sp : Sp} {E : XK} {o e : Expr} {es : List Expr} {m : Str} {pos apos : Pos} {t : TA} {pl : Sem Bool} {ds : List Value} {dvs : List V}
theorem pe_cdef (he : PE X o (tC (.ref C))) (c : CDef X.K C mc m f) (F : FnOk X.prog X.w X.K X.mg X.base CX k f fd ps sp) (hr : Room k X.A) (hb : Binds X.K fd ps ds) (hd : Vals dvs ds) (hx : Passes CX X E) (ha : PA X (e :: es) t)
    (hst : starEach (e :: es) X.env = (false, eval e X.env) :: starEach es X.env := by rfl) (hpl : (backTo pos (starEach es X.env)).any (·.1) = false := by rfl)
    (ht : eval (.Call (.Attribute o m apos) (e :: es) [] pos) X.env = (do
      let ov ← eval o X.env
      standAt apos.atName
      let (f, first) ← holding [ov] (getMethod ov m pl)
      callWith pos f first (backTo pos (starEach (e :: es) X.env)) (backToKw pos (keywordEach [] X.env))) := by rfl) :
    PE X (.Call (.Attribute o m apos) (e :: es) [] pos) (tCall sp dvs E t) := by
  refine ⟨fun pins s σ H Q I h => ?_⟩
  refine PySem.W.methodCall_KW (pl := pl) (thn (he.run pins s σ H (fun v H1 => v = .ref C ∧ H1 = H) I ⟨rfl, rfl⟩) fun u s1 ⟨x, H1, I1, rx, ex, eh⟩ => ?_) ht
  subst ex eh
  obtain rfl : u = Value.ref C := rx
  refine PySem.W.method_cls I1.kIn c.rd.ga (PySem.W.cls_value I1.kIn c.rd.rd c.at_ rfl ?_)
  refine PySem.W.callWith_K (h₀ := X.base) (first := []) I1.ok.mod.kin c.kp (thn (ha.run pos pins _ σ H1 _ (I1.tok _) h) fun us s3 ⟨vs, H2, I3, rv, q2⟩ => ⟨I3.kIn, ?_⟩) hst hpl
  exact run_fn F hr hb hd hx I3 rv q2
end
end L2
#print axioms L2.pe_cdef
#print axioms L2.call_isV
#print axioms L2.pe_exf

set_option maxHeartbeats 4000000
namespace L2
open PySem PySem.Spec PyProof.Rows
/-! ### data with dicts, and repr of it -/
def SysIn (K : PySem.W.Frag) : Prop := ∃ c d es n sl, K.lookup sysModules = some ⟨c, d, .dict es n, sl⟩
def keyD : Key → PyData
  | .inl i => .int i
  | .inr x => .str x
mutual
inductive Dq (K : PySem.W.Frag) (H : Hp) : V → PyData → Prop
  | non : Dq K H .non .none
  | bl (b : Bool) : Dq K H (.bl b) (.bool b)
  | int (i : Int) : Dq K H (.int i) (.int i)
  | str (x : Str) : Dq K H (.str x) (.str x)
  | lst {a : Addr} {xs : List V} {ds : List PyData} : SqL K H a xs → DqAll K H xs ds → Dq K H (.ref a) (.list ds)
  | tup {a : Addr} {xs : List V} {ds : List PyData} : SqT K H a xs → DqAll K H xs ds → Dq K H (.ref a) (.tuple ds)
  | dic {a : Addr} {kvs : List (Key × V)} {ds : List PyData} : H a = some (.dK kvs) → DqAll K H (kvs.map (·.2)) ds → Dq K H (.ref a) (.dict ((kvs.map fun p => keyD p.1).zip ds))
inductive DqAll (K : PySem.W.Frag) (H : Hp) : List V → List PyData → Prop
  | nil : DqAll K H [] []
  | cons {v : V} {vs : List V} {d : PyData} {ds : List PyData} : Dq K H v d → DqAll K H vs ds → DqAll K H (v :: vs) (d :: ds)
end
theorem DqAll.length {K : PySem.W.Frag} {H : Hp} : ∀ {vs : List V} {ds : List PyData}, DqAll K H vs ds → vs.length = ds.length
  | _, _, .nil => rfl
  | _, _, .cons _ t => congrArg Nat.succ t.length
section
variable {X : Cx} {pins : List (Addr × Obj)} {σ : St} {H : Hp} {s : Shared}
theorem keys_reads {h : Heap} {P : Program} {w : World} : ∀ {es : List DictEntry} {vs : List (Key × Value)} {kvs : List (Key × V)}, Pairs (mixKind P w) es vs → KV kvs vs → ReadsAll h (es.map (·.key)) (kvs.map fun p => keyD p.1) []
  | _, _, _, .nil, .nil => .nil
  | _, _, _, .cons (e := e) (kv := kv) h1 h2 h3, .cons (a := p) r1 r2 => by
    obtain ⟨ek, _⟩ := r1
    have h1' : keyIs kv.1 e.key = true := h1
    rw [← ek] at h1'
    have t := keys_reads (h := h) h3 r2
    rcases keyIs_shape h1' with ⟨i, u, e1, e2⟩ | ⟨x, u, e1, e2⟩
    · show ReadsAll h (e.key :: _) (keyD p.1 :: _) ([] ++ [])
      rw [e1, e2]
      exact .cons (Reads.int i u) t
    · show ReadsAll h (e.key :: _) (keyD p.1 :: _) ([] ++ [])
      rw [e1, e2]
      exact .cons (Reads.str x u) t
theorem vals_of_pairs {P : Program} {w : World} : ∀ {es : List DictEntry} {vs : List (Key × Value)} {kvs : List (Key × V)}, Pairs (mixKind P w) es vs → KV kvs vs → Vals (kvs.map (·.2)) (es.map (·.val))
  | _, _, _, .nil, .nil => .nil
  | _, _, _, .cons (e := e) (kv := kv) h1 h2 h3, .cons (a := p) r1 r2 => by
    obtain ⟨_, rv⟩ := r1
    refine .cons ?_ (vals_of_pairs h3 r2)
    show RelV p.2 e.val
    rw [h2]
    exact rv
theorem ne_sys (hS : SysIn X.K) (I : Inv X pins σ H s) {a : Addr} {o : Obj} {its : Array Value} {n : Nat} (e : s.heap.get? a = some o) (d : o.data = .seq its n) : a ≠ sysModules := fun z => by
  obtain ⟨c, dd, es, m, sl, k⟩ := hS
  have q := I.kIn _ _ k
  rw [← z, e] at q
  cases q
  cases d
mutual
theorem Dq.reads (hS : SysIn X.K) (I : Inv X pins σ H s) : ∀ {d : PyData} {v : V} {u : Value}, Dq X.K H v d → RelV v u → ∃ as, Reads s.heap u d as ∧ sysModules ∉ as
  | _, _, _, .non, r => by
    cases r
    exact ⟨_, Reads.none, by simp⟩
  | _, _, _, .bl b, r => by
    cases r
    exact ⟨_, Reads.bool b, by simp⟩
  | _, _, _, .int i, r => by
    obtain ⟨t, rfl⟩ := r
    exact ⟨_, Reads.int i t, by simp⟩
  | _, _, _, .str x, r => by
    obtain ⟨t, rfl⟩ := r
    exact ⟨_, Reads.str x t, by simp⟩
  | _, _, _, .lst hs ha, r => by
    cases r
    obtain ⟨its, rv, ⟨o, n, ho, hc, _, hd⟩, _⟩ := I.list hs
    obtain ⟨as, hr, hn⟩ := DqAll.reads hS I ha rv
    exact ⟨_, Reads.list ho hc hd (by simpa using hr), fun z => (List.mem_cons.mp z).elim (fun q => ne_sys hS I ho hd q.symm) hn⟩
  | _, _, _, .tup hs ha, r => by
    cases r
    obtain ⟨its, rv, ⟨o, ho, hc, n, hd⟩, _⟩ := I.tuple hs
    obtain ⟨as, hr, hn⟩ := DqAll.reads hS I ha rv
    exact ⟨_, Reads.tuple ho hc hd (by simpa using hr), hn⟩
  | _, _, _, .dic (a := a) (kvs := kvs) (ds := ds) hs ha, r => by
    cases r
    obtain ⟨_, hm, vs, rk, o, es, ep, ho, hx, hd, _, hp, _⟩ := (show ObjOk X.prog X.w H s.heap a (.dK kvs) from I.hok a _ hs)
    obtain ⟨as, hr, hn⟩ := DqAll.reads hS I ha (vals_of_pairs hp rk)
    have hl : (kvs.map fun p => keyD p.1).length = ds.length := by rw [← ha.length, List.length_map, List.length_map]
    have e1 : (((kvs.map fun p => keyD p.1).zip ds).map (·.1)) = kvs.map fun p => keyD p.1 := List.map_fst_zip (Nat.le_of_eq hl)
    have e2 : (((kvs.map fun p => keyD p.1).zip ds).map (·.2)) = ds := List.map_snd_zip (Nat.le_of_eq hl.symm)
    refine ⟨_, Reads.dict ho hx.1 hd (as := []) (bs := as) (by rw [e1]; exact keys_reads hp rk) (by rw [e2]; exact hr), fun z => ?_⟩
    rcases List.mem_cons.mp z with q | q
    · exact (beq_eq_false_iff_ne.mp hm) q.symm
    · exact hn (by simpa using q)
theorem DqAll.reads (hS : SysIn X.K) (I : Inv X pins σ H s) : ∀ {ds : List PyData} {vs : List V} {us : List Value}, DqAll X.K H vs ds → Vals vs us → ∃ as, ReadsAll s.heap us ds as ∧ sysModules ∉ as
  | _, _, _, .nil, r => by
    cases r
    exact ⟨_, ReadsAll.nil, by simp⟩
  | _, _, _, .cons h1 h2, r => by
    cases r with
    | cons r1 r2 =>
      obtain ⟨as, q1, n1⟩ := Dq.reads hS I h1 r1
      obtain ⟨bs, q2, n2⟩ := DqAll.reads hS I h2 r2
      exact ⟨_, ReadsAll.cons q1 q2, fun z => (List.mem_append.mp z).elim n1 n2⟩
end
end
/-- repr(x), x a list, a tuple or a dict -/
def rRepr (K : PySem.W.Frag) : List V → Hp → VK → Prop := fun xs H Q => ∃ (a : Addr) (d : PyData), xs = [.ref a] ∧ Dq K H (.ref a) d ∧ d.showable = true ∧ d.depth ≤ 60 ∧ d.shown.length ≤ sizeLine ∧ Q (.str d.shown) H
theorem call_repr {X : Cx} (hS : SysIn X.K) (hg : X.A.guards = some []) (hu : X.A.units + 64 < cLine) : CallR X (.builtin "repr") (rRepr X.K) := by
  intro pins s σ H xs us Q I r h
  obtain ⟨a, d, rfl, hd, h1, h2, h3, q⟩ := h
  obtain ⟨u1, rfl, r1⟩ := vals1 r
  cases (show u1 = Value.ref a from r1)
  obtain ⟨as, hr, hn⟩ := Dq.reads hS I hd (rfl : RelV (.ref a) (Value.ref a))
  exact repr_of_reads' hr h1 (fun _ => hn) hg (by omega) (fun _ _ e => e) (fun h' u tk k => ⟨.str d.shown, H, I.kept k, ⟨u, rfl⟩, q⟩) h3
/-! ### a def that runs where no guard stands (the law's own) -/
structure FnOkG (P : Program) (w : World) (K : PySem.W.Frag) (mg : Str → Option Value) (base : Heap) (CX : CXT) (k : Nat) (f : Addr) (fd : FuncData) (ps : List Str) (sp : Sp) : Prop where
  len : ∀ vs H Q E, sp vs H Q E → vs.length = ps.length
  run : ∀ (A : Around) (outer : List Env) (s : Shared) (H : Hp) (args : Args) (us : List Value) (vs : List V) (Q : VK) (E : XK), A.guards = some [] → Room k A → Env0 P w K mg base A outer s H → BindsTo s fd args (ps.zip us) → Vals vs us → sp vs H Q E →
    codeAny (model P w) A (.call (.ref f) args) (CR CX outer P w H s Q E) s
/-- the same promise, of an Around that is known to be bare -/
theorem FnOk.toG {P : Program} {w : World} {K : PySem.W.Frag} {mg : Str → Option Value} {base : Heap} {CX : CXT} {k : Nat} {f : Addr} {fd : FuncData} {ps : List Str} {sp : Sp} (F : FnOk P w K mg base CX k f fd ps sp) : FnOkG P w K mg base CX k f fd ps sp :=
  ⟨F.len, fun A outer s H args us vs Q E _ hr he hb hv hs => F.run A outer s H args us vs Q E hr he hb hv hs⟩
/-- a run at ONE Around is a promise at all Arounds that are that one -/
theorem fn_ofG {CX : CXT} {P : Program} {w : World} {K : PySem.W.Frag} {mg : Str → Option Value} {base : Heap} {k : Nat} {f : Addr} {name qual : Str} {params : Arguments} {body : List Stmt} {scope : Scope} {dV kV doc pm cdv ct oc : Value} {an od : Option Addr}
    {osl : Array (Option Value)} {N ps : List Str} {sp : Sp} (lk : K.lookup f = some ⟨oc, od, .func (PySem.W.fnOf name qual params body scope dV kV doc pm an cdv ct), osl⟩) (hcd : PySem.W.codeIn K cdv qual = true) (S : FnScope N ps scope)
    (len : ∀ vs H Q E, sp vs H Q E → vs.length = ps.length)
    (hbody : ∀ (A : Around) (outer : List Env) (s : Shared) (H : Hp) (vs : List V) (Q : VK) (E : XK), (A.deeper (envOfC qual scope s.heap.objs.size f cdv)).guards = some [] → Room k (A.deeper (envOfC qual scope s.heap.objs.size f cdv)) → sp vs H Q E →
      ∃ t, PSs (cxOf CX P w K mg base N qual scope f cdv A outer s H E) body t ∧ t { nx := fun _ H' => Q .non H', rt := Q } (start N vs) H) :
    FnOkG P w K mg base CX (k + 1) f (PySem.W.fnOf name qual params body scope dV kV doc pm an cdv ct) ps sp := by
  refine ⟨len, fun A outer s H args us vs Q E hgd hr e0 hb r hsp => ?_⟩
  have hlen := len _ _ _ _ hsp
  have hin : K.In s.heap := e0.mod.kin.keeps fun b o e => (e0.bs b o e).1
  have hlim : s.heap.NoLimit := e0.mod.nolimit.keeps fun b o e => (e0.bs b o e).1
  have hnames : ∀ y ∈ ps.zip us, scope.names.lookup y.1 = some .local ∨ (scope.names.lookup y.1 = some .cell ∧ ((cellsFrom (s.heap.objs.size + 1) scope.names []).lookup y.1).isSome = true) := fun y hy =>
    (S.par y.1 (List.of_mem_zip (show (y.1, y.2) ∈ ps.zip us from hy)).1).elim .inl fun q => .inr ⟨q, PySem.W.cellsFrom_some _ _ _ (.inl q)⟩
  refine codeAny_call_function hr.depth (hin _ _ lk) rfl S.co S.gen rfl (PySem.W.codeRec_of hin hcd) (hb _ _ _ _ (wpAny_newFunctionEnv_cells S.kind hnames fun env henv s1 x => ?_))
  cases henv
  obtain ⟨t, ht, hq⟩ := hbody A outer s H vs Q E hgd (hr.deeper _) hsp
  have J0 : Inv (cxOf CX P w K mg base N qual scope f cdv A outer s H E) [] (start N vs) H s1 := inv_start S hr.hd e0 hlen r x
  refine ⟨hlim.keeps x.toInCall.keep, codeAny_func (wpAny_mono (ht.run [] s1 (start N vs) H _ J0 hq) (fun fl s' hs => ?_) fun _ _ hs => hs)⟩
  cases fl with
  | ret u =>
    obtain ⟨v, σ', H', J, rv, q⟩ := hs
    exact ⟨v, H', J.os, J.bare, J.base, J.hok, rv, q⟩
  | next =>
    obtain ⟨σ', H', J, q⟩ := hs
    exact ⟨V.non, H', J.os, J.bare, J.base, J.hok, rfl, q⟩
  | brk =>
    obtain ⟨_, _, _, q⟩ := hs
    cases q
  | cont =>
    obtain ⟨_, _, _, q⟩ := hs
    cases q
theorem FunD.okG {P : Program} {w : World} {K : PySem.W.Frag} {mg : Str → Option Value} {base : Heap} {x qual : Str} {params : Arguments} {body : List Stmt} {scope : Scope} {dvs : List V} {kws : List (Str × V)} {f : Addr} {fd : FuncData} {CX : CXT} {N ps : List Str} {k : Nat} {sp : Sp}
    (F : FunD K x qual params body scope dvs kws f fd) (S : FnScope N ps scope) (len : ∀ vs H Q E, sp vs H Q E → vs.length = ps.length)
    (hbody : ∀ (cdv : Value) (A : Around) (outer : List Env) (s : Shared) (H : Hp) (vs : List V) (Q : VK) (E : XK), (A.deeper (envOfC qual scope s.heap.objs.size f cdv)).guards = some [] → Room k (A.deeper (envOfC qual scope s.heap.objs.size f cdv)) → sp vs H Q E →
      ∃ t, PSs (cxOf CX P w K mg base N qual scope f cdv A outer s H E) body t ∧ t { nx := fun _ H' => Q .non H', rt := Q } (start N vs) H) : FnOkG P w K mg base CX (k + 1) f fd ps sp := by
  obtain ⟨oc, od, dV, kV, doc, pm, an, cdv, ct, osl, rfl, lk, hcd, _, _⟩ := F.ex
  exact fn_ofG lk hcd S len fun A outer s H vs Q E hg hr hsp => hbody cdv A outer s H vs Q E hg hr hsp
/-! ### a law's end -/
theorem law_callG {P : Program} {w : World} {K : PySem.W.Frag} {mg mb : Str → Option Value} {CX : CXT} {k : Nat} {fa a : Addr} {fd : FuncData} {x : Str} {sp : Sp} {s₁ : Shared} {vs : List Value} {ns : List Int}
    (KX : K.In s₁.heap) (hns : s₁.heap.Ns mainGlobals mg) (hb : s₁.heap.Ns builtinsNs mb) (hbb : ∀ x : Str, x ≠ "__name__" → mb x = bootBuiltins x) (hlim : s₁.heap.NoLimit) (hg : s₁.gens = #[])
    (ha : s₁.heap.get? a = some { cls := .type "list", data := .seq vs.toArray }) (hi : IntsAre vs ns) (hl : ns.length ≤ sizeLine) (hr : Room k callerA)
    (F : ∀ base : Heap, K.In base → base.Ns mainGlobals mg → FnOkG P w K mg base CX k fa fd [x] sp) (hbind : ∀ (s : Shared) (u : Value), BindsTo s fd ⟨[u], []⟩ [(x, u)])
    (hsp : ∀ H : Hp, Only H → SqL K H a (ns.map V.int) → sp [.ref a] H (fun v _ => v = .bl true) fun _ _ _ => False)
    (hCX : ∀ H e s', CX [] H s₁ (fun _ _ _ => False) e s' → False) :
    codeAny (model P w) callerA (.call (.ref fa) ⟨[.ref a], []⟩) (fun r s' => r = .ok (.ret (.bool true)) ∧ OldK s₁.heap s'.heap ∧ s'.os = s₁.os ∧ AllBare s'.gens) s₁ := by
  have rv := vals_ints hi
  have lenV := hi.length
  have main : ∀ H : Hp, Only H → SqL K H a (ns.map V.int) → HOk P w H s₁.heap → (∀ b, H b ≠ none → b = a) → (H a ≠ none → K.lookup a = none) →
      codeAny (model P w) callerA (.call (.ref fa) ⟨[.ref a], []⟩) (fun r s' => r = .ok (.ret (.bool true)) ∧ OldK s₁.heap s'.heap ∧ s'.os = s₁.os ∧ AllBare s'.gens) s₁ := by
    intro H hO hS hok hA hK
    have free_dict : ∀ {b : Addr} {o : Obj} {es : Array DictEntry} {ep : Nat}, s₁.heap.get? b = some o → o.data = .dict es ep → H b = none := fun {b o es ep} e dd => by
      by_cases hne : H b = none
      · exact hne
      · have z := hA b hne
        rw [z, ha] at e
        cases e
        cases dd
    have nsK : ∀ {b : Addr} {m : Str → Option Value}, s₁.heap.Ns b m → (hidT s₁.heap H).Ns b m := fun {b m} ⟨o, es, ep, e, dd, rr⟩ => ⟨o, es, ep, hidT_get e (free_dict e dd), dd, rr⟩
    have hKb : K.In (hidT s₁.heap H) := fun b o e => hidT_get (KX b o e) (by
      by_cases hne : H b = none
      · exact hne
      · have z := hA b hne
        rw [z] at hne e
        rw [hK hne] at e
        cases e)
    obtain ⟨mc, l1, l2⟩ := hlim
    have e0 : Env0 P w K mg (hidT s₁.heap H) callerA [] s₁ H := ⟨rfl, ⟨hKb, nsK hns, ⟨mb, nsK hb, hbb⟩, ⟨mc, nsK l1, l2⟩⟩, fun b o e => of_hidT e, Nat.le_of_eq (hidT_size _ _), trivial, fun b hb => absurd (show b ∈ ([] : List Addr) from hb) (by simp), hok, .of_eq hg⟩
    refine codeAny_mono ((F _ hKb (nsK hns)).run callerA [] s₁ H ⟨[.ref a], []⟩ [.ref a] [.ref a] _ _ rfl hr e0 (hbind s₁ (.ref a)) (.cons rfl .nil) (hsp H hO hS)) fun r s' h => ?_
    match r, h with
    | .error er, h => exact (hCX H er s' h).elim
    | .ok .next, h => exact False.elim h
    | .ok .brk, h => exact False.elim h
    | .ok .cont, h => exact False.elim h
    | .ok (.ret u), h =>
      obtain ⟨v, H', hos, bare, un, hok', r', q⟩ := h
      cases (show v = .bl true from q)
      cases (show u = Value.bool true from r')
      refine ⟨rfl, OldK.of_keep fun b o e => ?_, hos, bare⟩
      rcases hO b with z | ⟨ob, xs, z⟩
      · exact un.keep b o e z (fun y => absurd (show b ∈ ([] : List Addr) from y) (by simp)) (by simp)
      · obtain ⟨e1, _⟩ := hok b _ z
        obtain ⟨e2, _⟩ := hok' b _ (un.frzs b ob _ z)
        rw [e] at e1
        cases e1
        exact e2
  by_cases hk : K.lookup a = none
  · refine main (upd (fun _ => none) a (.frz { cls := .type "list", data := .seq vs.toArray } (.lst (ns.map V.int)))) (fun b => ?_) (.inl (.inr ⟨_, upd_same⟩)) (fun b u z => ?_) (fun b z => ?_) fun _ => hk
    · by_cases hb : b = a
      · exact .inr ⟨_, _, by rw [hb]; exact upd_same⟩
      · exact .inl (upd_ne hb)
    · by_cases hb : b = a
      · rw [hb, upd_same] at z
        cases z
        rw [hb]
        exact ⟨ha, by rw [List.length_map]; exact hl, vs, _, rv, ha⟩
      · rw [upd_ne hb] at z
        cases z
    · by_cases hb : b = a
      · exact hb
      · exact absurd (upd_ne hb) z
  · obtain ⟨o, ho⟩ := Option.ne_none_iff_exists'.mp hk
    have e := KX a o ho
    rw [ha] at e
    cases e
    exact main (fun _ => none) (fun _ => .inl rfl) (.inr ⟨_, vs.toArray, _, ho, rfl, rfl, rfl, by rw [List.size_toArray, lenV]; exact hl, by simpa using rv⟩) (fun b u z => by cases (show (none : Option HO) = some u from z)) (fun b z => absurd rfl z) fun z => absurd rfl z
theorem walk_ofG {l : PySem.W.OpenLaw} {n k : Nat} {q : Program} {loose : List Str} {XP : (Str → Option Value) → Heap → Prop} {YP : World → Heap → Prop} {d : DefRec} {CX : CXT} {x : Str}
    (hn : l.most = some n) (hn2 : n ≤ sizeLine) (hdf : d.params.defaults = []) (hr : Room k callerA)
    (F : ∀ (w : World) (mg : Str → Option Value) (fa : Addr) (h : Heap), YP w h → h.Ns mainGlobals mg → mg d.name = some (.ref fa) →
      ∃ (K : PySem.W.Frag) (fd : FuncData) (sp : Sp), K.In h ∧ (∀ (s : Shared) (u : Value), BindsTo s fd ⟨[u], []⟩ [(x, u)]) ∧
        (∀ (H : Hp) (a : Addr) (ns : List Int), ns.length ≤ n → Only H → SqL K H a (ns.map V.int) → sp [.ref a] H (fun v _ => v = .bl true) fun _ _ _ => False) ∧
        ∀ base : Heap, K.In base → base.Ns mainGlobals mg → FnOkG l.prog w K mg base CX k fa fd [x] sp)
    (hCX : ∀ (H : Hp) (s : Shared) (e : Value) (s' : Shared), CX [] H s (fun _ _ _ => False) e s' → False) :
    PySem.W.WalkO q loose XP YP l.row.toRowW d [] (fun f vs => PySem.call f vs) := by
  refine Att.attach_call hn hdf fun w s₀ s₁ mg mb fa o pm cd doc a vs ns G Y ho hd hcd hmg hobj hints hlen hg => ?_
  obtain ⟨K, fd, sp, KX, hb, hsp, hF⟩ := F w mg fa _ Y G.T.g hmg
  exact law_callG KX G.T.g G.T.b G.T.builtins G.T.nolimit hg hobj hints (Nat.le_trans hlen hn2) hr hF hb (fun H hO hS => hsp H a ns hlen hO hS) fun H e s' => hCX H s₁ e s'
end L2
#print axioms L2.walk_ofG
#print axioms L2.call_repr

set_option maxHeartbeats 4000000
/-! ### a head's facts: the defs, and whatever else a Bool over the written part tells -/
namespace He
open PySem PySem.Spec PyProof.Rows L2
abbrev AlZ : Type := AlD × Bool
def frZ (n : Nat) (g : Addr → Option Obj) : PySem.W.Frag := frG g (cStatics :: sysModules :: asD g n)
def obsZ (n : Nat) (fa : List Fa) (fn : List DefD) (ex : PySem.W.Frag → Bool) (g : Addr → Option Obj) : AlZ := (obsD fa fn (frZ n g), ex (frZ n g))
def valZ (fn : List DefD) : AlZ := (valD fn, true)
def hookZ (n : Nat) (fa : List Fa) (fn : List DefD) (ex : PySem.W.Frag → Bool) : PySem.W.Hook where
  α := AlZ
  obs := fun s => obsZ n fa fn ex s.heap.get?
  val := fun _ => valZ fn
  says := fun _ h => ∃ K : PySem.W.Frag, K.In h ∧ SaysD fa fn K ∧ ex K = true
  of := fun w s e => ⟨frZ n s.heap.get?, frG_in, congrArg (fun z : AlZ => z.1) e, congrArg (fun z : AlZ => z.2) e⟩
  keeps := fun _ _ _ ⟨K, hK, c⟩ k => ⟨K, PySem.W.Frag.In.keeps hK k, c⟩
theorem obsZ_eq {n : Nat} {fa : List Fa} {fn : List DefD} {ex : PySem.W.Frag → Bool} {g : Addr → Option Obj} {s : Shared} (h : ∀ a, g a = s.heap.get? a) : obsZ n fa fn ex g = (hookZ n fa fn ex).obs s := by
  have e : g = s.heap.get? := funext h
  rw [e] <;> rfl
/-- an own error class right below R, R right below ValueError -/
def errB (K : PySem.W.Frag) (m : List Value) (C : Addr) : Bool :=
  (match K.lookup C with
    | some ⟨.type "type", _, .cls cd, sl⟩ => cd.mro == .ref C :: m && (!cd.hasDel && (cd.hasDict && (match sl.toList with
      | [_, _, _, _, some (.builtin n), _] => n == "ValueError.__new__"
      | _ => false)))
    | _ => false) &&
  (decide (PySem.W.findIn K (.ref C) "__setattr__" = some (some (.builtin "object.__setattr__"))) && (PySem.W.keepIn K (.ref C) &&
  (decide (PySem.W.findIn K (.ref C) "__getattribute__" = some (some (.builtin "BaseException.__getattribute__"))) && (decide (PySem.W.findIn K (.ref C) "__getattr__" = some none) &&
   decide (PySem.W.findIn K (.ref C) "__class__" = some (some (.builtin "object.__class__")))))))
structure ErrC (K : PySem.W.Frag) (m : List Value) (C : Addr) : Prop where
  ox : OexC K C
  ec : ExcC K C
  cl : ∃ cd, PySem.W.clsIn K C = some cd ∧ cd.mro = .ref C :: m
  ty : PySem.W.typeIn K (.ref C) = some (.type "type")
theorem errB_ok {K : PySem.W.Frag} {m : List Value} {C : Addr} (hm : PySem.HandSPX.refsVE m = true) (h : errB K m C = true) : ErrC K m C := by
  unfold errB at h
  rw [Bool.and_eq_true, Bool.and_eq_true, Bool.and_eq_true, Bool.and_eq_true, Bool.and_eq_true] at h
  obtain ⟨h1, h2, h3, h4, h5, h6⟩ := h
  have h2 := of_decide_eq_true h2
  have h4 := of_decide_eq_true h4
  have h5 := of_decide_eq_true h5
  have h6 := of_decide_eq_true h6
  split at h1
  · rename_i dd cd sl hl
    rw [Bool.and_eq_true, Bool.and_eq_true, Bool.and_eq_true] at h1
    obtain ⟨a1, a2, a3, a4⟩ := h1
    have a1 : cd.mro = .ref C :: m := beq_iff_eq.mp a1
    split at a4
    · rename_i k0 k1 k2 k3 n k5 hs
      have hn : n = "ValueError.__new__" := beq_iff_eq.mp a4
      have hcl : PySem.W.clsIn K C = some cd := by unfold PySem.W.clsIn; rw [hl]
      have hty : PySem.W.typeIn K (.ref C) = some (.type "type") := by show (K.lookup C).map (·.cls) = _; rw [hl]; rfl
      have hdict : PySem.W.hasDictIn K C = true := by unfold PySem.W.hasDictIn; rw [hcl]; exact a3
      have ct : ∀ T : String, (Value.ref C :: m).contains (.type T) = PySem.HandSPX.veTail.contains (.type T) := fun T => by
        rw [List.contains_cons, PySem.HandSPX.refsVE_contains T m hm]; rfl
      have hsub : ∀ T : String, PySem.HandSPX.veTail.contains (.type T) = true → PySem.W.mroIn K C (.type T) = some true := fun T hT => by
        unfold PySem.W.mroIn
        rw [hcl, Option.bind_some, a1, if_neg (by simp), ct T, hT]
      refine ⟨⟨?_, h2, hsub "BaseException" (by decide +kernel), hty, h3⟩, ⟨h4, h5, hsub "BaseException" (by decide +kernel), hdict, h6, by kernel_rfl, by kernel_rfl, hsub "object" (by decide +kernel)⟩, ⟨cd, hcl, a1⟩, hty⟩
      obtain ⟨nm, bs, mro, ns, qn, hd, sn, sub, ab, col, del⟩ := cd
      dsimp only at a1 a2 a3
      subst a1 hn
      have e1 : hd = true := a3
      have e2 : del = false := by simpa using a2
      subst e1 e2
      have hsl : sl = #[k0, k1, k2, k3, some (.builtin "ValueError.__new__"), k5] := by
        obtain ⟨l⟩ := sl
        simp only at hs
        rw [hs]
      subst hsl
      exact ⟨nm, qn, ns, bs, m, sn, sub, ab, col, dd, k0, k1, k2, k3, k5, hl, hm⟩
    · cases a4
  · cases h1
/-- isinstance of an error of C, asked for the class D of the same kind -/
theorem ErrC.kit {K : PySem.W.Frag} {m m' : List Value} {C D : Addr} (c : ErrC K m C) (d : ErrC K m' D) : PySem.W.kitOne K (.ref C) (.ref D) = some ((Value.ref C :: m).contains (.ref D)) := by
  obtain ⟨cd, hc, em⟩ := c.cl
  obtain ⟨dd, hd, _⟩ := d.cl
  unfold PySem.W.kitOne
  by_cases h : C = D
  · subst h
    rw [if_pos (by simp)]
    simp
  · rw [if_neg (by simpa using h)]
    unfold PySem.W.kitCls
    dsimp only
    rw [if_pos (by rw [hd, d.ty]; rfl)]
    show PySem.W.mroIn K C (.ref D) = _
    unfold PySem.W.mroIn
    rw [hc, Option.bind_some, em, if_neg (by simp)]
theorem ErrC.kitT {K : PySem.W.Frag} {m : List Value} {C : Addr} {T : String} (c : ErrC K m C) (hm : PySem.HandSPX.refsVE m = true) (h : PySem.W.kitMeta T = true) : PySem.W.kitOne K (.ref C) (.type T) = some (PySem.HandSPX.veTail.contains (.type T)) := by
  obtain ⟨cd, hc, em⟩ := c.cl
  unfold PySem.W.kitOne
  rw [if_neg (by simp)]
  unfold PySem.W.kitCls
  dsimp only
  rw [if_pos h]
  show PySem.W.mroIn K C (.type T) = _
  unfold PySem.W.mroIn
  rw [hc, Option.bind_some, em, if_neg (by simp), List.contains_cons, PySem.HandSPX.refsVE_contains T m hm]
  rfl
/-- a def read off a class -/
def cdefB (K : PySem.W.Frag) (C : Addr) (m : Str) (f : Addr) : Bool :=
  PySem.W.readsIn K C (.type "type") && (decide (PySem.W.specialIn K (.ref C) "__getattribute__" = some (some (.builtin "type.__getattribute__"))) && (PySem.W.keepIn K (.ref f) && (match PySem.W.findCls K (.ref C) (.type "type") m with
    | some (.val (.ref g)) => g == f
    | _ => false)))
theorem cdefB_ok {K : PySem.W.Frag} {C f : Addr} {m : Str} (h : cdefB K C m f = true) : CDef K C (.type "type") m f := by
  unfold cdefB at h
  rw [Bool.and_eq_true, Bool.and_eq_true, Bool.and_eq_true] at h
  obtain ⟨h1, h2, h3, h4⟩ := h
  refine ⟨⟨h1, of_decide_eq_true h2⟩, ?_, h3⟩
  split at h4
  · rename_i g hg
    rw [hg, beq_iff_eq.mp h4]
  · cases h4
def initB (K : PySem.W.Frag) (C f : Addr) : Bool := decide (PySem.W.findIn K (.ref C) "__init__" = some (some (.ref f))) && decide (PySem.W.typeIn K (.ref f) = some (.type "function"))
theorem initB_ok {K : PySem.W.Frag} {C f : Addr} (h : initB K C f = true) : PySem.W.findIn K (.ref C) "__init__" = some (some (.ref f)) ∧ PySem.W.typeIn K (.ref f) = some (.type "function") :=
  let ⟨a, b⟩ := ba h
  ⟨of_decide_eq_true a, of_decide_eq_true b⟩
def sysB (K : PySem.W.Frag) : Bool := match K.lookup sysModules with
  | some ⟨_, _, .dict _ _, _⟩ => true
  | _ => false
theorem sysB_ok {K : PySem.W.Frag} (h : sysB K = true) : SysIn K := by
  unfold sysB at h
  split at h
  · rename_i c d es n sl hl
    exact ⟨c, d, es, n, sl, hl⟩
  · cases h
end He

set_option maxHeartbeats 4000000
/-! ### ways that meet: what holds behind is said once -/
namespace L2
open PySem PySem.Spec PyProof.Rows
def sJ (t : TS) : TS := fun D σ H => ∃ R : St → Hp → Prop, t { D with nx := R } σ H ∧ ∀ σ' H', R σ' H' → D.nx σ' H'
def eJ (t : TE) : TE := fun σ H Q => ∃ R : VK, t σ H R ∧ ∀ v H', R v H' → Q v H'
def cJ (t : TT) : TT := fun σ H Q => ∃ R : Bool → Hp → Prop, t σ H R ∧ ∀ b H', R b H' → Q b H'
variable {X : Cx}
theorem PS.J {st : Stmt} {t : TS} (h : PS X st t) : PS X st (sJ t) := ⟨fun pins s σ H D I ⟨R, h1, h2⟩ => thn (h.run pins s σ H _ I h1) fun f s' q => by
  cases f with
  | next =>
    obtain ⟨σ', H', J, z⟩ := q
    exact ⟨σ', H', J, h2 _ _ z⟩
  | brk => exact q
  | cont => exact q
  | ret u => exact q⟩
theorem PE.J {e : Expr} {t : TE} (h : PE X e t) : PE X e (eJ t) := ⟨fun pins s σ H Q I ⟨R, h1, h2⟩ => thn (h.run pins s σ H _ I h1) fun u s' ⟨v, H', J, r, z⟩ => ⟨v, H', J, r, h2 _ _ z⟩⟩
theorem PT.J {e : Expr} {t : TT} (h : PT X e t) : PT X e (cJ t) := ⟨fun pins s σ H Q I ⟨R, h1, h2⟩ => thn (h.run pins s σ H _ I h1) fun b s' ⟨H', J, z⟩ => ⟨H', J, h2 _ _ z⟩⟩
end L2

set_option maxHeartbeats 4000000
/-! ### an own error that is raised, caught and kept as a value -/
namespace L2
open PySem PySem.Spec PyProof.Rows
/-- at a: an exception of the class C, its dict d: how it came there is not told -/
def exv (a : Addr) (C : Value) (d : Option Addr) : HO := .ext fun h => ∃ oe : Obj, h.get? a = some oe ∧ oe.cls = C ∧ oe.dict = d ∧ ∃ vs, oe.data = .fields vs
theorem exv_ok {P : Program} {w : World} {H : Hp} {h : Heap} {a : Addr} {C : Value} {d : Option Addr} {oe : Obj} {vs : Array Value} (he : h.get? a = some oe) (hz : Zc C d oe) (hd : oe.data = .fields vs) : ObjOk P w H h a (exv a C d) :=
  ⟨⟨oe, he, hz.1, hz.2, vs, hd⟩, ⟨oe, he⟩, fun _ _ ⟨o, e, r⟩ k => ⟨o, k _ e, r⟩⟩
theorem exv_at {P : Program} {w : World} {H : Hp} {h : Heap} {a : Addr} {C : Value} {d : Option Addr} (hok : HOk P w H h) (e : H a = some (exv a C d)) : ∃ oe : Obj, h.get? a = some oe ∧ oe.cls = C ∧ oe.dict = d ∧ ∃ vs, oe.data = .fields vs := by
  have x : ObjOk P w H h a (.ext fun h => ∃ oe : Obj, h.get? a = some oe ∧ oe.cls = C ∧ oe.dict = d ∧ ∃ vs, oe.data = .fields vs) := hok a _ e
  exact x.1
section
variable {X : Cx} {pins : List (Addr × Obj)} {σ : St} {H : Hp} {s : Shared}
/-- what stands new beside the entry is tracked from now on -/
theorem Inv.track {a : Addr} {o : HO} {oa : Obj} (I : Inv X pins σ H s) (na : H a = none) (h0 : X.s_0.heap.get? a = none) (ha : s.heap.get? a = some oa) (hd : ∀ es ep, oa.data ≠ .dict es ep) (hd2 : ∀ v, oa.data ≠ .cell v) (hp : ∀ p ∈ X.pn ++ pins, p.1 ≠ a)
    (hok : ObjOk X.prog X.w (upd H a o) s.heap a o) : Inv X pins σ (upd H a o) s := by
  have ne0 : ∀ {b : Addr} {ob : Obj}, X.s_0.heap.get? b = some ob → b ≠ a := fun {b ob} e z => by
    rw [z, h0] at e
    cases e
  have nl : X.env.locals ≠ a := fun z => by
    obtain ⟨m, ⟨ob, es, ep, e, dd, _⟩, _⟩ := I.loc
    rw [z, ha] at e
    cases e
    exact hd _ _ dd
  have ncell : ∀ x c, X.env.cells.lookup x = some c → c ≠ a := fun x c e z => by
    obtain ⟨v, ob, e1, e2⟩ := I.cell x c e
    rw [z, ha] at e1
    cases e1
    exact hd2 _ e2
  refine ⟨I.ok, I.os, I.bare, ⟨I.base.keep, I.base.slot, fun b ob e n hx => ?_, I.base.there, fun b xs e => ?_, fun b ob u e => ?_, fun b ps e => ?_⟩, I.loc, I.cell, ?_, fun x c e => ?_, fun p hq => ?_, fun b u e => ?_, I.len⟩
  · rw [upd_ne (ne0 e)]
    exact I.base.free b ob e n hx
  · have z := I.base.tups b xs e
    rw [upd_ne (ne_of_none z na)]
    exact z
  · have z := I.base.frzs b ob u e
    rw [upd_ne (ne_of_none z na)]
    exact z
  · obtain ⟨more, z⟩ := I.base.tbls b ps e
    refine ⟨more, ?_⟩
    rw [upd_ne (ne_of_none z na)]
    exact z
  · rw [upd_ne nl]
    exact I.free
  · rw [upd_ne (ncell x c e)]
    exact I.freeC x c e
  · obtain ⟨q1, q2, q3⟩ := I.pin p hq
    exact ⟨q1, by rw [upd_ne (hp p hq)]; exact q2, q3⟩
  · by_cases hb : b = a
    · subst hb
      rw [upd_same] at e
      cases e
      exact hok
    · rw [upd_ne hb] at e
      exact (I.hok b u e).stay (fun _ _ _ r => r) (fun c r => by rw [upd_ne (ne_of_none r na)]; exact r) fun c xs r => by rw [upd_ne (ne_of_none r na)]; exact r
/-- the context of a suite that knows the exception by what is tracked -/
abbrev Cx.suiteV (X : Cx) (a : Addr) (pn : List (Addr × Obj)) : Cx := { X with A := X.A.mark (some (.ref a)), calm := false, pn := pn, xe := fun _ _ => False }
theorem Inv.suiteV (I : Inv X pins σ H s) (a : Addr) : Inv (X.suiteV a (X.pn ++ pins)) [] σ H s :=
  ⟨I.ok.suite a _, I.os, I.bare, I.base, I.loc, I.cell, I.free, I.freeC, fun p hp => I.pin p (by rw [List.append_nil] at hp; exact hp), I.hok, I.len⟩
theorem Inv.unsuiteV {a : Addr} {pn' : List (Addr × Obj)} (I : Inv (X.suiteV a (X.pn ++ pins)) pn' σ H s) (ok : X.Ok) : Inv X pins σ H s :=
  ⟨ok, I.os, I.bare, I.base, I.loc, I.cell, I.free, I.freeC, fun p hp => I.pin p (List.mem_append_left _ hp), I.hok, I.len⟩
end
/-- what the clause 'except x as n' wishes: the exception is tracked in the suite and behind it -/
def wVal (K : PySem.W.Frag) (c : Value) (i : Nat) (ts : Addr → TS) (Wout : WX) (D : Ends) : WX := fun cls d σ H =>
  ∃ b, PySem.W.exmOne K cls c = some b ∧ (b = true → ∀ a, H a = none → ts a { nx := fun σ' H' => D.nx (σ'.set i none) H', rt := D.rt, bk := fun σ' H' => D.bk (σ'.set i none) H', ct := fun σ' H' => D.ct (σ'.set i none) H' } (σ.set i (some (.ref a))) (upd H a (exv a cls d))) ∧
    (b = false → Wout cls d σ H)
section
variable {X : Cx} {x n : Str} {c : Value} {i : Nat} {body suite : List Stmt} {b₀ : Stmt} {np pos pos' : Pos} {tb : WX → TS} {ts : Addr → TS} {Wout : WX}
/-- try: body / except x as n: suite, the error being tracked from the suite on -/
theorem ps_try_val (hs : X.stack = X.env :: X.outer) (hf : X.env.frame = some X.env.locals) (hex : X.ex = []) (hN : X.N.Nodup) (hi : X.N[i]? = some n) (hln : X.env.kindOf n = some .local) (hc : Names X x c) (tk : Takes X Wout)
    (hb : ∀ (W : WX) (pn : List (Addr × Obj)) (xe : Value → Shared → Prop), Takes (X.tr pn xe) W → PassesOwn (model X.prog X.w) X.A X.env xe → PSs (X.tr pn xe) body (tb W))
    (hsu : ∀ (a : Addr) (pn : List (Addr × Obj)), PSs (X.suiteV a pn) (b₀ :: suite) (ts a)) :
    PS X (.Try body [.ExceptHandler (some (.Name x np)) (some n) (b₀ :: suite) pos'] [] [] pos) (fun D σ H => tb (wVal X.K c i ts Wout D) D σ H) := by
  refine ⟨fun pins s σ H D I h => ?_⟩
  have ok := I.ok
  have hfr : X.A.frames = some (X.env :: X.outer) := by rw [ok.frames, hs]
  refine wpAny_Try_except (wpAny_mono ((hb (wVal X.K c i ts Wout D) (X.pn ++ pins) (fun e s₁ => wpAny (model X.prog X.w) X.A (noteFrame e X.env) (fun _ s₂ => wpAny (model X.prog X.w) X.A (setFlight e none) (fun _ s₃ =>
    wpAny (model X.prog X.w) X.A (handleBy e X.env [.ExceptHandler (some (.Name x np)) (some n) (b₀ :: suite) pos']) (SP X pins D) X.xe s₃) X.xe s₂) X.xe s₁) (fun u s' xx => ?_) PassesOwn.looking).run [] s σ H D (I.toTry _) h) (fun f s1 hsp => ?_) (fun e s1 he => he))
  · obtain ⟨a, B, sI, pins', σ', H', cls, d, rfl, J', nb, up, sky, na, os, ag, b, hb1, hyes, hno⟩ := xx
    have J : Inv X pins σ' H' sI := J'.ofTry ok
    show wpAny (model X.prog X.w) X.A (noteFrame (.ref a) X.env) _ _ _
    refine Sky.land Zc.steady hfr hf (by rw [← hs]; exact sky) fun h3 fl3 up3 => ?_
    have J3 : Inv X pins σ' H' { s' with heap := h3 } := J.landed nb fl3.1 (up.trans up3) os ag
    obtain ⟨oe3, vs3, he3, hz3, hd3⟩ := fl3.there
    have nfr : a ∉ frs (X.env :: X.outer) := fun hm => by
      obtain ⟨_, o', e', hnf⟩ := fl3.2.2.1.mem hm
      rw [he3] at e'
      cases e'
      exact hnf _ hd3
    have Ba : B.get? a = none := fl3.2.1
    have n0 : X.s_0.heap.get? a = none := by
      cases q : X.s_0.heap.get? a with
      | none => rfl
      | some o =>
        obtain ⟨o', q'⟩ := J.base.there a o q (by rw [hex]; simp)
        have z := nb a o' q' (by rw [hs]; exact nfr)
        rw [Ba] at z
        cases z
    have np' : ∀ p ∈ X.pn ++ pins, p.1 ≠ a := fun p hp z => by
      obtain ⟨q1, _, q3, q4, _⟩ := J.pin p hp
      have y := nb p.1 p.2 q1 (by rw [hs, z]; exact nfr)
      rw [z, Ba] at y
      cases y
    have S3 : Inv (X.suiteV a (X.pn ++ pins)) [] σ' H' { s' with heap := h3 } := J3.suiteV a
    refine wpAny_handleBy_cons (codeAny_handlers_test ?_) (by intro q; cases q)
    have LT : PySem.W.Looks (model X.prog X.w) h3 (typeOf (.ref a)) cls := fun A Q E s k q => wpAny_typeOf_ref (k _ _ he3) (by rw [hz3.1]; exact q)
    have LM := PySem.W.exm_one (M := model X.prog X.w) (J3.kIn) LT hb1
    have test : ∀ {Q : Value → Shared → Prop} {E : Value → Shared → Prop}, Q c { s' with heap := h3 } → wpAny (model X.prog X.w) (X.A.mark (some (.ref a))) (eval (.Name x np) X.env) Q E { s' with heap := h3 } := fun {Q E} q => by
      obtain ⟨hg, hdbg, hm | ⟨hm, hv, hnn⟩⟩ := hc
      · exact ld_glob (X := X.suiteV a (X.pn ++ pins)) S3 hg hm q hdbg
      · exact ld_blt (X := X.suiteV a (X.pn ++ pins)) S3 hg hm hv q hnn hdbg
    refine test (LM.here ?_)
    cases b with
    | true =>
      refine codeAny_handlers_suite_as (HandSPX.lands_againZ fl3 fun h4 fl4 up4 => ?_)
      obtain ⟨oe4, vs4, he4, hz4, hd4⟩ := fl4.there
      have J4 : Inv X pins σ' (upd H' a (exv a cls d)) { s' with heap := h4 } :=
        (J.landed (s' := { s' with heap := h4 }) nb fl4.1 ((up.trans up3).trans up4) os ag).track na n0 he4 (fun _ _ z => by rw [hd4] at z; cases z) (fun _ z => by rw [hd4] at z; cases z) np' (exv_ok he4 hz4 hd4)
      have S4 := J4.suiteV a
      refine store_ok (X := X.suiteV a (X.pn ++ pins)) (v := .ref a) S4 hN hi (.inl hln) rfl (fun s5 S5 => ?_) (.inr hln)
      refine wpAny_mono ((hsu a (X.pn ++ pins)).run [] s5 _ _ _ S5 (hyes rfl a na)) (fun f s6 hsp => ?_) (fun _ _ z => False.elim z)
      have fin : ∀ {σ6 : St} {H6 : Hp} {Q : Shared → Prop}, Inv (X.suiteV a (X.pn ++ pins)) [] σ6 H6 s6 → (∀ s7, Inv X pins (σ6.set i none) H6 s7 → Q s7) →
          wpAny (model X.prog X.w) X.A (do bindName X.env n .none; unbindBehindTheSuite X.env n pos') (fun _ s7 => Q s7) X.xe s6 := fun {σ6 H6 Q} S6 hq => gone_ok (S6.unsuiteV ok) hN hi hln hq
      match f, hsp with
      | .next, ⟨σ6, H6, S6, q6⟩ => exact fin S6 fun s7 J7 => ⟨_, _, J7, q6⟩
      | .brk, ⟨σ6, H6, S6, q6⟩ => exact fin S6 fun s7 J7 => ⟨_, _, J7, q6⟩
      | .cont, ⟨σ6, H6, S6, q6⟩ => exact fin S6 fun s7 J7 => ⟨_, _, J7, q6⟩
      | .ret u, ⟨v6, σ6, H6, S6, r6, q6⟩ => exact fin S6 fun s7 J7 => ⟨_, _, _, J7, r6, q6⟩
    | false =>
      show wpAny _ X.A (handleBy (.ref a) X.env []) _ _ _
      refine wpAny_handleBy_nil ?_
      obtain ⟨k1, k2, k3, oe, vs, T, oT, ts', he, hz, hd, h1, hr⟩ := id fl3
      unfold PySem.passOn
      refine wpAny_bind (wpAny_field he hd h1 ?_)
      rw [if_neg (show ¬ ((Value.ref T == Value.none) = true) from by simp)]
      have go : wpAny (model X.prog X.w) X.A (setFlight (.ref a) X.env.frame) (fun _ s4 => wpAny (model X.prog X.w) X.A (throw (.ref a) : Sem Flow) (SP X pins D) X.xe s4) X.xe { s' with heap := h3 } := by
        rw [hf]
        exact HandSPX.setFlight_upZ fl3 fun h4 hh4 up4 => wpAny_throw (tk _ _ ⟨a, B, sI, pins, σ', H', cls, d, rfl, J, nb, (up.trans up3).trans up4, .inr (.inr (by rw [hs]; exact hh4)), na, os, ag, hno rfl⟩)
      first
        | exact wpAny_bind (wpAny_pure (wpAny_bind go))
        | exact wpAny_bind go
  · match f, hsp with
    | .next, ⟨σ', H', J', q⟩ => exact wpAny_execs_nil ⟨σ', H', J'.ofTry ok, q⟩
    | .brk, ⟨σ', H', J', q⟩ => exact ⟨σ', H', J'.ofTry ok, q⟩
    | .cont, ⟨σ', H', J', q⟩ => exact ⟨σ', H', J'.ofTry ok, q⟩
    | .ret u, ⟨v, σ', H', J', r, q⟩ => exact ⟨v, σ', H', J'.ofTry ok, r, q⟩
end
end L2

set_option maxHeartbeats 4000000
namespace L2
open PySem PySem.Spec PyProof.Rows
/-- C(e, ..) that is raised: the error is let go, its dict (if it has one) stays tracked as it is -/
def tMkR (C : Addr) (sp : Sp) (dvs : List V) (ta : TA) : St → Hp → XK → Prop := fun σ H Q => ta σ H fun vs H1 => vs.length ≤ 1000 ∧ ∀ a, H1 a = none → sp (.ref a :: (vs ++ dvs)) (upd H1 a (exo a C none))
  (fun v H2 => v = .non ∧ ∃ d : Option Addr, H2 a = some (exo a C d) ∧ Q (.ref C) d (del H2 a)) (fun _ _ _ => False)
section
variable {X : Cx} {e : Expr} {es : List Expr} {ta : TA} {p pos : Pos}
theorem pmk_err {CX : CXT} {x : Str} {C fI : Addr} {k : Nat} {fd : FuncData} {ps : List Str} {sp : Sp} {ds : List Value} {dvs : List V} (T : OexC X.K C) (iC : PySem.W.findIn X.K (.ref C) "__init__" = some (some (.ref fI))) (tI : PySem.W.typeIn X.K (.ref fI) = some (.type "function"))
    (F1 : FnOk X.prog X.w X.K X.mg X.base CX k fI fd ps sp) (hr : Room (k + 1) X.A) (hb : Binds X.K fd ps ds) (hd : Vals dvs ds) (hx : Passes CX X (fun _ _ _ => False)) (hg : Gl X x) (hm : X.mg x = some (.ref C)) (ha : PA X (e :: es) ta)
    (hdb : (x == ("__debug__" : Str)) = false := by decide) (he : starEach (e :: es) X.env = (false, eval e X.env) :: starEach es X.env := by rfl) (hpl : (backTo pos (starEach es X.env)).any (·.1) = false := by rfl) :
    PMk X (.Call (.Name x p) (e :: es) [] pos) (tMkR C sp dvs ta) := by
  intro pins s σ H Q I h
  obtain ⟨nm, q, N, bs, bm, sn, sub, ab, col, dd, k0, k1, k2, k3, k5, hC, hbm⟩ := T.cls
  refine wpAny_Call_Name_kw (ld_glob I hg hm ?_ hdb)
  refine PySem.W.callWith_K (h₀ := X.base) I.ok.mod.kin T.kC (thn (ha.run pos pins s σ H _ I h) fun us s1 ⟨vs, H1, I1, r1, hz, q1⟩ => ⟨I1.kIn, ?_⟩) he hpl
  show wpAny _ _ (call (.ref C) us) _ _ _
  obtain ⟨hp, g, dr, tk, os⟩ := s1
  have hsz : hp.objs.size ≤ hp.objs.size + 1 := Nat.le_succ _
  have hn : H1 (hp.objs.size + 1) = none := I1.hok.fresh hsz
  have hq := q1 (hp.objs.size + 1) hn
  have kk : ∀ b o, hp.get? b = some o → ((hp.push (PySem.W.kdv_tup us)).push (PySem.HandSPX.excO C hp.objs.size)).get? b = some o := fun b o e => Heap.get?_push_of_some _ (Heap.get?_push_of_some _ e)
  have hget : ((hp.push (PySem.W.kdv_tup us)).push (PySem.HandSPX.excO C hp.objs.size)).get? (hp.objs.size + 1) = some (PySem.HandSPX.excO C hp.objs.size) := by heap_get
  have I2 : Inv X pins σ (upd H1 (hp.objs.size + 1) (exo (hp.objs.size + 1) C none)) ⟨(hp.push (PySem.W.kdv_tup us)).push (PySem.HandSPX.excO C hp.objs.size), g, dr, tk, os⟩ :=
    I1.laid (t' := tk) (a := hp.objs.size + 1) (o := exo (hp.objs.size + 1) C none) (h' := (hp.push (PySem.W.kdv_tup us)).push (PySem.HandSPX.excO C hp.objs.size)) kk hsz (exo_ok hget)
  have r2 : Vals (V.ref (hp.objs.size + 1) :: (vs ++ dvs)) (Value.ref (hp.objs.size + 1) :: (us ++ ds)) := .cons rfl (r1.append hd)
  have hl : (Value.ref (hp.objs.size + 1) :: us ++ ds).length = ps.length := r2.length.symm.trans (F1.len _ _ _ _ hq)
  have hus : us.length ≤ sizeLine := by
    rw [← Paired.length r1, sizeLine_eq]
    omega
  refine wpAny_call (PySem.HandSPX.call_own F.excBase_ValueError (fun Y => PySem.HandSPX.refsVE_contains Y bm hbm) (I1.kIn _ _ hC) (PySem.W.looks_findIn I1.kIn iC) (fun self => PySem.W.bind_fn I1.kIn self tI) hus
    (codeAny_mono (F1.run _ X.stack _ _ ⟨Value.ref (hp.objs.size + 1) :: us, []⟩ (Value.ref (hp.objs.size + 1) :: (us ++ ds)) _ _ (fun _ _ _ => False) (hr.make C us []) (I2.env0.make C us []) (hb _ (Value.ref (hp.objs.size + 1) :: us) I2.kIn hl) r2 hq) fun r s' hq' => ?_))
  match r, hq' with
  | .error er, hq' => exact hx pins σ _ _ er s' I2 hq'
  | .ok .next, hq' => exact False.elim hq'
  | .ok .brk, hq' => exact False.elim hq'
  | .ok .cont, hq' => exact False.elim hq'
  | .ok (.ret u), ⟨v, H2, os2, bare2, un, hok2, rv, ev, d, ea, q2⟩ =>
    subst ev
    obtain ⟨h2, g2, d2, t2, os'⟩ := s'
    refine ⟨rv, ?_⟩
    generalize hA : hp.objs.size + 1 = a at *
    obtain ⟨t0, hoe⟩ := exo_at hok2 ea
    obtain ⟨G, g1', g2'⟩ := restrict h2 fun b => decide (b ≠ a)
    have gk : ∀ b, b ≠ a → G.get? b = h2.get? b := fun b hb => g1' b (decide_eq_true hb)
    have ge : G.get? a = none := g2' a (by simp)
    have nha : ∀ {b : Addr} {o : Obj}, hp.get? b = some o → b ≠ a := fun {b o} z => Nat.ne_of_lt (Nat.lt_of_lt_of_le (Heap.lt_size z) hsz)
    have up : ∀ {b : Addr}, b ≠ a → H1 b = none → upd H1 a (exo a C none) b = none := fun {b} hb n => by rw [upd_ne hb]; exact n
    have U : Un (frs X.stack) [] H1 (del H2 a) hp G := {
      keep := fun b o z n hf hx => by
        rw [gk b (nha z)]
        exact un.keep b o (kk b o z) (up (nha z) n) hf hx
      slot := fun b o z n hf hx => by
        rw [gk b (nha z)]
        exact un.slot b o (kk b o z) (up (nha z) n) hf hx
      free := fun b o z n hx => by
        rw [del_ne (nha z)]
        exact un.free b o (kk b o z) (up (nha z) n) hx
      there := fun b o z hx => by
        rw [gk b (nha z)]
        exact un.there b o (kk b o z) hx
      tups := fun b xs z => by
        rw [del_ne (ne_of_none z hn)]
        exact un.tups b xs (by rw [upd_ne (ne_of_none z hn)]; exact z)
      frzs := fun b o v z => by
        rw [del_ne (ne_of_none z hn)]
        exact un.frzs b o v (by rw [upd_ne (ne_of_none z hn)]; exact z)
      tbls := fun b ps z => by
        rw [del_ne (ne_of_none z hn)]
        exact un.tbls b ps (by rw [upd_ne (ne_of_none z hn)]; exact z) }
    have hok3 : HOk X.prog X.w (del H2 a) G := fun b o z => by
      have hba : b ≠ a := fun e => by
        rw [e, del_same] at z
        cases z
      rw [del_ne hba] at z
      have noa : ∀ {c : Addr}, H2 c = some (.own b) → c ≠ a := fun {c} hc => at_ne ea hc exo_own
      exact (hok2 b o z).stay (fun c v hc y => by
          have hca : c ≠ a := by
            rcases hc with hc | hc
            · rw [hc]
              exact hba
            · exact noa hc
          rw [gk c hca]
          exact y)
        (fun c hc => by rw [del_ne (noa hc)]; exact hc) (fun c xs hc => by rw [del_ne (at_ne ea hc exo_tup)]; exact hc)
    have J : Inv X pins σ (del H2 a) ⟨G, g2, d2, t2, os'⟩ := I1.call' (ch := []) os2 U hok3 bare2 (fun b z => absurd z (by simp))
    exact ⟨a, _, _, ⟨G, g2, d2, t2, os'⟩, _, .ref C, d, rfl, J, fun b o z => by
        by_cases hba : b = a
        · rw [hba, ge] at z
          cases z
        · exact (gk b hba).symm.trans z, ge, hoe, ⟨rfl, rfl⟩, rfl, rfl, del_same, rfl, bare2, raises_own T.exC T.tyC, q2⟩
end
/-! ### what is known of an error behind its catch -/
/-- isinstance of it -/
def rIsC (K : PySem.W.Frag) : List V → Hp → VK → Prop := fun xs H Q => ∃ (a C : Addr) (d : Option Addr) (c : V) (u : Value) (b : Bool), xs = [.ref a, c] ∧ H a = some (exv a (.ref C) d) ∧ (∀ dd, d = some dd → ∃ fs, H dd = some (exd dd fs)) ∧ ExcC K C ∧ ClsV c u ∧ PySem.W.kitOne K (.ref C) u = some b ∧ Q (.bl b) H
section
variable {X : Cx} {pins : List (Addr × Obj)} {σ : St} {H : Hp} {s : Shared} {a C : Addr} {d : Option Addr}
theorem exv_inst (I : Inv X pins σ H s) (e : H a = some (exv a (.ref C) d)) (hd : ∀ dd, d = some dd → ∃ fs, H dd = some (exd dd fs)) : ∃ ox od, PySem.W.InstAt s.heap a ox C od := by
  obtain ⟨oe, ho, h1, h2, vs, h3⟩ := exv_at I.hok e
  have hno : PySem.W.notCls oe = true := by unfold PySem.W.notCls; rw [h3]
  cases d with
  | none => exact ⟨oe, none, ho, h1, hno, by rw [h2]; trivial⟩
  | some dd =>
    obtain ⟨fs, ed⟩ := hd dd rfl
    obtain ⟨mA, ⟨od, _, _, hoD, _⟩, _⟩ := exd_at I.hok ed
    exact ⟨oe, some od, ho, h1, hno, by rw [h2]; exact hoD⟩
theorem call_isC : CallR X (.builtin "isinstance") (rIsC X.K) := by
  intro pins s σ H xs us Q I r h
  obtain ⟨a, C, d, c, u, b, rfl, ha, hd, T, k, e, q⟩ := h
  obtain ⟨u1, u2, rfl, r1, r2⟩ := vals2 r
  cases (show u1 = Value.ref a from r1)
  have e2 := k.eq r2
  subst e2
  obtain ⟨ox, od, J⟩ := exv_inst I ha hd
  exact PySem.W.kia_one (PySem.W.kitx_excO T.hg T.hk T.hs T.hd T.ha T.hn T.ht T.hm) I.kIn J e (fun z => nomatch z) fun tk => ⟨.bl b, H, I.tok tk, rfl, q⟩
end
/-- e.n of it -/
def tExc (K : PySem.W.Frag) (n : Str) (te : TE) : TE := fun σ H Q => te σ H fun x H1 => ∃ (a C d : Addr) (fs : List (Str × V)) (v : V), x = .ref a ∧ ExcC K C ∧ PySem.W.findIn K (.ref C) n = some none ∧ H1 a = some (exv a (.ref C) (some d)) ∧ H1 d = some (exd d fs) ∧ fs.lookup n = some v ∧ Q v H1
section
variable {X : Cx} {e : Expr} {n : Str} {te : TE} {pos : Pos}
theorem pe_exc (he : PE X e te) (hb : attributeBase e n X.env (eval e X.env) = eval e X.env := by rfl) : PE X (.Attribute e n pos) (tExc X.K n te) := by
  refine ⟨fun pins s σ H Q I h => ?_⟩
  refine attr_of hb (thn (he.run pins s σ H _ I h) fun u s1 hh => ?_)
  obtain ⟨x, H1, I1, rx, a, C, d, fs, v, ex, T, hno, ea, ed, hv, q⟩ := hh
  subst ex
  obtain rfl : u = Value.ref a := rx
  obtain ⟨oe, ho, h1, h2, vs, h3⟩ := exv_at I1.hok ea
  obtain ⟨mA, hns, hr⟩ := exd_at I1.hok ed
  obtain ⟨od, hod, hl⟩ := lookIn_ns hns
  obtain ⟨u, hu, ru⟩ := RelO.some_of (v := v) (o := mA n) (by rw [← hv]; exact hr n)
  have J : PySem.W.InstAt s1.heap a oe C (some od) := ⟨ho, h1, by unfold PySem.W.notCls; rw [h3], by rw [h2]; exact hod⟩
  exact HandSPX.exc_get I1.kIn J T.hg T.hk T.hs (PySem.W.findObj_own T.hd hno rfl (by rw [hl, hu])) (handed_of ru) ⟨v, H1, I1.tok _, ru, q⟩
end
end L2

set_option maxHeartbeats 4000000
/-! ### lambdas as values -/
namespace L2
open PySem PySem.Spec PyProof.Rows LamX
/-- at f: the function of a lambda, made of these cells -/
def lamO (q : Str) (cl : List (Str × Addr)) (params : Arguments) (body : Expr) (scope : Scope) (f c' : Addr) : HO := .ext fun h => ∃ pm ctv : Value, h.get? f = some (PySem.W.kla_obj "<lambda>" q params body scope cl pm c' ctv)
theorem lamO_ok {P : Program} {w : World} {H : Hp} {h : Heap} {q : Str} {cl : List (Str × Addr)} {params : Arguments} {body : Expr} {scope : Scope} {f c' : Addr} {pm ctv : Value} (e : h.get? f = some (PySem.W.kla_obj "<lambda>" q params body scope cl pm c' ctv)) :
    ObjOk P w H h f (lamO q cl params body scope f c') := ⟨⟨pm, ctv, e⟩, ⟨_, e⟩, fun _ _ ⟨a, b, z⟩ k => ⟨a, b, k _ z⟩⟩
theorem lamO_at {P : Program} {w : World} {H : Hp} {h : Heap} {q : Str} {cl : List (Str × Addr)} {params : Arguments} {body : Expr} {scope : Scope} {f c' : Addr} (hok : HOk P w H h) (e : H f = some (lamO q cl params body scope f c')) :
    ∃ pm ctv : Value, h.get? f = some (PySem.W.kla_obj "<lambda>" q params body scope cl pm c' ctv) := by
  have x : ObjOk P w H h f (.ext fun h => ∃ pm ctv : Value, h.get? f = some (PySem.W.kla_obj "<lambda>" q params body scope cl pm c' ctv)) := hok f _ e
  exact x.1
/-- a table that grows by one code object -/
theorem tabs_grow {T : List (Addr × Str)} {H : Hp} {P c : Addr} {q : Str} {ps : Array Value} {pos : Pos} (hT : Tabs T H) (hP : H P = some (.tbl ps)) (ht : TriplesOk ps.toList) (ha : ∀ (p : Pos) (cv : Value), codeAmong p ps.toList = some cv → ∃ c, cv = .ref c ∧ H c = some (CodeO c q))
    (nC : H c = none) (hu : ∀ p ∈ T, p.1 = P → p.2 = q) :
    ExtN H (upd (upd H P (.tbl (ps ++ #[rawInt pos.line, rawInt pos.col, .ref c]))) c (CodeO c q)) ∧ Tabs T (upd (upd H P (.tbl (ps ++ #[rawInt pos.line, rawInt pos.col, .ref c]))) c (CodeO c q)) := by
  have hE : ExtN H (upd (upd H P (.tbl (ps ++ #[rawInt pos.line, rawInt pos.col, .ref c]))) c (CodeO c q)) := fun b o e n => by
    have n1 : b ≠ c := ne_of_none e nC
    have n2 : b ≠ P := fun z => by
      rw [z, hP] at e
      exact n ps (Option.some.inj e).symm
    rw [upd_ne n1, upd_ne n2]
    exact e
  have nPc : P ≠ c := ne_of_none hP nC
  refine ⟨hE, fun p hp => ?_⟩
  obtain ⟨ps', a1, a2, a3⟩ := hT p hp
  have old : ∀ {c0 : Addr}, H c0 = some (CodeO c0 p.2) → (upd (upd H P (.tbl (ps ++ #[rawInt pos.line, rawInt pos.col, .ref c]))) c (CodeO c q)) c0 = some (CodeO c0 p.2) := fun z => hE _ _ z codeO_ne
  by_cases hb : p.1 = P
  · have eq : p.2 = q := hu p hp hb
    have el : (ps ++ #[rawInt pos.line, rawInt pos.col, .ref c]).toList = ps.toList ++ [rawInt pos.line, rawInt pos.col, .ref c] := by simp
    refine ⟨_, by rw [hb, upd_ne nPc, upd_same], by rw [el]; exact PySem.TriplesOk_snoc _ _ _ _ ht, fun p' cv hcv => ?_⟩
    rw [el] at hcv
    rcases among_app _ ht hcv with z | z
    · obtain ⟨c0, e1, e2⟩ := ha p' cv z
      exact ⟨c0, e1, old (by rw [eq]; exact e2)⟩
    · exact ⟨c, z, by rw [upd_same, eq]⟩
  · refine ⟨ps', by rw [upd_ne (ne_of_none a1 nC), upd_ne hb]; exact a1, a2, fun p' cv hcv => ?_⟩
    obtain ⟨c0, e1, e2⟩ := a3 p' cv hcv
    exact ⟨c0, e1, old e2⟩
section
variable {X : Cx} {pins : List (Addr × Obj)} {σ : L2.St} {H : Hp} {s : Shared}
/-- what is new in the heap is tracked from now on -/
theorem Inv.track_new {a : Addr} {o : HO} {oa : Obj} {h' : Heap} {tk : Nat} (I : Inv X pins σ H s) (J : Inv X pins σ H { s with heap := h', toks := tk }) (hf : s.heap.objs.size ≤ a) (ha : h'.get? a = some oa) (hd : ∀ es ep, oa.data ≠ .dict es ep) (hd2 : ∀ v, oa.data ≠ .cell v)
    (hok : ObjOk X.prog X.w (upd H a o) h' a o) : Inv X pins σ (upd H a o) { s with heap := h', toks := tk } := by
  have no : ∀ {b : Addr} {ob : Obj}, s.heap.get? b = some ob → b ≠ a := fun e z => Nat.lt_irrefl _ (Nat.lt_of_lt_of_le (Heap.lt_size e) (by rw [z]; exact hf))
  refine J.track (I.hok.fresh hf) ?_ ha hd hd2 (fun p hp => no (I.pin p hp).1) hok
  exact Heap.get?_none_of_le (Nat.le_trans I.sz hf)
/-- lambda: .. -/
theorem lam_make3 {T : List (Addr × Str)} {c P : Addr} {params : Arguments} {body : Expr} {scope : Scope} {pos : Pos} {E : Value → Shared → Prop} {Q : Value → Shared → Prop} (I : Inv X pins σ H s) (TB : TabB X.base X.mg c P) (hcode : X.env.code = .ref c)
    (hm : (P, X.env.qual ++ "<lambda>") ∈ T) (hu : ∀ p ∈ T, p.1 = P → p.2 = X.env.qual ++ "<lambda>") (hT : Tabs T H) (hdef : defaultsOf params X.env = ([], [])) (hfree : ∀ y ∈ scope.names, y.2 = .free → ∃ c, X.env.cells.lookup y.1 = some c)
    (h : ∀ (f c' : Addr) (H1 : Hp) (s' : Shared), ExtN H H1 → Tabs T H1 → H1 f = none → H f = none → H1 c' = some (CodeO c' (X.env.qual ++ "<lambda>")) →
      Inv X pins σ (upd H1 f (lamO (X.env.qual ++ "<lambda>") (cloFrom X.env.cells scope.names []) params body scope f c')) s' → Q (.ref f) s') :
    wpAny (model X.prog X.w) X.A (eval (.Lambda params body scope pos) X.env) Q E s := by
  obtain ⟨ps, hP, ht, ha⟩ := hT _ hm
  refine PySem.W.kla_eval hdef ?_
  have bP : s.heap.BuiltinsAt X.mg P := TB.bm.keeps I.bk
  have hP' : s.heap.get? P = some { cls := .none, data := .fields ps } := I.hok P _ hP
  have nd : ∀ {pm ctv : Value} {c' : Addr}, (∀ es ep, (PySem.W.kla_obj "<lambda>" (X.env.qual ++ "<lambda>") params body scope (cloFrom X.env.cells scope.names []) pm c' ctv).data ≠ .dict es ep) ∧ ∀ v, (PySem.W.kla_obj "<lambda>" (X.env.qual ++ "<lambda>") params body scope (cloFrom X.env.cells scope.names []) pm c' ctv).data ≠ .cell v := by
    intro pm ctv c'
    refine ⟨fun es ep z => ?_, fun v z => ?_⟩ <;> cases z
  cases hc : codeAmong pos ps.toList with
  | none =>
    refine PySem.W.kla_makeFunction (mg := X.mg) (c := c) (P := P) (ps := ps) (closure_ok hfree) I.ok.glob (I.mod.glob.keeps I.bk) hcode (TB.code.keeps I.bk) hP' ht hc TB.gP bP fun c' ctv h' tk hx hge hlt ⟨c2, oc, vs, t, e2, hoc, hd, hv⟩ htb => ?_
    cases e2
    have hsz : s.heap.objs.size ≤ h'.objs.size := Nat.le_trans hge (Nat.le_of_lt hlt)
    have nC : H c' = none := I.hok.fresh hge
    obtain ⟨g1, g2⟩ := tabs_grow (pos := pos) hT hP ht ha nC hu
    have I1 := inv_table (t' := tk) (more := #[rawInt pos.line, rawInt pos.col, .ref c']) (h' := h'.push (PySem.W.kla_obj "<lambda>" (X.env.qual ++ "<lambda>") params body scope (cloFrom X.env.cells scope.names []) ((X.mg "__name__").getD .none) c' ctv)) I hP
      (fun b o hb e => Heap.get?_push_of_some _ (hx b o hb e)) (Heap.get?_push_of_some _ htb) hge ⟨oc, vs, t, Heap.get?_push_of_some _ hoc, hd, hv⟩
    have nf : (upd (upd H P (.tbl (ps ++ #[rawInt pos.line, rawInt pos.col, .ref c']))) c' (CodeO c' (X.env.qual ++ "<lambda>"))) h'.objs.size = none := by
      rw [upd_ne (Nat.ne_of_gt hlt), upd_ne (Nat.ne_of_gt (Nat.lt_of_lt_of_le (Heap.lt_size hP') hsz))]
      exact I.hok.fresh hsz
    refine h h'.objs.size c' _ _ g1 g2 nf (I.hok.fresh hsz) upd_same ?_
    have hget := Heap.get?_push_size (o := PySem.W.kla_obj "<lambda>" (X.env.qual ++ "<lambda>") params body scope (cloFrom X.env.cells scope.names []) ((X.mg "__name__").getD .none) c' ctv) h' rfl
    refine I1.track nf (Heap.get?_none_of_le (Nat.le_trans I.sz hsz)) hget nd.1 nd.2 (fun p hp z => ?_) (lamO_ok hget)
    have e := Heap.lt_size (I.pin p hp).1
    rw [z] at e
    exact Nat.lt_irrefl _ (Nat.lt_of_lt_of_le e hsz)
  | some cv =>
    obtain ⟨c', e, hco⟩ := ha pos cv hc
    subst e
    refine PySem.W.kla_makeFunctionHit (mg := X.mg) (c := c) (P := P) (ps := ps) (closure_ok hfree) I.ok.glob (I.mod.glob.keeps I.bk) hcode (TB.code.keeps I.bk) hP' ht hc bP fun ctv h' tk hx hsz => ?_
    have I1 : Inv X pins σ H { s with heap := h'.push (PySem.W.kla_obj "<lambda>" (X.env.qual ++ "<lambda>") params body scope (cloFrom X.env.cells scope.names []) ((X.mg "__name__").getD .none) c' ctv), toks := tk } := I.kept fun b o e => Heap.get?_push_of_some _ (hx b o e)
    have hget := Heap.get?_push_size (o := PySem.W.kla_obj "<lambda>" (X.env.qual ++ "<lambda>") params body scope (cloFrom X.env.cells scope.names []) ((X.mg "__name__").getD .none) c' ctv) h' rfl
    exact h h'.objs.size c' H _ (ExtN.refl H) hT (I.hok.fresh hsz) (I.hok.fresh hsz) hco (I.track_new I1 hsz hget nd.1 nd.2 (lamO_ok hget))
end
/-- a lambda is made and tracked -/
def tLamV (T : List (Addr × Str)) (q : Str) (cl : List (Str × Addr)) (params : Arguments) (body : Expr) (scope : Scope) : TE := fun σ H Q => Tabs T H ∧ ∀ (f c' : Addr) (H1 : Hp), ExtN H H1 → Tabs T H1 → H1 f = none → H f = none → H1 c' = some (CodeO c' q) → Q (.ref f) (upd H1 f (lamO q cl params body scope f c'))
theorem pe_lamV {X : Cx} {T : List (Addr × Str)} {c P : Addr} {params : Arguments} {body : Expr} {scope : Scope} {pos : Pos} (TB : TabB X.base X.mg c P) (hcode : X.env.code = .ref c)
    (hm : (P, X.env.qual ++ "<lambda>") ∈ T) (hu : ∀ p ∈ T, p.1 = P → p.2 = X.env.qual ++ "<lambda>") (hdef : defaultsOf params X.env = ([], [])) (L : LamS X.env.scope scope) :
    PE X (.Lambda params body scope pos) (tLamV T (X.env.qual ++ "<lambda>") (cloFrom X.env.cells scope.names []) params body scope) :=
  ⟨fun pins s σ H Q I h => lam_make3 I TB hcode hm hu h.1 hdef (L.has I.ok) fun f c' H1 s' e1 e2 e3 e3' e4 J => ⟨.ref f, _, J, rfl, h.2 f c' H1 e1 e2 e3 e3' e4⟩⟩
end L2

set_option maxHeartbeats 4000000
/-! ### the law's own catcher, called with a lambda -/
namespace L2
open PySem PySem.Spec PyProof.Rows LamX
/-- a lambda that a law writes: its parts, and what its body does (errors told by an XK) -/
structure LamK where
  params : Arguments
  body : Expr
  scope : Scope
  t : XK → TE
abbrev lamOf (X : Cx) (κ : LamK) (f c' : Addr) : HO := lamO (X.env.qual ++ "<lambda>") (cloFrom X.env.cells κ.scope.names []) κ.params κ.body κ.scope f c'
structure LamGood (X : Cx) (k : Nat) (κ : LamK) : Prop where
  sc : LamS X.env.scope κ.scope
  bind : ∀ (q : Str) (cl : List (Str × Addr)) (pm cv ctv : Value), bindArgs (PySem.W.kla_fn "<lambda>" q κ.params κ.body κ.scope cl pm cv ctv) ⟨[], []⟩ = pure []
  run : ∀ (A : Around) (outer : List Env) (s : Shared) (H : Hp) (E : XK) (f c' : Addr), Room k (A.deeper (lamEnv X κ.scope s.heap.objs.size f c')) → A.guards = X.A.guards → PE (lamCx X A outer s H E κ.scope f c') κ.body (κ.t E)
theorem takes_lam {X : Cx} {A : Around} {outer : List Env} {s : Shared} {H : Hp} {E : XK} {scope : Scope} {f c' : Addr} : Takes (lamCx X A outer s H E scope f c') (fun cls d _ H' => E cls d H') := takes_of rfl rfl rfl rfl
theorem pass_lam {X : Cx} {A : Around} {outer : List Env} {s : Shared} {H : Hp} {E : XK} {scope : Scope} {f c' : Addr} : Passes (L2.CX X.prog X.w) (lamCx X A outer s H E scope f c') E := passes_call takes_lam fun _ _ _ _ h => h
section
variable {X : Cx} {pins : List (Addr × Obj)} {σ : L2.St} {H HZ : Hp} {s s1 : Shared}
/-- x(), x holding a lambda of the caller's: Z is the context of the def that got it, entered at s -/
theorem pe_actV {CXg : CXT} {Eg : XK} {Ng : List Str} {qg : Str} {sg : Scope} {g f c' : Addr} {cdg : Value} {κ : LamK} {k i : Nat} {a : Str} {pn : List (Addr × Obj)} {xe : Value → Shared → Prop} {W : WX} {E : XK} {q : Str} {p1 p2 : Pos}
    (I : Inv X pins σ H s) (G : LamGood X k κ) (tk : Takes ((cxOf CXg X.prog X.w X.K X.mg X.base Ng qg sg g cdg X.A X.stack s H Eg).tr pn xe) W) (hW : ∀ cls d σ' H', σ'.length = Ng.length → E cls d H' → W cls d σ' H') (hr : Room (k + 1) (X.A.deeper (envOfC qg sg s.heap.objs.size g cdg)))
    (hgu : (X.A.deeper (envOfC qg sg s.heap.objs.size g cdg)).guards = X.A.guards) (hq : q = X.env.qual ++ "<lambda>") (hN : Ng[i]? = some a) (hv : Vis sg a) (hd : (a == ("__debug__" : Str)) = false := by decide) (hcd : (a == ("__classdict__" : Str)) = false := by decide) :
    PE ((cxOf CXg X.prog X.w X.K X.mg X.base Ng qg sg g cdg X.A X.stack s H Eg).tr pn xe) (.Call (.Name a p1) [] [] p2)
      (fun σZ HZ Q => σZ[i]? = some (some (.ref f)) ∧ HZ f = some (lamOf X κ f c') ∧ HZ c' = some (CodeO c' q) ∧ κ.t E σ HZ Q) := by
  subst hq
  refine ⟨fun pinsZ sZ σZ HZ Q IZ h => ?_⟩
  obtain ⟨hs, hf, hc, ht⟩ := h
  refine wpAny_Call_Name_kw (thn ((pe_var (pos := p1) (i := i) hN hv hd hcd).run pinsZ sZ σZ HZ (fun v H1 => v = .ref f ∧ H1 = HZ) IZ ⟨.ref f, hs, rfl, rfl⟩) fun u s1 ⟨v, H1, I1, r1, q1⟩ => ?_)
  obtain ⟨ev, eH⟩ := q1
  subst ev
  rw [eH] at I1
  obtain rfl : u = Value.ref f := r1
  obtain ⟨pm, ctv, of1⟩ := lamO_at I1.hok hf
  refine PySem.W.callWith_F0 ⟨_, _, _, _, of1⟩ ?_
  have un : Un (frs X.stack) [] H HZ s.heap s1.heap := I1.base
  obtain ⟨⟨oc, vs, t, hoc, hdc, hvc⟩, _, _⟩ := I1.hok c' _ hc
  have rc : codeAny (model X.prog X.w) (X.A.deeper (envOfC qg sg s.heap.objs.size g cdg)) (.call (.ref f) ⟨[], []⟩) (CR (L2.CX X.prog X.w) (envOfC qg sg s.heap.objs.size g cdg :: X.stack) X.prog X.w HZ s1 Q E) s1 := by
    refine PySem.W.kla_callFunE hr.depth of1 rfl G.sc.co G.sc.gen rfl ⟨c', oc, vs, t, rfl, hoc, hdc, hvc⟩ ?_
    rw [G.bind]
    refine wpAny_pure (wpAny_newFunctionEnv (fun y hy => (G.sc.own y hy).2) (fun y hy => absurd hy (by simp)) (fun h₁ hns hsb => ⟨I1.nolimit.fresh _ hsb, ?_⟩) G.sc.kind)
    show codeAny _ _ (.expr κ.body (lamEnv X κ.scope s1.heap.objs.size f c')) _ _
    have kp : ∀ b o, s1.heap.get? b = some o → h₁.get? b = some o := fun b o e => hsb.extBut b o (Nat.ne_of_lt (Heap.lt_size e)) (Heap.get?_push_of_some _ e)
    have J : Inv (lamCx X (X.A.deeper (envOfC qg sg s.heap.objs.size g cdg)) (envOfC qg sg s.heap.objs.size g cdg :: X.stack) s1 HZ E κ.scope f c') [] σ HZ { s1 with heap := h₁, toks := s1.toks + ([] : List (Str × Value)).length } :=
      lam_start2 I G.sc I1.env0 hr.hd un hns kp
    refine PySem.W.kla_codeExpr (wpAny_mono ((G.run _ _ s1 HZ E f c' (hr.deeper _) hgu).run [] _ _ HZ Q J ht) (fun v s' hq => ?_) fun e s' hq => hq)
    obtain ⟨w', H', J', rv, q⟩ := hq
    exact ⟨w', H', J'.os, J'.bare, J'.base, J'.hok, rv, q⟩
  have hx : Passes (L2.CX X.prog X.w) ((cxOf CXg X.prog X.w X.K X.mg X.base Ng qg sg g cdg X.A X.stack s H Eg).tr pn xe) E := fun _ σ _ _ e s' I c => tk e s' (XE.of_call I (fun cls d H' h => hW cls d σ H' I.len h) c)
  refine wpAny_call (codeAny_mono rc fun r s' hq => ?_)
  match r, hq with
  | .error e, hq => exact hx pinsZ σZ HZ s1 e s' I1 hq
  | .ok (.ret u), hq => exact I1.after hq
  | .ok .next, hq => exact False.elim hq
  | .ok .brk, hq => exact False.elim hq
  | .ok .cont, hq => exact False.elim hq
end
/-- c = None / try: x() / except y as z: c = z / return c -/
def catchBody (x c y z : Str) (p1 p2 p3 p4 p5 p6 p7 p8 p9 p10 p11 p12 p13 p14 : Pos) (j : Nat) : List Stmt :=
  [.Assign [.Name c p1] (.Constant .none j p2) p3, .Try [.Expr (.Call (.Name x p4) [] [] p5) p6] [.ExceptHandler (some (.Name y p7)) (some z) [.Assign [.Name c p8] (.Name z p9) p10] p11] [] [] p12, .Return (some (.Name c p13)) p14]
/-- caught(e): e a lambda of this def; None, or the error that it raised, tracked -/
def tCaught (X : Cx) (CS : Addr) (q : Str) {ι : Type} (κ : ι → LamK) (te : TE) : TE := fun σ H Q => te σ H fun v H1 => ∃ (i : ι) (f c' : Addr), v = .ref f ∧ H1 f = some (lamOf X (κ i) f c') ∧ H1 c' = some (CodeO c' q) ∧
  (κ i).t (fun cls d H' => PySem.W.exmOne X.K cls (.ref CS) = some true ∧ ∀ a, H' a = none → Q (.ref a) (upd H' a (exv a cls d))) σ H1 (fun _ H' => Q .non H')
section
variable {X : Cx} {ι : Type} {κ : ι → LamK} {k : Nat} {CS g : Addr} {x a c y z : Str} {e : Expr} {te : TE} {p pos : Pos} {q : Str}
theorem pe_caught {pg : Arguments} {bg : List Stmt} {sg : Scope} {dV kV doc pm cdv ct oc : Value} {an od : Option Addr} {osl : Array (Option Value)} {p1 p2 p3 p4 p5 p6 p7 p8 p9 p10 p11 p12 p13 p14 : Pos} {j : Nat}
    (lk : X.K.lookup g = some ⟨oc, od, .func (PySem.W.fnOf x x pg bg sg dV kV doc pm an cdv ct), osl⟩) (hcg : PySem.W.codeIn X.K cdv x = true) (hb : L2.Binds X.K (PySem.W.fnOf x x pg bg sg dV kV doc pm an cdv ct) [a] []) (hbg : bg = catchBody a c y z p1 p2 p3 p4 p5 p6 p7 p8 p9 p10 p11 p12 p13 p14 j)
    (Sg : FnScope [a, c, z] [a] sg) (hva : Vis sg a) (hvc : Vis sg c) (hvz : Vis sg z) (hlc : sg.names.lookup c = some .local) (hlz : sg.names.lookup z = some .local) (hgy : sg.names.lookup y = some .globalImplicit) (hmy : X.mg y = some (.ref CS))
    (he : PE X e te) (hg : Gl X x) (hm : X.mg x = some (.ref g)) (hk : PySem.W.keepIn X.K (.ref g) = true) (hr : Room (k + 2) X.A) (G : ∀ i, LamGood X k (κ i)) (hq : q = X.env.qual ++ "<lambda>")
    (hdb : (x == ("__debug__" : Str)) = false := by decide) (hd : (a == ("__debug__" : Str)) = false := by decide) (hcd : (a == ("__classdict__" : Str)) = false := by decide) (hdc : (c == ("__debug__" : Str)) = false := by decide) (hcdc : (c == ("__classdict__" : Str)) = false := by decide) (hdz : (z == ("__debug__" : Str)) = false := by decide) (hcdz : (z == ("__classdict__" : Str)) = false := by decide) (hdy : (y == ("__debug__" : Str)) = false := by decide)
    (hse : starEach [e] X.env = (false, eval e X.env) :: starEach [] X.env := by rfl) :
    PE X (.Call (.Name x p) [e] [] pos) (tCaught X CS q κ te) := by
  refine ⟨fun pins s σ₀ H Q I h => ?_⟩
  refine wpAny_Call_Name_kw (ld_glob I hg hm ?_ hdb)
  refine PySem.W.callWith_K (h₀ := X.base) I.ok.mod.kin hk (thn ((pa_cons he pa_nil hse).run pos pins s σ₀ H (fun vs H1 => match vs with
    | [v] => ∃ (i : ι) (f c' : Addr), v = .ref f ∧ H1 f = some (lamOf X (κ i) f c') ∧ H1 c' = some (CodeO c' q) ∧
      (κ i).t (fun cls d H' => PySem.W.exmOne X.K cls (.ref CS) = some true ∧ ∀ a, H' a = none → Q (.ref a) (upd H' a (exv a cls d))) σ₀ H1 (fun _ H' => Q .non H')
    | _ => False) I h) fun us s1 ⟨vs, H1, I1, r1, q1⟩ => ⟨I1.kIn, ?_⟩) hse (by rfl)
  match vs, q1, r1 with
  | [], q1, _ => exact False.elim q1
  | _ :: _ :: _, q1, _ => exact False.elim q1
  | [v], q1, r1 =>
  obtain ⟨i, f, c', rfl, hf, hc, ht⟩ := q1
  obtain ⟨u, rfl, ru⟩ := vals1 r1
  cases (show u = Value.ref f from ru)
  have rc : codeAny (model X.prog X.w) X.A (.call (.ref g) ⟨[.ref f], []⟩) (CR C8.CX0 X.stack X.prog X.w H1 s1 Q C8.E0) s1 := by
    refine run_ofS (N := [a, c, z]) (ps := [a]) (us := [.ref f]) (vs := [.ref f]) lk hcg Sg hr I1.env0 (hb s1 [.ref f] I1.kIn rfl) (.cons rfl .nil) rfl fun hr' => ?_
    subst hbg
    have hN := Sg.nd
    refine ⟨_, PSs.nox <| pss_cons (ps_set (i := 1) hN rfl (Or.inl hlc) pe_non) (pss_cons
      (ps_try_val (i := 2) (Wout := fun _ _ _ _ => False) (tb := fun W D σ H => ∃ Ech : XK, (∀ cls d σ' H', σ'.length = 3 → Ech cls d H' → W cls d σ' H') ∧ σ[0]? = some (some (.ref f)) ∧ H f = some (lamOf X (κ i) f c') ∧ H c' = some (CodeO c' q) ∧ (κ i).t Ech σ₀ H (fun _ H' => D.nx σ H'))
        rfl rfl rfl hN rfl hlz ⟨hgy, hdy, .inl hmy⟩ takes0 (fun W pn xe tk _ => ?_) (fun a pn => pss_one (ps_set (i := 1) hN rfl (Or.inl hlc) (pe_var (i := 2) rfl hvz hdz hcdz))))
      (pss_one (ps_ret (pe_var (i := 1) rfl hvc hdc hcdc)))), ?_⟩
    · refine ⟨fun pins' s' σ' H' D I' h' => ?_⟩
      obtain ⟨Ech, hW, h1, h2, h3, h4⟩ := h'
      have hp := pe_actV (CXg := C8.CX0) (Eg := C8.E0) (f := f) (c' := c') (i := 0) (p1 := p4) (p2 := p5) I1 (G i) tk hW hr' rfl hq rfl hva hd hcd
      exact (pss_one (ps_expr (pos := p6) hp)).run pins' s' σ' H' D I' ⟨h1, h2, h3, h4⟩
    · refine ⟨fun cls d H' => PySem.W.exmOne X.K cls (.ref CS) = some true ∧ ∀ a, H' a = none → Q (.ref a) (upd H' a (exv a cls d)), ?_, rfl, hf, hc, ?_⟩
      · rintro cls d σ' H' l3 ⟨e1, e2⟩
        match σ', l3 with
        | [y0, y1, y2], _ => exact ⟨true, e1, fun _ a ha => ⟨.ref a, rfl, .ref a, rfl, e2 a ha⟩, fun z => by cases z⟩
      · have z : (fun (_ : V) (H' : Hp) => Q .non H') = fun _ H' => tRet (tVar 1) { nx := fun x H' => Q V.non H', rt := Q } ((start [a, c, z] [V.ref f]).set 1 (some V.non)) H' := by
          funext _ H'
          exact propext ⟨fun q => ⟨.non, rfl, q⟩, fun ⟨v, e, q⟩ => by
            cases (show some (some V.non) = some (some v) from e)
            exact q⟩
        rw [z] at ht
        exact ht
  refine wpAny_call (codeAny_mono rc fun r s2 hq => ?_)
  match r, hq with
  | .error e, hq => exact (show False from hq).elim
  | .ok (.ret u), hq => exact I1.after hq
  | .ok .next, hq => exact False.elim hq
  | .ok .brk, hq => exact False.elim hq
  | .ok .cont, hq => exact False.elim hq
end
end L2

set_option maxHeartbeats 4000000
/-! ### a law's end, with tables of code objects; the law's own def where no guard stands -/
namespace L2
open PySem PySem.Spec PyProof.Rows LamX
theorem law_callTG {P : Program} {w : World} {K : PySem.W.Frag} {mg mb : Str → Option Value} {CX : CXT} {k : Nat} {fa a : Addr} {ts : List Addr} {fd : FuncData} {x : Str} {sp : Sp} {s₁ : Shared} {vs : List Value} {ns : List Int}
    (KX : K.In s₁.heap) (hns : s₁.heap.Ns mainGlobals mg) (hb : s₁.heap.Ns builtinsNs mb) (hbb : ∀ x : Str, x ≠ "__name__" → mb x = bootBuiltins x) (hlim : s₁.heap.NoLimit) (hg : s₁.gens = #[])
    (hT : ∀ p ∈ ts, s₁.heap.get? p = some { cls := .none, data := .fields #[] }) (nT : ∀ p ∈ ts, K.lookup p = none) (cT : ∀ p ∈ ts, ∃ c, PySem.W.codeHdIn K c p = true)
    (hbm : ∃ (bm : Addr) (ob : Obj), mg "__builtins__" = some (.ref bm) ∧ bm ≠ builtinsNs ∧ s₁.heap.get? bm = some ob ∧ ob.cls = .type "module" ∧ ob.dict = some builtinsNs ∧ ob.data = .plain)
    (ha : s₁.heap.get? a = some { cls := .type "list", data := .seq vs.toArray }) (hi : IntsAre vs ns) (hl : ns.length ≤ sizeLine) (hr : Room k callerA)
    (F : ∀ base : Heap, K.In base → base.Ns mainGlobals mg → (∀ p ∈ ts, base.BuiltinsAt mg p ∧ mainGlobals ≠ p) → FnOkG P w K mg base CX k fa fd [x] sp) (hbind : ∀ (s : Shared) (u : Value), BindsTo s fd ⟨[u], []⟩ [(x, u)])
    (hsp : ∀ H : Hp, (∀ p ∈ ts, H p = some (.tbl #[])) → SqL K H a (ns.map V.int) → sp [.ref a] H (fun v _ => v = .bl true) fun _ _ _ => False)
    (hCX : ∀ H e s', CX [] H s₁ (fun _ _ _ => False) e s' → False) :
    codeAny (model P w) callerA (.call (.ref fa) ⟨[.ref a], []⟩) (fun r s' => r = .ok (.ret (.bool true)) ∧ OldK s₁.heap s'.heap ∧ s'.os = s₁.os ∧ AllBare s'.gens) s₁ := by
  have rv := vals_ints hi
  have lenV := hi.length
  have aT : a ∉ ts := fun z => by
    have q := hT a z
    rw [ha] at q
    cases q
  have main : ∀ H : Hp, (∀ p ∈ ts, H p = some (.tbl #[])) → (∀ b, H b = none ∨ b ∈ ts ∨ (b = a ∧ K.lookup a = none ∧ ∃ o xs, H b = some (.frz o (.lst xs)))) → SqL K H a (ns.map V.int) → HOk P w H s₁.heap →
      codeAny (model P w) callerA (.call (.ref fa) ⟨[.ref a], []⟩) (fun r s' => r = .ok (.ret (.bool true)) ∧ OldK s₁.heap s'.heap ∧ s'.os = s₁.os ∧ AllBare s'.gens) s₁ := by
    intro H hH hO hS hok
    -- what is no list and no empty table is not tracked
    have free : ∀ {b : Addr} {o : Obj}, s₁.heap.get? b = some o → (∀ vs n, o.data ≠ .seq vs n) → o.data ≠ .fields #[] → H b = none := fun {b o} e h1 h2 => by
      rcases hO b with z | z | ⟨z, _, _⟩
      · exact z
      · have q := hT b z
        rw [e] at q
        cases q
        exact absurd rfl h2
      · rw [z, ha] at e
        cases e
        exact absurd rfl (h1 _ _)
    have nsK : ∀ {b : Addr} {m : Str → Option Value}, s₁.heap.Ns b m → (hidT s₁.heap H).Ns b m := fun {b m} ⟨o, es, ep, e, dd, rr⟩ => ⟨o, es, ep, hidT_get e (free e (fun _ _ z => by rw [dd] at z; cases z) (fun z => by rw [dd] at z; cases z)), dd, rr⟩
    have hKb : K.In (hidT s₁.heap H) := fun b o e => hidT_get (KX b o e) (by
      rcases hO b with z | z | ⟨z, n, _⟩
      · exact z
      · rw [nT b z] at e
        cases e
      · rw [z, n] at e
        cases e)
    obtain ⟨mc, l1, l2⟩ := hlim
    have hB : ∀ p ∈ ts, (hidT s₁.heap H).BuiltinsAt mg p ∧ mainGlobals ≠ p := fun p hp => by
      obtain ⟨bm, ob, b1, b2, b3, b4, b5, b6⟩ := hbm
      obtain ⟨og, es, ep, g1, g2, _⟩ := id hns
      refine ⟨⟨bm, ob, b1, b2, fun q => ?_, fun q => ?_, hidT_get b3 (free b3 (fun _ _ z => by rw [b6] at z; cases z) (fun z => by rw [b6] at z; cases z)), b4, b5, b6⟩, fun q => ?_⟩
      · rw [q, g1] at b3
        cases b3
        rw [g2] at b6
        cases b6
      · rw [q, hT p hp] at b3
        cases b3
        cases b6
      · rw [q, hT p hp] at g1
        cases g1
        cases g2
    have e0 : Env0 P w K mg (hidT s₁.heap H) callerA [] s₁ H := ⟨rfl, ⟨hKb, nsK hns, ⟨mb, nsK hb, hbb⟩, ⟨mc, nsK l1, l2⟩⟩, fun b o e => of_hidT e, Nat.le_of_eq (hidT_size _ _), trivial, fun b hb => absurd (show b ∈ ([] : List Addr) from hb) (by simp), hok, .of_eq hg⟩
    refine codeAny_mono ((F _ hKb (nsK hns) hB).run callerA [] s₁ H ⟨[.ref a], []⟩ [.ref a] [.ref a] _ _ rfl hr e0 (hbind s₁ (.ref a)) (.cons rfl .nil) (hsp H hH hS)) fun r s' h => ?_
    match r, h with
    | .error er, h => exact (hCX H er s' h).elim
    | .ok .next, h => exact False.elim h
    | .ok .brk, h => exact False.elim h
    | .ok .cont, h => exact False.elim h
    | .ok (.ret u), h =>
      obtain ⟨v, H', hos, bare, un, hok', r', q⟩ := h
      cases (show v = .bl true from q)
      cases (show u = Value.bool true from r')
      -- an object of the entry: as it was, or a table that has grown
      have was : ∀ b o, s₁.heap.get? b = some o → s'.heap.get? b = some o ∨ (b ∈ ts ∧ ∃ more : Array Value, s'.heap.get? b = some { cls := .none, data := .fields more }) := fun b o e => by
        rcases hO b with z | z | ⟨_, _, ob, xs, z⟩
        · exact .inl (un.keep b o e z (fun y => absurd (show b ∈ ([] : List Addr) from y) (by simp)) (by simp))
        · obtain ⟨more, q⟩ := un.tbls b #[] (hH b z)
          exact .inr ⟨z, _, hok' b _ q⟩
        · obtain ⟨e1, _⟩ := hok b _ z
          obtain ⟨e2, _⟩ := hok' b _ (un.frzs b ob _ z)
          rw [e] at e1
          cases e1
          exact .inl e2
      refine ⟨rfl, ⟨fun b o e => ?_, fun b o e => ?_⟩, hos, bare⟩
      · rcases was b o e with q | ⟨hm, more, q⟩
        · exact .inl q
        · obtain ⟨c, hc⟩ := cT b hm
          rw [hT b hm] at e
          cases e
          exact .inr (.inl ⟨((PySem.W.codeHd_of_K KX hc).tab (hT b hm)).isCodeTable, rfl, #[], more, rfl, by rw [Array.empty_append]; exact q⟩)
      · rcases was b o e with q | ⟨_, more, q⟩
        · exact ⟨_, q⟩
        · exact ⟨_, q⟩
  have tab : ∀ {H : Hp} {b : Addr}, b ∈ ts → ObjOk P w H s₁.heap b (.tbl #[]) := fun hb => hT _ hb
  by_cases hk : K.lookup a = none
  · refine main (fun b => if b = a then some (.frz { cls := .type "list", data := .seq vs.toArray } (.lst (ns.map V.int))) else if b ∈ ts then some (.tbl #[]) else none) (fun p hp => ?_) (fun b => ?_) (.inl (.inr ⟨_, if_pos rfl⟩)) (fun b u z => ?_)
    · have n : p ≠ a := fun z => aT (z ▸ hp)
      rw [if_neg n, if_pos hp]
    · by_cases h1 : b = a
      · exact .inr (.inr ⟨h1, hk, _, _, if_pos h1⟩)
      · by_cases h2 : b ∈ ts
        · exact .inr (.inl h2)
        · exact .inl (by rw [if_neg h1, if_neg h2])
    · dsimp only at z
      by_cases h1 : b = a
      · rw [if_pos h1] at z
        cases z
        rw [h1]
        exact ⟨ha, by rw [List.length_map]; exact hl, vs, _, rv, ha⟩
      · rw [if_neg h1] at z
        by_cases h2 : b ∈ ts
        · rw [if_pos h2] at z
          cases z
          exact tab h2
        · rw [if_neg h2] at z
          cases z
  · obtain ⟨o, ho⟩ := Option.ne_none_iff_exists'.mp hk
    have e := KX a o ho
    rw [ha] at e
    cases e
    refine main (fun b => if b ∈ ts then some (.tbl #[]) else none) (fun p hp => if_pos hp) (fun b => ?_) (.inr ⟨_, vs.toArray, _, ho, rfl, rfl, rfl, by rw [List.size_toArray, lenV]; exact hl, by simpa using rv⟩) (fun b u z => ?_)
    · by_cases h2 : b ∈ ts
      · exact .inr (.inl h2)
      · exact .inl (if_neg h2)
    · dsimp only at z
      by_cases h2 : b ∈ ts
      · rw [if_pos h2] at z
        cases z
        exact tab h2
      · rw [if_neg h2] at z
        cases z
theorem walk_ofTG {l : PySem.W.OpenLaw} {n k : Nat} {q : Program} {loose : List Str} {XP : (Str → Option Value) → Heap → Prop} {YP : World → Heap → Prop} {d : DefRec} {CX : CXT} {x : Str}
    (hn : l.most = some n) (hn2 : n ≤ sizeLine) (hdf : d.params.defaults = []) (hr : Room k callerA)
    (F : ∀ (w : World) (mg : Str → Option Value) (fa : Addr) (h : Heap), YP w h → h.Ns mainGlobals mg → mg d.name = some (.ref fa) →
      ∃ (K : PySem.W.Frag) (ts : List Addr) (fd : FuncData) (sp : Sp), K.In h ∧ (∀ p ∈ ts, h.get? p = some { cls := .none, data := .fields #[] }) ∧ (∀ p ∈ ts, K.lookup p = none) ∧ (∀ p ∈ ts, ∃ c, PySem.W.codeHdIn K c p = true) ∧ (∀ (s : Shared) (u : Value), BindsTo s fd ⟨[u], []⟩ [(x, u)]) ∧
        (∀ (H : Hp) (a : Addr) (ns : List Int), ns.length ≤ n → (∀ z ∈ ns, Builtin.Int.intBits z ≤ 1048576) → (∀ p ∈ ts, H p = some (.tbl #[])) → SqL K H a (ns.map V.int) → sp [.ref a] H (fun v _ => v = .bl true) fun _ _ _ => False) ∧
        ∀ base : Heap, K.In base → base.Ns mainGlobals mg → (∀ p ∈ ts, base.BuiltinsAt mg p ∧ mainGlobals ≠ p) → FnOkG l.prog w K mg base CX k fa fd [x] sp)
    (hCX : ∀ (H : Hp) (s : Shared) (e : Value) (s' : Shared), CX [] H s (fun _ _ _ => False) e s' → False) :
    PySem.W.WalkO q loose XP YP l.row.toRowW d [] (fun f vs => PySem.call f vs) := by
  refine Att.attach_callB hn hdf fun w s₀ s₁ mg mb fa o pm cd doc a vs ns G Y ho hd hcd hmg hobj hints hlen hbits hg => ?_
  obtain ⟨K, ts, fd, sp, KX, hT, nT, cT, hb, hsp, hF⟩ := F w mg fa _ Y G.T.g hmg
  exact law_callTG KX G.T.g G.T.b G.T.builtins G.T.nolimit hg hT nT cT G.T.bmain hobj hints (Nat.le_trans hlen hn2) hr hF hb (fun H hH hS => hsp H a ns hlen hbits hH hS) fun H e s' => hCX H s₁ e s'
end L2
namespace He
open PySem PySem.Spec PyProof.Rows L2
/-! ### the head's facts, with the defs whose tables are empty -/
def frY (n : Nat) (g : Addr → Option Obj) : PySem.W.Frag := frT g (cStatics :: sysModules :: asD g n)
def obsY (n : Nat) (fa : List Fa) (fn : List DefD) (tf : List Defn) (ex : PySem.W.Frag → Bool) (g : Addr → Option Obj) : AlZ := (obsD fa fn (frY n g), ex (frY n g) && tabsB g tf (frY n g))
structure SaysY (fa : List Fa) (fn : List DefD) (tf : List Defn) (ex : PySem.W.Frag → Bool) (h : Heap) (K : PySem.W.Frag) : Prop where
  d : SaysD fa fn K
  more : ex K = true
  hd : ∀ p ∈ tf, PySem.W.codeHdIn K (cT K p).1 (cT K p).2 = true
  out : ∀ p ∈ tf, K.lookup (cT K p).2 = none
  empty : ∀ p ∈ tf, h.get? (cT K p).2 = some { cls := .none, data := .fields #[] }
theorem saysY_of {n : Nat} {fa : List Fa} {fn : List DefD} {tf : List Defn} {ex : PySem.W.Frag → Bool} {h : Heap} (e : obsY n fa fn tf ex h.get? = valZ fn) : SaysY fa fn tf ex h (frY n h.get?) := by
  have e1 : obsD fa fn (frY n h.get?) = valD fn := congrArg (fun z : AlZ => z.1) e
  have e2 : (ex (frY n h.get?) && tabsB h.get? tf (frY n h.get?)) = true := congrArg (fun z : AlZ => z.2) e
  obtain ⟨h1, h2⟩ := ba e2
  have key : ∀ p ∈ tf, PySem.W.codeHdIn (frY n h.get?) (cT (frY n h.get?) p).1 (cT (frY n h.get?) p).2 = true ∧ ∃ o, h.get? (cT (frY n h.get?) p).2 = some o ∧ emptyTab o = true := fun p hp => by
    obtain ⟨h3, h4⟩ := ba (List.all_eq_true.mp h2 p hp)
    refine ⟨h3, ?_⟩
    split at h4
    · rename_i o q
      exact ⟨o, q, h4⟩
    · cases h4
  refine ⟨e1, h1, fun p hp => (key p hp).1, fun p hp => ?_, fun p hp => ?_⟩ <;> obtain ⟨_, o, q, z⟩ := key p hp
  · exact frT_none q z
  · rw [q, emptyTab_eq z]
def hookY (n : Nat) (fa : List Fa) (fn : List DefD) (tf : List Defn) (ex : PySem.W.Frag → Bool) : PySem.W.Hook where
  α := AlZ
  obs := fun s => obsY n fa fn tf ex s.heap.get?
  val := fun _ => valZ fn
  says := fun _ h => ∃ K : PySem.W.Frag, K.In h ∧ SaysY fa fn tf ex h K
  of := fun _ _ e => ⟨_, frT_in, saysY_of e⟩
  keeps := fun _ _ _ ⟨K, hK, c⟩ k => ⟨K, PySem.W.Frag.In.keeps hK k, ⟨c.d, c.more, c.hd, c.out, fun p hp => k _ _ (c.empty p hp)⟩⟩
theorem obsY_eq {n : Nat} {fa : List Fa} {fn : List DefD} {tf : List Defn} {ex : PySem.W.Frag → Bool} {g : Addr → Option Obj} {s : Shared} (h : ∀ a, g a = s.heap.get? a) : obsY n fa fn tf ex g = (hookY n fa fn tf ex).obs s := by
  have e : g = s.heap.get? := funext h
  rw [e] <;> rfl
end He

set_option maxHeartbeats 4000000
namespace L2
open PySem PySem.Spec PyProof.Rows
/-! ### how many unlike numbers a tuple has -/
theorem nd_le : ∀ (ks ns : List Int), ks.Nodup → (∀ k ∈ ks, k ∈ ns) → ks.length ≤ ns.length
  | [], _, _, _ => Nat.zero_le _
  | x :: r, ns, nd, h => by
    have nd' := List.nodup_cons.mp nd
    have hx := h x List.mem_cons_self
    have e := List.length_erase_of_mem hx
    have p := List.length_pos_of_mem hx
    have z := nd_le r (ns.erase x) nd'.2 fun k hk => (List.mem_erase_of_ne (fun q => nd'.1 (by rw [← q]; exact hk))).mpr (h k (List.mem_cons_of_mem _ hk))
    rw [List.length_cons]
    omega
theorem nd_of_le : ∀ (ns ks : List Int), ks.Nodup → (∀ k ∈ ks, k ∈ ns) → ns.length ≤ ks.length → ns.Nodup
  | [], _, _, _, _ => List.nodup_nil
  | y :: t, ks, nd, h, hl => by
    rw [List.length_cons] at hl
    have no : y ∉ t := fun hy => by
      have z := nd_le ks t nd fun k hk => (List.mem_cons.mp (h k hk)).elim (fun q => by rw [q]; exact hy) id
      omega
    refine List.nodup_cons.mpr ⟨no, nd_of_le t (ks.erase y) (nd.erase y) (fun k hk => ?_) ?_⟩
    · have hk' := (List.Nodup.mem_erase_iff nd).mp hk
      exact (List.mem_cons.mp (h k hk'.2)).resolve_left hk'.1
    · have z := List.length_erase (l := ks) (a := y)
      split at z <;> omega
theorem distinct_len {ks ns : List Int} (nd : ks.Nodup) (hm : ∀ k, k ∈ ns ↔ k ∈ ks) : ks.length ≤ ns.length ∧ (ks.length = ns.length ↔ ns.Nodup) :=
  ⟨nd_le ks ns nd fun k hk => (hm k).mpr hk, fun e => nd_of_le ns ks nd (fun k hk => (hm k).mpr hk) (Nat.le_of_eq e.symm), fun h =>
    Nat.le_antisymm (nd_le ks ns nd fun k hk => (hm k).mpr hk) (nd_le ns ks h fun k hk => (hm k).mp hk)⟩
/-- len(set(e)), e a tuple of ints -/
def tLenSetT (K : PySem.W.Frag) (ta : TE) : TE := fun σ H Q => ta σ H fun x H1 => ∃ (l : Addr) (ns : List Int), x = .ref l ∧ SqT K H1 l (ns.map V.int) ∧ ns.length ≤ 4000 ∧ ∀ c : Nat, c ≤ ns.length → (c = ns.length ↔ ns.Nodup) → Q (.int c) H1
theorem pe_lenSetT {X : Cx} {a : Expr} {ta : TE} {p p2 q pos : Pos} (hg : Gl X "len") (hm : X.mg "len" = none) (hg2 : Gl X "set") (hm2 : X.mg "set" = none) (ha : PE X a ta) (hc : X.calm = true := by rfl)
    (na : starEach [a] X.env = (false, eval a X.env) :: starEach [] X.env := by rfl) : PE X (.Call (.Name "len" p) [.Call (.Name "set" p2) [a] [] q] [] pos) (tLenSetT X.K ta) := by
  refine ⟨fun pins s σ H Q I h => ?_⟩
  refine Call_ (ld_blt I hg hm boot_len ?_)
  refine PyProof.Rows.callWith_builtin1 (PyProof.Rows.args_cons ?_ rfl) rfl rfl
  refine Call_ (ld_blt I hg2 hm2 boot_set ?_)
  refine PyProof.Rows.callWith_type1 (PyProof.Rows.args_cons (thn (ha.run pins s σ H _ I h) fun v s1 ⟨x, H1, I1, r1, q1⟩ => PyProof.Rows.args_nil ?_) na) na rfl
  obtain ⟨l, ns, rfl, hq, hl, q1⟩ := q1
  cases r1
  obtain ⟨its, r, pl, hz⟩ := I1.tuple hq
  refine call_set_tupI ns (I1.ok.hd hc) pl (by simpa using RZ.intsAre_vals r) (by unfold scanBound; omega) fun h' tk c hS hcl hk => ?_
  refine PyProof.Rows.args_nil ?_
  obtain ⟨o, es, ep, t, ho, hex, hd, g, nd, hm', hb, hf, hn, _⟩ := hS
  have I2 : Inv X pins σ H1 { s1 with heap := h', toks := tk } := I1.kept hk
  have hk1 : ∀ k, k ∈ ns ↔ k ∈ es.toList.map keyOf := fun k => by
    rw [← hm' k, decide_eq_true_iff]
  obtain ⟨d1, d2⟩ := distinct_len nd hk1
  have el : (es.toList.map keyOf).length = c := by rw [List.length_map, Array.length_toList, hn]
  rw [el] at d1 d2
  exact call_len_set ho hex hd hf (by rw [hn] <;> omega) ⟨.int c, H1, I2.tok _, ⟨_, by rw [hn]⟩, q1 c d1 d2⟩
end L2

set_option maxHeartbeats 4000000
namespace L2
open PySem PySem.Spec PyProof.Rows
/-! ### what kind of thing it is -/
def isTupD : PyData → Bool
  | .tuple _ => true
  | _ => false
def isListD : PyData → Bool
  | .list _ => true
  | _ => false
def isIntD : PyData → Bool
  | .int _ => true
  | .bool _ => true
  | _ => false
def isBoolD : PyData → Bool
  | .bool _ => true
  | _ => false
def isStrD : PyData → Bool
  | .str _ => true
  | _ => false
def isDictD : PyData → Bool
  | .dict _ => true
  | _ => false
structure KindD (K : PySem.W.Frag) (d : PyData) (T : String) : Prop where
  int : PySem.W.kitOne K (.type T) (.type "int") = some (isIntD d)
  bool : PySem.W.kitOne K (.type T) (.type "bool") = some (isBoolD d)
  str : PySem.W.kitOne K (.type T) (.type "str") = some (isStrD d)
  tup : PySem.W.kitOne K (.type T) (.type "tuple") = some (isTupD d)
  lst : PySem.W.kitOne K (.type T) (.type "list") = some (isListD d)
  dic : PySem.W.kitOne K (.type T) (.type "dict") = some (isDictD d)
theorem kd_non {K : PySem.W.Frag} : KindD K .none "NoneType" := ⟨kit_ty (show kitB "NoneType" "int" = some false by decide +kernel), kit_ty (show kitB "NoneType" "bool" = some false by decide +kernel), kit_ty (show kitB "NoneType" "str" = some false by decide +kernel), kit_ty (show kitB "NoneType" "tuple" = some false by decide +kernel), kit_ty (show kitB "NoneType" "list" = some false by decide +kernel), kit_ty (show kitB "NoneType" "dict" = some false by decide +kernel)⟩
theorem kd_bl {K : PySem.W.Frag} {b : Bool} : KindD K (.bool b) "bool" := ⟨kit_ty (show kitB "bool" "int" = some true by decide +kernel), kit_ty (show kitB "bool" "bool" = some true by decide +kernel), kit_ty (show kitB "bool" "str" = some false by decide +kernel), kit_ty (show kitB "bool" "tuple" = some false by decide +kernel), kit_ty (show kitB "bool" "list" = some false by decide +kernel), kit_ty (show kitB "bool" "dict" = some false by decide +kernel)⟩
theorem kd_int {K : PySem.W.Frag} {i : Int} : KindD K (.int i) "int" := ⟨kit_ty (show kitB "int" "int" = some true by decide +kernel), kit_ty (show kitB "int" "bool" = some false by decide +kernel), kit_ty (show kitB "int" "str" = some false by decide +kernel), kit_ty (show kitB "int" "tuple" = some false by decide +kernel), kit_ty (show kitB "int" "list" = some false by decide +kernel), kit_ty (show kitB "int" "dict" = some false by decide +kernel)⟩
theorem kd_str {K : PySem.W.Frag} {x : Str} : KindD K (.str x) "str" := ⟨kit_ty (show kitB "str" "int" = some false by decide +kernel), kit_ty (show kitB "str" "bool" = some false by decide +kernel), kit_ty (show kitB "str" "str" = some true by decide +kernel), kit_ty (show kitB "str" "tuple" = some false by decide +kernel), kit_ty (show kitB "str" "list" = some false by decide +kernel), kit_ty (show kitB "str" "dict" = some false by decide +kernel)⟩
theorem kd_lst {K : PySem.W.Frag} {ds : List PyData} : KindD K (.list ds) "list" := ⟨kit_ty (show kitB "list" "int" = some false by decide +kernel), kit_ty (show kitB "list" "bool" = some false by decide +kernel), kit_ty (show kitB "list" "str" = some false by decide +kernel), kit_ty (show kitB "list" "tuple" = some false by decide +kernel), kit_ty (show kitB "list" "list" = some true by decide +kernel), kit_ty (show kitB "list" "dict" = some false by decide +kernel)⟩
theorem kd_tup {K : PySem.W.Frag} {ds : List PyData} : KindD K (.tuple ds) "tuple" := ⟨kit_ty (show kitB "tuple" "int" = some false by decide +kernel), kit_ty (show kitB "tuple" "bool" = some false by decide +kernel), kit_ty (show kitB "tuple" "str" = some false by decide +kernel), kit_ty (show kitB "tuple" "tuple" = some true by decide +kernel), kit_ty (show kitB "tuple" "list" = some false by decide +kernel), kit_ty (show kitB "tuple" "dict" = some false by decide +kernel)⟩
theorem kd_dic {K : PySem.W.Frag} {ds : List (PyData × PyData)} : KindD K (.dict ds) "dict" := ⟨kit_ty (show kitB "dict" "int" = some false by decide +kernel), kit_ty (show kitB "dict" "bool" = some false by decide +kernel), kit_ty (show kitB "dict" "str" = some false by decide +kernel), kit_ty (show kitB "dict" "tuple" = some false by decide +kernel), kit_ty (show kitB "dict" "list" = some false by decide +kernel), kit_ty (show kitB "dict" "dict" = some true by decide +kernel)⟩
theorem Dq.kind {K : PySem.W.Frag} {H : Hp} {v : V} {d : PyData} (h : Dq K H v d) : ∃ T : String, TyX K H v (.type T) ∧ KindD K d T := by
  cases h with
  | non => exact ⟨_, .base .non, kd_non⟩
  | bl b => exact ⟨_, .base (.bl b), kd_bl⟩
  | int i => exact ⟨_, .base (.int i), kd_int⟩
  | str x => exact ⟨_, .base (.str x), kd_str⟩
  | lst hs _ =>
    refine ⟨_, ?_, kd_lst⟩
    rcases hs with (e | ⟨o, e⟩) | ⟨o, its, n, hk, hc, _⟩
    · exact .base (.lst e)
    · exact .base (.frz e)
    · exact .kList hk hc
  | tup hs _ =>
    refine ⟨_, ?_, kd_tup⟩
    rcases hs with (e | ⟨o, e⟩) | ⟨o, its, n, hk, hc, _⟩
    · exact .base (.tup e)
    · exact .fTuple e
    · exact .kTuple hk hc
  | dic e _ => exact ⟨_, .base (.dK e), kd_dic⟩
theorem Dq.ty {K : PySem.W.Frag} {H : Hp} {v : V} {d : PyData} (h : Dq K H v d) : ∃ (T : String) (b : Bool), TyX K H v (.type T) ∧ PySem.W.kitOne K (.type T) (.type "str") = some b ∧ (b = true → ∃ y : Str, v = .str y ∧ d = .str y) := by
  obtain ⟨T, ty, kd⟩ := h.kind
  refine ⟨T, _, ty, kd.str, fun e => ?_⟩
  cases h with
  | str x => exact ⟨x, rfl, rfl⟩
  | _ => cases e
theorem same_seqT {K : PySem.W.Frag} {H H' : Hp} {a : Addr} {xs : List V} (s : Same H H') (h : SqT K H a xs) : SqT K H' a xs := by
  rcases h with (h | ⟨o, h⟩) | h
  · exact .inl (.inl (s _ _ h))
  · exact .inl (.inr ⟨o, s _ _ h⟩)
  · exact .inr h
mutual
theorem Dq.same {K : PySem.W.Frag} {H H' : Hp} (s : Same H H') : ∀ {v : V} {d : PyData}, Dq K H v d → Dq K H' v d
  | _, _, .non => .non
  | _, _, .bl b => .bl b
  | _, _, .int i => .int i
  | _, _, .str x => .str x
  | _, _, .lst hs ha => .lst (s.seq hs) (DqAll.same s ha)
  | _, _, .tup hs ha => .tup (same_seqT s hs) (DqAll.same s ha)
  | _, _, .dic e ha => .dic (s _ _ e) (DqAll.same s ha)
theorem DqAll.same {K : PySem.W.Frag} {H H' : Hp} (s : Same H H') : ∀ {vs : List V} {ds : List PyData}, DqAll K H vs ds → DqAll K H' vs ds
  | _, _, .nil => .nil
  | _, _, .cons h t => .cons (Dq.same s h) (DqAll.same s t)
end
theorem DqAll.at {K : PySem.W.Frag} {H : Hp} : ∀ {vs : List V} {ds : List PyData}, DqAll K H vs ds → ∀ {i : Nat} {v : V}, vs[i]? = some v → ∃ d, ds[i]? = some d ∧ Dq K H v d
  | _, _, .cons h t, 0, v, e => ⟨_, rfl, by
      cases e
      exact h⟩
  | _, _, .cons h t, i + 1, v, e => DqAll.at t e
/-! ### numbers within bounds -/
def numD : PyData → Bool
  | .int _ => true
  | _ => false
def withinD (lo hi : Int) : PyData → Bool
  | .int i => decide (lo ≤ i) && decide (i ≤ hi)
  | _ => false
def lineD (m lo hi : Int) : PyData → Bool
  | .tuple ds => decide (1 ≤ ds.length) && decide ((ds.length : Int) ≤ m) && ds.all (withinD lo hi)
  | _ => false
def intsD (ds : List PyData) : List Int := ds.map fun
  | .int i => i
  | _ => 0
theorem numD_eq (d : PyData) : numD d = (isIntD d && !isBoolD d) := by cases d <;> rfl
/-- the members are all numbers: as V -/
theorem DqAll.ints {K : PySem.W.Frag} {H : Hp} : ∀ {vs : List V} {ds : List PyData}, DqAll K H vs ds → ds.all numD = true → vs = (intsD ds).map V.int
  | _, _, .nil, _ => rfl
  | _, _, .cons (d := d) h t, e => by
    rw [List.all_cons, Bool.and_eq_true] at e
    have ih := DqAll.ints t e.2
    cases h with
    | int i => exact congrArg (List.cons (V.int i)) ih
    | _ => cases e.1
theorem within_num {lo hi : Int} {d : PyData} (h : withinD lo hi d = true) : numD d = true := by cases d <;> first | rfl | cases h
theorem dq_ints {K : PySem.W.Frag} {H : Hp} : ∀ ls : List Int, DqAll K H (ls.map V.int) (ls.map PyData.int)
  | [] => .nil
  | x :: r => .cons (.int x) (dq_ints r)
theorem ints_int (ls : List Int) : intsD (ls.map PyData.int) = ls := by
  unfold intsD
  rw [List.map_map]
  exact List.map_id ls
theorem del_upd {H : Hp} {a : Addr} {o : HO} (h : H a = none) : del (upd H a o) a = H := by
  funext b
  by_cases e : b = a
  · rw [e, del_same, h]
  · rw [del_ne e, upd_ne e]
/-- len of a list or a tuple -/
def rLenS (K : PySem.W.Frag) : List V → Hp → VK → Prop := fun xs H Q => ∃ p ys, xs = [V.ref p] ∧ (SqL K H p ys ∨ SqT K H p ys) ∧ Q (.int ys.length) H
theorem call_lenK {X : Cx} : CallR X (.builtin "len") (rLenS X.K) := call_len_seq
end L2

set_option maxHeartbeats 4000000
namespace L2
open PySem PySem.Spec PyProof.Rows LamX
/-! ### along a growth of tables -/
theorem extN_seqL {K : PySem.W.Frag} {H H' : Hp} {a : Addr} {xs : List V} (s : ExtN H H') (h : SqL K H a xs) : SqL K H' a xs := by
  rcases h with (h | ⟨o, h⟩) | h
  · exact .inl (.inl (s _ _ h (fun _ z => by cases z)))
  · exact .inl (.inr ⟨o, s _ _ h (fun _ z => by cases z)⟩)
  · exact .inr h
theorem extN_seqT {K : PySem.W.Frag} {H H' : Hp} {a : Addr} {xs : List V} (s : ExtN H H') (h : SqT K H a xs) : SqT K H' a xs := by
  rcases h with (h | ⟨o, h⟩) | h
  · exact .inl (.inl (s _ _ h (fun _ z => by cases z)))
  · exact .inl (.inr ⟨o, s _ _ h (fun _ z => by cases z)⟩)
  · exact .inr h
mutual
theorem Dq.extN {K : PySem.W.Frag} {H H' : Hp} (s : ExtN H H') : ∀ {v : V} {d : PyData}, Dq K H v d → Dq K H' v d
  | _, _, .non => .non
  | _, _, .bl b => .bl b
  | _, _, .int i => .int i
  | _, _, .str x => .str x
  | _, _, .lst hs ha => .lst (extN_seqL s hs) (DqAll.extN s ha)
  | _, _, .tup hs ha => .tup (extN_seqT s hs) (DqAll.extN s ha)
  | _, _, .dic e ha => .dic (s _ _ e (fun _ z => by cases z)) (DqAll.extN s ha)
theorem DqAll.extN {K : PySem.W.Frag} {H H' : Hp} (s : ExtN H H') : ∀ {vs : List V} {ds : List PyData}, DqAll K H vs ds → DqAll K H' vs ds
  | _, _, .nil => .nil
  | _, _, .cons h t => .cons (Dq.extN s h) (DqAll.extN s t)
end
theorem Same.extN {H H' : Hp} (s : Same H H') : ExtN H H' := fun b o e _ => s b o e
theorem Tabs.same {T : List (Addr × Str)} {H H' : Hp} (t : Tabs T H) (s : Same H H') : Tabs T H' := t.ext s
/-! ### a statement's reading, said otherwise -/
theorem PS.imp {X : Cx} {st : Stmt} {t t' : TS} (h : PS X st t) (i : ∀ D σ H, t' D σ H → t D σ H) : PS X st t' := ⟨fun pins s σ H D I q => h.run pins s σ H D I (i D σ H q)⟩
theorem PSs.imp {X : Cx} {st : List Stmt} {t t' : TS} (h : PSs X st t) (i : ∀ D σ H, t' D σ H → t D σ H) : PSs X st t' := ⟨fun pins s σ H D I q => h.run pins s σ H D I (i D σ H q)⟩
theorem PE.imp {X : Cx} {e : Expr} {t t' : TE} (h : PE X e t) (i : ∀ σ H Q, t' σ H Q → t σ H Q) : PE X e t' := ⟨fun pins s σ H Q I q => h.run pins s σ H Q I (i σ H Q q)⟩
/-- what holds is kept -/
def tKeep (J : St → Hp → Prop) : TS := fun D σ H => J σ H ∧ ∀ σ' H', J σ' H' → D.nx σ' H'
/-- from one to another -/
def tTo (J J' : St → Hp → Prop) : TS := fun D σ H => J σ H ∧ ∀ σ' H', J' σ' H' → D.nx σ' H'
section
variable {X : Cx} {ι : Type} {κ : ι → LamK} {k : Nat} {CS g : Addr} {x a c y z : Str} {e : Expr} {te : TE} {p pos : Pos}
theorem pe_caughtF {pg : Arguments} {bg : List Stmt} {sg : Scope} {fd : FuncData} {p1 p2 p3 p4 p5 p6 p7 p8 p9 p10 p11 p12 p13 p14 : Pos} {j : Nat} (F : FunD X.K x x pg bg sg [] [] g fd) (hb : L2.Binds X.K fd [a] [])
    (hbg : bg = catchBody a c y z p1 p2 p3 p4 p5 p6 p7 p8 p9 p10 p11 p12 p13 p14 j) (Sg : FnScope [a, c, z] [a] sg) (hva : Vis sg a) (hlc : sg.names.lookup c = some .local) (hlz : sg.names.lookup z = some .local) (hgy : sg.names.lookup y = some .globalImplicit) (hmy : X.mg y = some (.ref CS))
    (he : PE X e te) (hg : Gl X x) (hm : X.mg x = some (.ref g)) (hr : Room (k + 2) X.A) (G : ∀ i, LamGood X k (κ i))
    (hdb : (x == ("__debug__" : Str)) = false := by decide) (hd : (a == ("__debug__" : Str)) = false := by decide) (hcd : (a == ("__classdict__" : Str)) = false := by decide) (hdc : (c == ("__debug__" : Str)) = false := by decide) (hcdc : (c == ("__classdict__" : Str)) = false := by decide) (hdz : (z == ("__debug__" : Str)) = false := by decide) (hcdz : (z == ("__classdict__" : Str)) = false := by decide) (hdy : (y == ("__debug__" : Str)) = false := by decide)
    (hse : starEach [e] X.env = (false, eval e X.env) :: starEach [] X.env := by rfl) :
    PE X (.Call (.Name x p) [e] [] pos) (tCaught X CS (X.env.qual ++ "<lambda>") κ te) := by
  have kp := F.kp
  obtain ⟨oc, od, dV, kV, doc, pm, an, cdv, ct, osl, rfl, lk, hcd', _, _⟩ := F.ex
  exact pe_caught lk hcd' hb hbg Sg hva (Or.inl hlc) (Or.inl hlz) hlc hlz hgy hmy he hg hm kp hr G rfl hdb hd hcd hdc hcdc hdz hcdz hdy hse
end
end L2

set_option maxHeartbeats 4000000
namespace L2
open PySem PySem.Spec PyProof.Rows
section
variable {X : Cx} {CX : CXT} {k : Nat} {f : Addr} {fd : FuncData} {ps ks : List Str} {sp : Sp} {E : XK} {x : Str} {p pos : Pos} {kws : List Keyword} {tk : TA} {g : List Value → List Value → List Value} {gV : List V → List V → List V}
/-- f(k = v, ..) -/
theorem pe_callk0 (F : FnOk X.prog X.w X.K X.mg X.base CX k f fd ps sp) (hr : Room k X.A) (hg : Gl X x) (hm : X.mg x = some (.ref f)) (hk : PySem.W.keepIn X.K (.ref f) = true) (hb : KBn X.K fd ps 0 ks g gV) (hx : Passes CX X E) (hkw : PK X kws tk)
    (hall : (backToKw pos (keywordEach kws X.env)).all (·.1.isSome) = true := by rfl) (hks : (backToKw pos (keywordEach kws X.env)).filterMap (·.1) = ks := by rfl) (hdb : (x == ("__debug__" : Str)) = false := by decide)
    (hpl : ((backTo pos (starEach [] X.env)).any (·.1) || (backToKw pos (keywordEach kws X.env)).any (·.1.isNone)) = false := by rfl) :
    PE X (.Call (.Name x p) [] kws pos) (fun σ H Q => tk σ H fun zs H2 => zs.length = ks.length ∧ sp (gV [] zs) H2 Q E) := by
  refine ⟨fun pins s σ H Q I h => ?_⟩
  refine wpAny_Call_Name_kw (ld_glob I hg hm ?_ hdb)
  refine PySem.W.callWith_KW0 (h₀ := X.base) I.ok.mod.kin hk hall ?_ hpl
  refine thn (hkw.run pos pins s σ H _ I h) fun ws s2 ⟨zs, H2, I2, rz, l2, q2⟩ => ⟨I2.kIn, ?_⟩
  rw [hks]
  exact run_fnN F hr hb hx I2 .nil rz rfl l2 q2
end
theorem kb0 {K : PySem.W.Frag} {x qual : Str} {params : Arguments} {body : List Stmt} {scope : Scope} {kws : List (Str × V)} {f : Addr} {fd : FuncData} {ps ks : List Str} {g : List Value → List Value} {gV : List V → List V} (F : FunD K x qual params body scope [] kws f fd)
    (h : ∀ (kV doc pm : Value) (an : Option Addr) (cdv ct : Value) (ws : List Value), ws.length = ks.length → bindArgs (PySem.W.fnOf x qual params body scope .none kV doc pm an cdv ct) ⟨[], ks.zip ws⟩ = pure (ps.zip (g ws))) (hr : ∀ {zs : List V} {ws : List Value}, Vals zs ws → Vals (gV zs) (g ws)) :
    KBn K fd ps 0 ks (fun _ ws => g ws) (fun _ zs => gV zs) := by
  obtain ⟨oc, od, dV, kV, doc, pm, an, cdv, ct, osl, rfl, lk, hcd, hD, hK⟩ := F.ex
  rcases hD with ⟨_, rfl⟩ | ⟨e, _⟩
  · refine ⟨fun s us ws X l1 l2 => ?_, fun r1 r2 => hr r2⟩
    have e : us = [] := List.eq_nil_of_length_eq_zero l1
    subst e
    exact .of_eq (h kV doc pm an cdv ct ws l2)
  · exact absurd rfl e
/-- three values the other way -/
def rev3 {α : Type} : List α → List α
  | [a, b, c] => [c, b, a]
  | l => l
theorem vals_rev3 {zs : List V} {ws : List Value} (r : Vals zs ws) : Vals (rev3 zs) (rev3 ws) := by
  match zs, ws, r with
  | [], _, .nil => exact .nil
  | [_], _, .cons a .nil => exact .cons a .nil
  | [_, _], _, .cons a (.cons b .nil) => exact .cons a (.cons b .nil)
  | [_, _, _], _, .cons a (.cons b (.cons c .nil)) => exact .cons c (.cons b (.cons a .nil))
  | _ :: _ :: _ :: _ :: _, _, .cons a (.cons b (.cons c (.cons d r))) => exact .cons a (.cons b (.cons c (.cons d r)))
end L2

set_option maxHeartbeats 4000000
namespace L2
open PySem PySem.Spec PyProof.Rows
/-! ### a tuple of numbers as data -/
theorem w_int {i : Int} (h : i.natAbs < 10 ^ 12) : PyData.weight (.int i) ≤ 41 := by
  show (if i == 0 then 0 else i.natAbs.log2 + 1) ≤ 41
  split
  · omega
  · rename_i hz
    have h0 : i.natAbs ≠ 0 := fun z => hz (by simpa using z)
    have h1 : i.natAbs < 2 ^ 40 := Nat.lt_trans h (by decide)
    have h2 := (Nat.log2_lt h0).mpr h1
    omega
theorem w_ints : ∀ {ns : List Int}, (∀ n ∈ ns, n.natAbs < 10 ^ 12) → PyData.weightAll (ns.map .int) ≤ 42 * ns.length
  | [], _ => Nat.le_refl _
  | n :: r, h => by
    have h1 := w_int (h n List.mem_cons_self)
    have h2 := w_ints fun m hm => h m (List.mem_cons_of_mem _ hm)
    show PyData.weight (.int n) + 1 + PyData.weightAll (r.map .int) ≤ 42 * (r.length + 1)
    omega
theorem lay_ints : ∀ ls : List Int, PyData.canLayAll0 (ls.map PyData.int) = true ∧ PyData.depthAll (ls.map PyData.int) ≤ 1
  | [] => ⟨rfl, by simp [PyData.depthAll]⟩
  | x :: r => by
    have ih := lay_ints r
    refine ⟨?_, ?_⟩
    · simp [PyData.canLayAll0, PyData.canLay0, ih.1]
    · simp [PyData.depthAll, PyData.depth, ih.2]
theorem show_ints : ∀ {ns : List Int}, (∀ n ∈ ns, n.natAbs < 10 ^ 12) → PyData.showableAll (ns.map .int) = true
  | [], _ => rfl
  | n :: r, h => by
    have h2 := show_ints fun m hm => h m (List.mem_cons_of_mem _ hm)
    have hn := h n List.mem_cons_self
    show (decide (n.natAbs.log2 < 1920) && PyData.showableAll (r.map .int)) = true
    rw [h2, Bool.and_true, decide_eq_true_iff]
    by_cases hz : n.natAbs = 0
    · rw [hz]
      decide
    · have h1 : n.natAbs < 2 ^ 40 := Nat.lt_trans hn (by decide)
      have := (Nat.log2_lt hz).mpr h1
      omega
structure TupData (d : PyData) : Prop where
  sh : d.showable = true
  dp : d.depth ≤ 60
  ln : d.shown.length ≤ sizeLine
  shp : SeqAt.shaped d = true
  eq : PyData.eqv d d = true
theorem tup_data {ns : List Int} (h : ∀ n ∈ ns, n.natAbs < 10 ^ 12) (hl : ns.length ≤ 4000) : TupData (.tuple (ns.map .int)) := by
  obtain ⟨l1, l2⟩ := lay_ints ns
  have hw := w_ints h
  have c0 : PyData.canLay0 (.tuple (ns.map .int)) = true := by simpa only [PyData.canLay0] using l1
  have d0 : PyData.depth (.tuple (ns.map .int)) ≤ 2 := by
    simp only [PyData.depth]
    omega
  have lay : PyData.layable0 (.tuple (ns.map .int)) = true := by
    show (PyData.canLay0 (.tuple (ns.map .int)) && decide (PyData.depth (.tuple (ns.map .int)) ≤ 64) && decide (PyData.weight (.tuple (ns.map .int)) ≤ 2 ^ 20)) = true
    rw [c0, decide_eq_true (show PyData.depth (.tuple (ns.map .int)) ≤ 64 by omega), Bool.true_and, Bool.true_and, decide_eq_true_iff]
    show PyData.weightAll (ns.map .int) ≤ 2 ^ 20
    have e : (2 : Nat) ^ 20 = 1048576 := by decide
    omega
  refine ⟨?_, by omega, ?_, ?_, SeqAt.eqv_refl _ c0⟩
  · show PyData.showableAll (ns.map .int) = true
    exact show_ints h
  · exact PyData.shown_fits_of_layable0 (B := 13) (by decide) (by decide) lay (by simpa only [PyData.intsShort] using PyData.intsShortAll_ints ns h)
  · exact SeqAt.shaped_of_layable lay
theorem dpAll_ints {K : PySem.W.Frag} {H : Hp} : ∀ ls : List Int, DpAll K H (ls.map V.int) (ls.map PyData.int)
  | [] => .nil
  | x :: r => .cons (.int x) (dpAll_ints r)
end L2

set_option maxHeartbeats 4000000
namespace L2
open PySem PySem.Spec PyProof.Rows
section
variable {X : Cx} {CX : CXT} {k i : Nat} {ι : Type} {f : ι → Addr} {fd : ι → FuncData} {ps : List Str} {sp : ι → Sp} {E : XK} {x : Str} {p pos : Pos} {e : Expr} {es : List Expr} {t : TA}
/-- x(e, ..), x a name of the def that holds one of some own defs -/
theorem pe_callVar (F : ∀ j, FnOk X.prog X.w X.K X.mg X.base CX k (f j) (fd j) ps (sp j)) (hr : Room k X.A) (hN : X.N[i]? = some x) (hv : Vis X.env.scope x) (hk : ∀ j, PySem.W.keepIn X.K (.ref (f j)) = true) (hb : ∀ j, Binds X.K (fd j) ps []) (hx : Passes CX X E)
    (ha : PA X (e :: es) t) (hd : (x == ("__debug__" : Str)) = false := by decide) (hcd : (x == ("__classdict__" : Str)) = false := by decide) (he : starEach (e :: es) X.env = (false, eval e X.env) :: starEach es X.env := by rfl) (hpl : (backTo pos (starEach es X.env)).any (·.1) = false := by rfl) :
    PE X (.Call (.Name x p) (e :: es) [] pos) (fun σ H Q => ∃ j, σ[i]? = some (some (.ref (f j))) ∧ t σ H fun vs H1 => sp j vs H1 Q E) := by
  refine ⟨fun pins s σ H Q I h => ?_⟩
  obtain ⟨j, hs, h⟩ := h
  refine wpAny_Call_Name_kw (thn ((pe_var (pos := p) hN hv hd hcd).run pins s σ H (fun v H1 => v = .ref (f j) ∧ H1 = H) I ⟨_, hs, rfl, rfl⟩) fun u s1 ⟨v, H1, I1, r1, q1⟩ => ?_)
  obtain ⟨rfl, eH⟩ := q1
  rw [eH] at I1
  obtain rfl : u = Value.ref (f j) := r1
  refine PySem.W.callWith_K (h₀ := X.base) I1.ok.mod.kin (hk j) (thn (ha.run pos pins s1 σ H _ I1 h) fun us s2 ⟨vs, H2, I2, r, q⟩ => ⟨I2.kIn, ?_⟩) he hpl
  exact run_fn (us := us) (vs := vs) (dvs := []) (ds := []) (Q := Q) (F j) hr (hb j) .nil hx I2 r (by rw [List.append_nil]; exact q)
end
end L2

set_option maxHeartbeats 4000000
/-! ### == and != by an own __eq__ that answers either -/
namespace EqO
open PySem PySem.Spec PyProof.Rows
section
variable {prog : Program} {w : World} {A : Around} {E : Value → Shared → Prop} {s : Shared} {K : PySem.W.Frag} {x C f : Addr} {ox : Obj} {od : Option Obj} {b : Value}
theorem body_ne {Q : Fin → Shared → Prop} (hu : A.units < cLine) (X : K.In s.heap) (I : PySem.W.InstAt s.heap x ox C od) (hs : PySem.W.findIn K (.ref C) "__eq__" = some (some (.ref f))) (hf : PySem.W.isFn K (.ref f) = true)
    (h : codeAny (model prog w) A (.call (.ref f) ⟨[.ref x, b], []⟩) (fun r s' => match r with
      | .ok (.ret v) => ∃ c, v = .bool c ∧ Q (.done (.ret (.bool (!c)))) s'
      | .ok _ => False
      | .error e => E e s') s) : wpAny (model prog w) A (Builtin.«object.__ne__» ⟨[.ref x, b], []⟩) Q E s := by
  unfold Builtin.«object.__ne__»
  repeat (first | with_reducible refine wpAny_cRoomFor hu ?_ | with_reducible refine PySem.W.ifBound_K X I hs hf ?_ | wp_step)
  refine codeAny_mono h fun r s' z => ?_
  match r, z with
  | .error e, z => exact z
  | .ok (.ret v), ⟨c, e, q⟩ =>
    subst e
    exact wpAny_bind (wpAny_truthy_bool (wpAny_pure q))
  | .ok .next, z => exact z.elim
  | .ok .brk, z => exact z.elim
  | .ok .cont, z => exact z.elim
theorem ifB_ne {args : List Value} {Q : Option Value → Shared → Prop} (X : K.In s.heap) (I : PySem.W.InstAt s.heap x ox C od) (hs : PySem.W.findIn K (.ref C) "__ne__" = some (some (.builtin "object.__ne__")))
    (h : wpAny (model prog w) A (call (.builtin "object.__ne__") (.ref x :: args)) (fun v s' => Q (some v) s') E s) : wpAny (model prog w) A (callSpecialIfBound? (.ref x) "__ne__" args) Q E s := by
  have fin : wpAny (model prog w) A (call (.builtin "object.__ne__") ([.ref x] ++ args) >>= fun v => pure (some v)) Q E s := wpAny_bind (wpAny_mono h (fun _ _ z => wpAny_pure z) fun _ _ z => z)
  have B : ∀ E' : Value → Shared → Prop, wpAny (model prog w) A (bindSpecial (.builtin "object.__ne__") (.ref x)) (fun r s' => r = (.builtin "object.__ne__", [.ref x]) ∧ s' = s) E' s := fun _ => wpAny_of_eq (F.cmp_object.ne.bind _) ⟨rfl, rfl⟩
  unfold callSpecialIfBound? bindSpecialIfBound?
  refine wpAny_holding (wpAny_bind (wpAny_bind (wpAny_bind (I.type.here ((PySem.W.looks_findIn X hs).here (wpAny_bind (wpAny_askSetting (wpAny_ite ?_))))))))
  split
  · refine wpAny_bind (wpAny_mono (B E) (fun r s' ⟨e1, e2⟩ => ?_) fun _ _ z => z)
    subst e1 e2
    exact wpAny_pure fin
  · refine wpAny_tryCatch (wpAny_bind (wpAny_mono (B fun _ _ => False) (fun r s' ⟨e1, e2⟩ => ?_) fun _ _ z => z.elim))
    subst e1 e2
    exact wpAny_pure fin
/-- x != b, by the own __eq__ at f -/
theorem rich_ne {tb : Value} {Q : Value → Shared → Prop} (hu : A.units + 1 < cLine) (X : K.In s.heap) (I : PySem.W.InstAt s.heap x ox C od) (hb : PySem.W.Looks (model prog w) s.heap (typeOf b) tb) (hn : PySem.W.notFirst K C tb = true) (hm : PySem.W.mroIn K C (.type "object") = some true)
    (hne : PySem.W.findIn K (.ref C) "__ne__" = some (some (.builtin "object.__ne__"))) (hs : PySem.W.findIn K (.ref C) "__eq__" = some (some (.ref f))) (hf : PySem.W.isFn K (.ref f) = true)
    (h : codeAny (model prog w) A.in1 (.call (.ref f) ⟨[.ref x, b], []⟩) (fun r s' => match r with
      | .ok (.ret v) => ∃ c, v = .bool c ∧ Q (.bool (!c)) s'
      | .ok _ => False
      | .error e => E e s') s) : wpAny (model prog w) A (richCompare .NotEq (.ref x) b) Q E s := by
  have one : wpAny (model prog w) A (tryCompare (.ref x) "__ne__" b) (fun r s' => ∃ v, r = some v ∧ Q v s') E s := by
    unfold tryCompare
    refine wpAny_bind (ifB_ne X I hne (wpAny_call (codeAny_call_builtin F.cmp_object.ne.plain F.cmpEntry_ne (PySem.W.check_slot F.cmpKind_ne F.cmpSplit_ne (I.type.andThen (PySem.W.looks_mroIn X hm)) (F.cmpArgs_ne _ _) (body_ne (A := A.in1) hu X I hs hf (codeAny_mono h fun r s' z => ?_))))))
    match r, z with
    | .error e, z => exact z
    | .ok (.ret v), ⟨c, e, q⟩ => exact ⟨c, e, wpAny_pure ⟨_, rfl, q⟩⟩
    | .ok .next, z => exact z.elim
    | .ok .brk, z => exact z.elim
    | .ok .cont, z => exact z.elim
  have hu0 : A.units < cLine := Nat.lt_of_succ_lt hu
  unfold richCompare
  simp only [oneThing_ref, cmpInfo_NotEq]
  refine wpAny_holding (wpAny_bind (wpAny_cRoomFor hu0 (wpAny_bind (I.type.here (wpAny_bind (hb.here ?_))))))
  have fin : ∀ {k : Option Value → Sem Value}, (∀ v s', Q v s' → wpAny (model prog w) A (k (some v)) Q E s') → wpAny (model prog w) A (tryCompare (.ref x) "__ne__" b >>= k) Q E s := fun hk =>
    wpAny_bind (wpAny_mono one (fun r s' ⟨v, e, q⟩ => by rw [e]; exact hk v s' q) fun _ _ z => z)
  split
  · rename_i q
    have e : PySem.W.subIn K tb (.ref C) = some false := (Bool.or_eq_true_iff.mp hn).elim (fun e => by rw [beq_iff_eq.mp e] at q; simp at q) (fun e => beq_iff_eq.mp e)
    refine wpAny_bind ((PySem.W.looks_subIn X e).here ?_)
    simp only [Bool.false_eq_true, if_false]
    exact fin fun v s' q => wpAny_pure q
  · refine wpAny_bind (wpAny_pure ?_)
    simp only [Bool.false_eq_true, if_false]
    exact fin fun v s' q => wpAny_pure q
end
end EqO
namespace L2
open PySem PySem.Spec PyProof.Rows
/-- what stands on the other side of an own ==: an instance, a list, a tuple, None -/
inductive Oth (K : PySem.W.Frag) (H : Hp) (C : Addr) : V → Prop
  | ins {b D dx : Addr} {fs : List (Str × V)} (h : H b = some (.ins D dx fs)) (n : PySem.W.notFirst K C (.ref D) = true) : Oth K H C (.ref b)
  | lst {b : Addr} {xs : List V} (h : SqL K H b xs) (n : PySem.W.notFirst K C (.type "list") = true) : Oth K H C (.ref b)
  | tup {b : Addr} {xs : List V} (h : SqT K H b xs) (n : PySem.W.notFirst K C (.type "tuple") = true) : Oth K H C (.ref b)
/-- x == y (neg: x != y) by the own __eq__ of x's class -/
def rOwn (K : PySem.W.Frag) (C : Addr) (sp : Sp) (E : XK) (neg : Bool) : R2 := fun x y H Q => ∃ (a dx : Addr) (fs : List (Str × V)), x = .ref a ∧ H a = some (.ins C dx fs) ∧ Oth K H C y ∧ sp [x, y] H (fun v H' => ∃ c, v = .bl c ∧ Q (.bl (neg ^^ c)) H') E
section
variable {X : Cx} {CX : CXT} {k : Nat} {f C : Addr} {fd : FuncData} {ps : List Str} {sp : Sp} {E : XK}
theorem Oth.looks {pins : List (Addr × Obj)} {σ : St} {H : Hp} {s : Shared} {y : V} {u : Value} (I : Inv X pins σ H s) (h : Oth X.K H C y) (r : RelV y u) : ∃ tb, PySem.W.Looks (model X.prog X.w) s.heap (typeOf u) tb ∧ PySem.W.notFirst X.K C tb = true := by
  have at_ : ∀ {b : Addr} {o : Obj} {T : Value}, s.heap.get? b = some o → o.cls = T → PySem.W.Looks (model X.prog X.w) s.heap (typeOf (.ref b)) T := fun e c A Q E s' k q => wpAny_typeOf_ref (k _ _ e) (by rw [c]; exact q)
  cases h with
  | ins h n =>
    cases r
    obtain ⟨m, J, _⟩ := ins_get I.hok h
    obtain ⟨od, J, _⟩ := J.look
    exact ⟨_, J.type, n⟩
  | lst h n =>
    cases r
    obtain ⟨its, rv, ⟨o, nn, ho, hc, _⟩, _⟩ := I.list h
    exact ⟨_, at_ ho hc, n⟩
  | tup h n =>
    cases r
    obtain ⟨its, rv, ⟨o, ho, hc, _⟩, _⟩ := I.tuple h
    exact ⟨_, at_ ho hc, n⟩
theorem op_eqOwn (F : FnOk X.prog X.w X.K X.mg X.base CX k f fd ps sp) (hr : Room k X.A) (hs : PySem.W.findIn X.K (.ref C) "__eq__" = some (some (.ref f))) (hf : PySem.W.isFn X.K (.ref f) = true) (hb : Binds X.K fd ps []) (hx : Passes CX X E) :
    OpR X (compareOp .Eq) (rOwn X.K C sp E false) := by
  intro pins s σ H x y v u Q I rx ry h
  obtain ⟨a, dx, fs, rfl, ha, ho, q⟩ := h
  cases rx
  obtain ⟨m, J, _⟩ := ins_get I.hok ha
  obtain ⟨od, J, _⟩ := J.look
  obtain ⟨tb, lt, nf⟩ := ho.looks I ry
  obtain ⟨mm, hF⟩ := I.fr
  have hun := hr.un
  refine PySem.W.cmp_K (op := .Eq) (tb := tb) (by omega) hF I.ok.mod.kin J lt nf hs hf ?_
  refine wpAny_mono (run_fn (us := [.ref a, u]) (vs := [.ref a, y]) (dvs := []) (ds := []) F hr hb .nil hx I (.cons rfl (.cons ry .nil)) (by rw [List.append_nil]; exact q)) (fun r s' z => ?_) fun _ _ z => z
  obtain ⟨v', H', I', rv, c, rfl, q'⟩ := z
  cases rv
  have q2 : Q (.bl c) H' := by
    have e : (false ^^ c) = c := by cases c <;> rfl
    rw [e] at q'
    exact q'
  exact ⟨.bl c, H', I', rfl, q2⟩
theorem op_neOwn (F : FnOk X.prog X.w X.K X.mg X.base CX k f fd ps sp) (hr : Room (k + 1) X.A) (hs : PySem.W.findIn X.K (.ref C) "__eq__" = some (some (.ref f))) (hf : PySem.W.isFn X.K (.ref f) = true) (hb : Binds X.K fd ps []) (hx : Passes CX X E)
    (hm : PySem.W.mroIn X.K C (.type "object") = some true) (hne : PySem.W.findIn X.K (.ref C) "__ne__" = some (some (.builtin "object.__ne__"))) : OpR X (compareOp .NotEq) (rOwn X.K C sp E true) := by
  intro pins s σ H x y v u Q I rx ry h
  obtain ⟨a, dx, fs, rfl, ha, ho, q⟩ := h
  cases rx
  obtain ⟨m, J, _⟩ := ins_get I.hok ha
  obtain ⟨od, J, _⟩ := J.look
  obtain ⟨tb, lt, nf⟩ := ho.looks I ry
  have hun := hr.un
  have e0 := I.env0
  have hl := F.len _ _ _ _ q
  refine EqO.rich_ne (by omega) I.kIn J lt nf hm hne hs hf ?_
  refine codeAny_mono (F.run X.A.in1 X.stack s H ⟨[.ref a, u], []⟩ [.ref a, u] [.ref a, y] _ E hr.in1 ⟨e0.frames, e0.mod, e0.bs, e0.bsz, e0.funs, e0.frf, e0.hok, e0.bare⟩ (by
    have z := hb s [.ref a, u] I.kIn (by simpa using hl)
    simpa using z) (.cons rfl (.cons ry .nil)) q) fun r s' z => ?_
  match r, z with
  | .error e, z => exact hx pins σ H s e s' I z
  | .ok (.ret w'), z =>
    obtain ⟨v', H', I', rv, c, rfl, q'⟩ := I.after z
    cases rv
    have q2 : Q (.bl (!c)) H' := by
      have e : (true ^^ c) = !c := by cases c <;> rfl
      rw [e] at q'
      exact q'
    exact ⟨c, rfl, .bl (!c), H', I', rfl, q2⟩
  | .ok .next, z => exact False.elim z
  | .ok .brk, z => exact False.elim z
  | .ok .cont, z => exact False.elim z
end
end L2

set_option maxHeartbeats 4000000
namespace He
open PySem PySem.Spec PyProof.Rows L2
/-- what == and != ask of an own class; cs: the classes whose instances may stand on the other side -/
def ownB (K : PySem.W.Frag) (C : Addr) (cs : List Addr) : Bool := decide (PySem.W.mroIn K C (.type "object") = some true) && (decide (PySem.W.findIn K (.ref C) "__ne__" = some (some (.builtin "object.__ne__"))) && (cs.all (fun D => PySem.W.notFirst K C (.ref D)) &&
  (PySem.W.notFirst K C (.type "list") && PySem.W.notFirst K C (.type "tuple"))))
structure OwnC (K : PySem.W.Frag) (C : Addr) (cs : List Addr) : Prop where
  ob : PySem.W.mroIn K C (.type "object") = some true
  ne : PySem.W.findIn K (.ref C) "__ne__" = some (some (.builtin "object.__ne__"))
  nf : ∀ D ∈ cs, PySem.W.notFirst K C (.ref D) = true
  nl : PySem.W.notFirst K C (.type "list") = true
  nt : PySem.W.notFirst K C (.type "tuple") = true
theorem ownB_ok {K : PySem.W.Frag} {C : Addr} {cs : List Addr} (h : ownB K C cs = true) : OwnC K C cs := by
  unfold ownB at h
  rw [Bool.and_eq_true, Bool.and_eq_true, Bool.and_eq_true, Bool.and_eq_true] at h
  obtain ⟨h1, h2, h3, h4, h5⟩ := h
  exact ⟨of_decide_eq_true h1, of_decide_eq_true h2, List.all_eq_true.mp h3, h4, h5⟩
end He

set_option maxHeartbeats 4000000
/-! ### a def of an own class that begins with super().m(..), m a plain def above -/
namespace L2
open PySem PySem.Spec PyProof.Rows ClX NdefX
/-- the text: f the def, D its class, cc the cell that holds D, cda the code object -/
structure SupF (K : PySem.W.Frag) (file : Str) (x qual : Str) (params : Arguments) (body : List Stmt) (scope : Scope) (D f cc cda : Addr) (fd : FuncData) : Prop where
  ex : ∃ (oc : Value) (od : Option Addr) (doc pm : Value) (an : Option Addr) (ct : Value) (osl : Array (Option Value)), fd = PySem.W.ksFn x qual params body scope .none .none doc pm an (.ref cda) ct cc ∧ K.lookup f = some ⟨oc, od, .func fd, osl⟩
  cd : PySem.W.codeIn K (.ref cda) qual = true
  co : ∃ (ccl : Value) (cdd : Option Addr) (vs : Array Value) (ccs : Array (Option Value)) (tf : Tok), K.lookup cda = some ⟨ccl, cdd, .fields vs, ccs⟩ ∧ vs[2]? = some (.str file tf)
  cell : ∃ (cl : Value) (cld : Option Addr) (csl : Array (Option Value)), K.lookup cc = some ⟨cl, cld, .cell (some (.ref D)), csl⟩
/-- what of the program itself is asked -/
structure SupP (P : Program) (file : Str) : Prop where
  file : ((P.main.file : Str) == file) = true
  no : (P.main.scope.names.lookup ("super" : Str)).isSome = false
/-- above D, m is the def at g; D counts as its own -/
structure SupC (K : PySem.W.Frag) (D : Addr) (m : Str) (g : Addr) : Prop where
  cls : ∃ cd, PySem.W.clsIn K D = some cd
  sub : PySem.W.mroIn K D (.ref D) = some true
  at_ : PySem.W.ks_superIn K D D m = some (some (.ref g))
  ty : PySem.W.typeIn K (.ref g) = some (.type "function")
  fi : PySem.W.fnIn K g = true
  op : PySem.W.nsIn K cStatics "thirdparty.any" = some none
/-- a block whose first evaluation knows where it stands -/
structure PS0 (X : Cx) (whole st : List Stmt) (t : TS) : Prop where
  run : ∀ (pins : List (Addr × Obj)) (s : Shared) (σ : L2.St) (H : Hp) (D : Ends), Inv X pins σ H s → t D σ H → _root_.PySem.wpAt (model X.prog X.w) X.A (.func whole X.env) (execs st X.env) (SP X pins D) X.xe s
/-- super().m(e, ..) as the first statement, the object in slot 0 an exception of D without a dict -/
def tSup (D : Addr) (sp : Sp) (E : XK) (ta : TA) (tr : TS) : TS := fun En σ H => ∃ a : Addr, σ[0]? = some (some (.ref a)) ∧ H a = some (exo a D none) ∧ ta σ H fun vs H1 => sp (.ref a :: vs) H1 (fun _ H2 => tr En σ H2) E
section
variable {X : Cx} {CX : CXT} {whole rest : List Stmt} {k : Nat} {D f g cc cda : Addr} {fd fdg : FuncData} {file x qual m : Str} {params : Arguments} {body : List Stmt} {scope : Scope} {ps : List Str} {sp : Sp} {E : XK} {ta : TA} {tr : TS} {ar : Arg} {e : Expr} {es : List Expr} {p0 p1 apos pos pos' : Pos} {pl : Sem Bool}
theorem ps0_super (Z : SupF X.K file x qual params body scope D f cc cda fd) (SP_ : SupP X.prog file) (C : SupC X.K D m g) (F : FnOk X.prog X.w X.K X.mg X.base CX k g fdg ps sp) (hr : Room k X.A) (hb : Binds X.K fdg ps []) (hx : Passes CX X E)
    (hm : X.mg "super" = none) (ha : PA X (e :: es) ta) (hrest : PSs X rest tr)
    (hfu : X.env.func = some f) (hco : X.env.code = .ref cda) (hcl : X.env.cells.lookup ("__class__" : Str) = some cc) (hks : X.env.kindOf "super" = some .globalImplicit) (hkc : X.env.kindOf "__class__" = some .free)
    (hp : (params.posonlyargs ++ params.args).head? = some ar) (hka : X.env.kindOf ar.arg = some .local) (hn0 : X.N[0]? = some ar.arg) (hat : (m == ("__class__" : Str)) = false := by decide)
    (hst : starEach (e :: es) X.env = (false, eval e X.env) :: starEach es X.env := by rfl) (hpl : (backTo pos (starEach es X.env)).any (·.1) = false := by rfl)
    (he : eval (.Call (.Attribute (.Call (.Name "super" p0) [] [] p1) m apos) (e :: es) [] pos) X.env = (do
      let ov ← attributeBase (.Call (.Name "super" p0) [] [] p1) m X.env (eval (.Call (.Name "super" p0) [] [] p1) X.env)
      standAt apos.atName
      let (f, first) ← holding [ov] (getMethod ov m pl)
      callWith pos f first (backTo pos (starEach (e :: es) X.env)) []) := by rfl)
    (hi : interactive X.env = false := by rfl) (hs : swapsWith (.Call (.Attribute (.Call (.Name "super" p0) [] [] p1) m apos) (e :: es) [] pos) none pos'.line X.env = pure false := by rfl) :
    PS0 X whole (.Expr (.Call (.Attribute (.Call (.Name "super" p0) [] [] p1) m apos) (e :: es) [] pos) pos' :: rest) (tSup D sp E ta tr) := by
  refine ⟨fun pins s σ H En I ⟨a, h0, hH, q⟩ => ?_⟩
  obtain ⟨oc, od, doc, pm, an, ct, osl, rfl, lf⟩ := Z.ex
  obtain ⟨ccl, cdd, vs, ccs, tf, lc, hv⟩ := Z.co
  obtain ⟨cl, cld, csl, lcc⟩ := Z.cell
  obtain ⟨cd, hcd⟩ := C.cls
  have KX := I.kIn
  obtain ⟨ox, odx, J⟩ := exo_inst I hH (fun _ z => nomatch z)
  refine PySem.ks_wpAt_execs_cons (_root_.PySem.ks_wpAt_Expr_any (pos := pos') (_root_.PySem.ks_wpAt_MethodCall (pl := pl) ?_ he) hi hs)
  refine _root_.PySem.ks_wpAt_super_base hks hkc hat hfu (KX _ _ lf) rfl hp hco (KX _ _ lc) rfl hv SP_.file SP_.no ?_
  obtain ⟨mb, b1, b2⟩ := I.mod.blt
  refine PySem.W.ks_loadName_global I.ok.kind hks (Calls.loadGlobal_builtin (by rw [I.ok.glob]; exact I.mod.glob.keeps I.bk) hm (by rw [I.ok.blt]; exact b1.keeps I.bk) ((b2 "super" (by decide)).trans (show bootBuiltins "super" = some (.type "super") by first | rfl | decide +kernel | kernel_rfl)) ⟨rfl, ?_⟩)
  refine wpAny_loadName_free I.ok.kind hkc hcl ⟨_, KX _ _ lcc, rfl⟩ ?_
  obtain ⟨mm, hns, hl⟩ := I.loc
  obtain ⟨u, ru, lk⟩ := hl 0 ar.arg (.ref a) hn0 h0 (.inl hka)
  obtain rfl : u = Value.ref a := ru
  have hma : mm ar.arg = some (.ref a) := by
    rcases lk with ⟨_, z⟩ | ⟨z, _⟩
    · exact z
    · rcases z with z | z <;> rw [hka] at z <;> cases z
  refine wpAny_loadName_local I.ok.kind hka hns hma ?_
  obtain ⟨oD, hD1, hD2⟩ : ∃ oD, s.heap.get? D = some oD ∧ oD.data = .cls cd := by
    unfold PySem.W.clsIn at hcd
    split at hcd
    · rename_i c d cd' sl ho
      cases hcd
      exact ⟨_, KX _ _ ho, rfl⟩
    · cases hcd
  refine ks_wpAny_isType_cls hD1 hD2 ⟨rfl, ?_⟩
  obtain ⟨hh, gg, dd, tt, os⟩ := s
  refine ks_wpAny_call_super hD1 hD2 J.at_ J.cls (fun c e => ?_) (PySem.W.looks_mroIn KX C.sub) (fun h' e1 k1 => ?_)
  · have := J.no
    unfold PySem.W.notCls at this
    rw [e] at this
    exact Bool.noConfusion this
  have I1 : Inv X ((hh.objs.size, PySem.W.ks_superObj D a D) :: pins) σ H ⟨h', gg, dd, tt, os⟩ := pin_new (t' := tt) I k1 (Nat.le_refl _) e1 (fun v z => nomatch z)
  obtain ⟨_, _, J1⟩ := exo_inst I1 hH (fun _ z => nomatch z)
  obtain ⟨of, hof, hofc⟩ : ∃ of, h'.get? g = some of ∧ of.cls = .type "function" := by
    have ht' : (X.K.lookup g).map (·.cls) = some (.type "function") := C.ty
    cases z : X.K.lookup g with
    | none => rw [z] at ht'; cases ht'
    | some of => rw [z] at ht'; exact ⟨of, I1.kIn _ _ z, Option.some.inj ht'⟩
  have hat2 := C.at_
  unfold PySem.W.ks_superIn at hat2
  rw [hcd] at hat2
  refine ks_wpAny_getMethod_super (pin_at I1) (PySem.W.looks_opaque I1.kIn C.op) (l₀ := cd.mro) (fun A Q E s k q => wpAny_bind ((PySem.W.looks_clsIn I1.kIn hcd) A _ E s k (wpAny_pure q))) rfl I1.kIn hat2 hof hofc (PySem.W.ks_ne I1.kIn J1 hcd) hat ?_
  have I2 : Inv X ((h'.objs.size, PySem.W.methodObj (.ref g) (.ref a)) :: (hh.objs.size, PySem.W.ks_superObj D a D) :: pins) σ H { (⟨h', gg, dd, tt, os⟩ : Shared) with heap := h'.push (PySem.W.methodObj (.ref g) (.ref a)), toks := tt + 1 } := met_new I1
  refine callwith_cm I2 (base_none I1 (Nat.le_refl _)) C.fi ?_ hst hpl
  refine thn (ha.run pos _ _ σ H _ I2 q) fun us s3 ⟨vs, H1, I3, rv, q1⟩ => ⟨⟨pin_at I3, I3.kIn⟩, ?_⟩
  have r2 : Vals (.ref a :: vs) (.ref a :: us) := .cons rfl rv
  have hlen : (Value.ref a :: us).length = ps.length := by rw [← r2.length]; exact F.len _ _ _ _ q1
  have z : wpAny (model X.prog X.w) X.A (call (.ref h'.objs.size) us) (EP X ((h'.objs.size, PySem.W.methodObj (.ref g) (.ref a)) :: (hh.objs.size, PySem.W.ks_superObj D a D) :: pins) σ (fun _ H2 => tr En σ H2)) X.xe s3 := by
    refine wpAny_call (PySem.W.method_call (pin_at I3) (codeAny_mono (F.run X.A X.stack s3 H1 ⟨.ref a :: us, []⟩ (.ref a :: us) (.ref a :: vs) (fun _ H2 => tr En σ H2) E hr I3.env0 ?_ r2 q1) fun r s' hq => ?_))
    · have y := hb s3 (.ref a :: us) I3.kIn (by rw [List.append_nil]; exact hlen)
      rw [List.append_nil] at y
      exact y
    · cases r with
      | error e => exact hx _ σ H1 s3 e s' I3 hq
      | ok fl =>
        cases fl with
        | ret u => exact I3.after hq
        | next => exact False.elim hq
        | brk => exact False.elim hq
        | cont => exact False.elim hq
  refine thn z fun v s4 ⟨_, H2, I4, _, q2⟩ => ?_
  exact _root_.PySem.wpAt_of_wpAny (hrest.run pins s4 σ H2 En (unpin (unpin I4)) q2)
end
abbrev supNF (x qual : Str) (params : Arguments) (body : List Stmt) (scope : Scope) (cc cda : Addr) : NF := ⟨x, qual, params, body, scope, [("__class__", cc)], cda⟩
section
variable {CX : CXT} {P : Program} {w : World} {K : PySem.W.Frag} {mg : Str → Option Value} {base : Heap} {N ps : List Str} {k : Nat} {D f cc cda : Addr} {fd : FuncData} {file x qual : Str} {params : Arguments} {body : List Stmt} {scope : Scope} {sp : Sp}
/-- its promise, by its body -/
theorem fn_super (Z : SupF K file x qual params body scope D f cc cda fd) (S : NScope N ps ["__class__"] scope) (len : ∀ vs H Q E, sp vs H Q E → vs.length = ps.length)
    (hbody : ∀ (A : Around) (outer : List Env) (s : Shared) (H : Hp) (vs : List V) (Q : VK) (E : XK), Room k (A.deeper (envF (supNF x qual params body scope cc cda) f s.heap.objs.size)) → sp vs H Q E →
      ∃ t, PS0 (ncx CX P w K mg base N (supNF x qual params body scope cc cda) f A outer s H E) body body t ∧ t { nx := fun _ H' => Q .non H', rt := Q } (startF N vs [some (.ref D)]) H) :
    FnOk P w K mg base CX (k + 1) f fd ps sp := by
  obtain ⟨oc, od, doc, pm, an, ct, osl, rfl, lf⟩ := Z.ex
  obtain ⟨cl, cld, csl, lcc⟩ := Z.cell
  refine ⟨len, fun A outer s H args us vs Q E hr e0 hb r hsp => ?_⟩
  have hl := len _ _ _ _ hsp
  have KX : K.In s.heap := e0.mod.kin.keeps fun b o e => (e0.bs b o e).1
  have lim : s.heap.NoLimit := e0.mod.nolimit.keeps fun b o e => (e0.bs b o e).1
  have C : CellsAt (supNF x qual params body scope cc cda).cl ["__class__"] [some (.ref D)] s.heap H := by
    have hh : ∀ y c, (supNF x qual params body scope cc cda).cl.lookup y = some c → y = "__class__" ∧ c = cc := fun y c e => by
      have e : (if (y == ("__class__" : Str)) = true then some cc else none) = some c := by
        rw [← e]
        show _ = List.lookup y [(("__class__" : Str), cc)]
        rw [List.lookup_cons]
        cases (y == ("__class__" : Str)) <;> rfl
      by_cases q : (y == ("__class__" : Str)) = true
      · rw [if_pos q] at e
        exact ⟨beq_iff_eq.mp q, (Option.some.inj e).symm⟩
      · rw [if_neg q] at e
        cases e
    refine ⟨rfl, fun y c e => ?_, fun a b c e1 e2 => (hh a c e1).1.trans (hh b c e2).1.symm, fun i y hi => ?_⟩
    · rw [(hh y c e).2]
      have z := e0.mod.kin _ _ lcc
      exact ⟨(e0.bs _ _ z).2, _, ⟨_, KX _ _ lcc, rfl⟩⟩
    · match i, hi with
      | 0, hi =>
        have ey : y = "__class__" := (Option.some.inj hi).symm
        subst ey
        refine ⟨cc, by show List.lookup _ [(("__class__" : Str), cc)] = _; rw [List.lookup_cons, beq_self_eq_true], fun v hv => ?_⟩
        have ev : v = .ref D := (Option.some.inj (Option.some.inj hv)).symm
        subst ev
        exact ⟨.ref D, rfl, _, KX _ _ lcc, rfl⟩
      | i + 1, hi => cases hi
  obtain ⟨t, ht, hq⟩ := hbody A outer s H vs Q E (hr.deeper _) hsp
  refine ks_codeAny_call_defAt (body := body) (binds := ps.zip us) hr.depth (KX _ _ lf) rfl lim (PySem.W.codeRec_of KX Z.cd) rfl hb (fun y hy => S.nocell y hy) (fun ⟨n, _⟩ hy => S.par n (List.of_mem_zip hy).1) (fun h₁ hns kp => ?_) S.co S.gen S.kind
  have I : Inv (ncx CX P w K mg base N (supNF x qual params body scope cc cda) f A outer s H E) [] (startF N vs [some (.ref D)]) H { s with heap := h₁, toks := s.toks + (ps.zip us).length } := inv_startN S hr.hd e0 hl r C hns kp
  refine _root_.PySem.wpAt_mono (ht.run [] _ _ H _ I hq) (fun fl s' hs => ?_) fun e s' hs => hs
  have fin : ∀ {σ' : L2.St} {H' : Hp} {v : V} {u : Value}, Inv (ncx CX P w K mg base N (supNF x qual params body scope cc cda) f A outer s H E) [] σ' H' s' → L2.RelV v u → Q v H' → CE outer P w H s Q u s' :=
    fun {σ' H' v u} J rv q => ⟨v, H', J.os, J.bare, J.base, J.hok, rv, q⟩
  cases fl with
  | ret u =>
    obtain ⟨v, σ', H', J, rv, q⟩ := hs
    exact fin J rv q
  | next =>
    obtain ⟨σ', H', J, q⟩ := hs
    exact fin (v := V.non) (u := Value.none) J rfl q
  | brk =>
    obtain ⟨_, _, _, q⟩ := hs
    exact False.elim q
  | cont =>
    obtain ⟨_, _, _, q⟩ := hs
    exact False.elim q
theorem SupF.binds (Z : SupF K file x qual params body scope D f cc cda fd) (h : ∀ (doc pm : Value) (an : Option Addr) (ct : Value) (us : List Value), us.length = ps.length → bindArgs (PySem.W.ksFn x qual params body scope .none .none doc pm an (.ref cda) ct cc) ⟨us, []⟩ = pure (ps.zip us)) : Binds K fd ps [] := by
  obtain ⟨oc, od, doc, pm, an, ct, osl, rfl, lf⟩ := Z.ex
  exact .all fun us hl => h doc pm an ct us hl
end
end L2

set_option maxHeartbeats 4000000
/-! ### a head's facts, with defs of classes that say super() -/
namespace He
open PySem PySem.Spec PyProof.Rows L2
structure SupD where
  cls : Str
  name : Str
  qual : Str
  params : Arguments
  body : List Stmt
  scope : Scope
abbrev SupW : Type := Option (Str × Str × Arguments × FuncBody × Scope × Addr × Addr × Bool)
def supShape (K : PySem.W.Frag) (file : Str) (D : Addr) (qual : Str) (cl : List (Str × Addr)) (code dV kV : Value) : Bool := match cl, code, dV, kV with
  | [(n, cc)], .ref cda, .none, .none => (n == ("__class__" : Str)) && (PySem.W.codeIn K (.ref cda) qual && ((match K.lookup cda with
      | some ⟨_, _, .fields vs, _⟩ => (match (vs[2]? : Option Value) with
        | some (Value.str y _) => y == file
        | _ => false)
      | _ => false) && (match K.lookup cc with
      | some ⟨_, _, .cell (some (.ref a)), _⟩ => a == D
      | _ => false)))
  | _, _, _, _ => false
def supW (K : PySem.W.Frag) (file : Str) (d : SupD) : SupW := match K.lookup (ma K (ga K d.cls) d.name) with
  | some ⟨_, _, .func fd, _⟩ => some (fd.name, fd.qualname, fd.params, fd.body, fd.scope, fd.globals, fd.builtins, supShape K file (ga K d.cls) d.qual fd.closure fd.code fd.defaults fd.kwdefaults)
  | _ => none
def SupD.val (d : SupD) : SupW := some (d.name, d.qual, d.params, .stmts d.body, d.scope, mainGlobals, builtinsNs, true)
theorem SupD.ok {K : PySem.W.Frag} {file : Str} {d : SupD} (e : supW K file d = d.val) : ∃ cc cda fd, SupF K file d.name d.qual d.params d.body d.scope (ga K d.cls) (ma K (ga K d.cls) d.name) cc cda fd := by
  unfold supW at e
  cases q : K.lookup (ma K (ga K d.cls) d.name) with
  | none =>
    rw [q] at e
    cases e
  | some o =>
    obtain ⟨oc, od, dt, osl⟩ := o
    rw [q] at e
    cases dt with
    | func fd =>
      obtain ⟨n1, n2, n3, n4, n5, n6, n7, n8, n9, n10, n11, n12, n13, n14, n15⟩ := fd
      have e2 : (some (n1, n2, n3, n4, n5, n6, n15, supShape K file (ga K d.cls) d.qual n7 n13 n8 n9) : SupW) = some (d.name, d.qual, d.params, .stmts d.body, d.scope, mainGlobals, builtinsNs, true) := e
      simp only [Option.some.injEq, Prod.mk.injEq] at e2
      obtain ⟨h1, h2, h3, h4, h5, h6, h7, h8⟩ := e2
      subst h1 h2 h3 h4 h5 h6 h7
      unfold supShape at h8
      split at h8
      · rename_i n cc cda
        obtain ⟨a1, a2⟩ := ba h8
        obtain ⟨a3, a4⟩ := ba a2
        obtain ⟨a5, a6⟩ := ba a4
        obtain rfl : n = "__class__" := beq_iff_eq.mp a1
        refine ⟨cc, cda, _, ⟨oc, od, n10, n11, n12, n14, osl, rfl, q⟩, a3, ?_, ?_⟩
        · split at a5
          · rename_i c1 c2 vs c3 hl
            split at a5
            · rename_i y t hv
              obtain rfl : y = file := beq_iff_eq.mp a5
              exact ⟨c1, c2, vs, c3, t, hl, hv⟩
            · cases a5
          · cases a5
        · split at a6
          · rename_i c1 c2 a c3 hl
            obtain rfl : a = ga K d.cls := beq_iff_eq.mp a6
            exact ⟨c1, c2, c3, hl⟩
          · cases a6
      · cases h8
    | _ => cases e
/-- what super().m asks of the class D, m the def at g above it -/
def supCB (K : PySem.W.Frag) (D : Addr) (m : Str) (g : Addr) : Bool := (PySem.W.clsIn K D).isSome && (decide (PySem.W.mroIn K D (.ref D) = some true) && (decide (PySem.W.ks_superIn K D D m = some (some (.ref g))) && (decide (PySem.W.typeIn K (.ref g) = some (.type "function")) &&
  (PySem.W.fnIn K g && decide (PySem.W.nsIn K cStatics "thirdparty.any" = some none)))))
theorem supCB_ok {K : PySem.W.Frag} {D g : Addr} {m : Str} (h : supCB K D m g = true) : SupC K D m g := by
  unfold supCB at h
  rw [Bool.and_eq_true, Bool.and_eq_true, Bool.and_eq_true, Bool.and_eq_true, Bool.and_eq_true] at h
  obtain ⟨h1, h2, h3, h4, h5, h6⟩ := h
  exact ⟨Option.isSome_iff_exists.mp h1, of_decide_eq_true h2, of_decide_eq_true h3, of_decide_eq_true h4, h5, of_decide_eq_true h6⟩
abbrev AlS : Type := AlZ × List SupW
def obsS (n : Nat) (fa : List Fa) (fn : List DefD) (tf : List Defn) (sd : List SupD) (file : Str) (ex : PySem.W.Frag → Bool) (g : Addr → Option Obj) : AlS := (obsY n fa fn tf ex g, sd.map fun d => supW (frY n g) file d)
def valS (fn : List DefD) (sd : List SupD) : AlS := (valZ fn, sd.map SupD.val)
structure SaysS (fa : List Fa) (fn : List DefD) (tf : List Defn) (sd : List SupD) (file : Str) (ex : PySem.W.Frag → Bool) (h : Heap) (K : PySem.W.Frag) : Prop where
  y : SaysY fa fn tf ex h K
  s : (sd.map fun d => supW K file d) = sd.map SupD.val
theorem SaysS.sup {fa : List Fa} {fn : List DefD} {tf : List Defn} {sd : List SupD} {file : Str} {ex : PySem.W.Frag → Bool} {h : Heap} {K : PySem.W.Frag} (c : SaysS fa fn tf sd file ex h K) (i : Nat) {d : SupD} (hi : sd[i]? = some d := by rfl) :
    ∃ cc cda fd, SupF K file d.name d.qual d.params d.body d.scope (ga K d.cls) (ma K (ga K d.cls) d.name) cc cda fd := by
  have e : (sd.map fun d => supW K file d)[i]? = (sd.map SupD.val)[i]? := by rw [c.s]
  rw [List.getElem?_map, List.getElem?_map, hi] at e
  exact SupD.ok (Option.some.inj e)
def hookS (n : Nat) (fa : List Fa) (fn : List DefD) (tf : List Defn) (sd : List SupD) (file : Str) (ex : PySem.W.Frag → Bool) : PySem.W.Hook where
  α := AlS
  obs := fun s => obsS n fa fn tf sd file ex s.heap.get?
  val := fun _ => valS fn sd
  says := fun _ h => ∃ K : PySem.W.Frag, K.In h ∧ SaysS fa fn tf sd file ex h K
  of := fun _ _ e => ⟨_, frT_in, saysY_of (congrArg (fun z : AlS => z.1) e), congrArg (fun z : AlS => z.2) e⟩
  keeps := fun _ _ _ ⟨K, hK, c⟩ k => ⟨K, PySem.W.Frag.In.keeps hK k, ⟨⟨c.y.d, c.y.more, c.y.hd, c.y.out, fun p hp => k _ _ (c.y.empty p hp)⟩, c.s⟩⟩
theorem obsS_eq {n : Nat} {fa : List Fa} {fn : List DefD} {tf : List Defn} {sd : List SupD} {file : Str} {ex : PySem.W.Frag → Bool} {g : Addr → Option Obj} {s : Shared} (h : ∀ a, g a = s.heap.get? a) : obsS n fa fn tf sd file ex g = (hookS n fa fn tf sd file ex).obs s := by
  have e : g = s.heap.get? := funext h
  rw [e] <;> rfl
end He

set_option maxHeartbeats 0
namespace K00
open PySem PySem.Spec PyProof.Rows L2
def top (i : Nat) : Stmt := PySem.Challenge.pw_roundwright_k00_errors_of_all_parts.main.body.getD i (.Pass ⟨0, 0, 0, 0⟩)
abbrev s_words : Stmt := top 2
abbrev s_law_begun : Stmt := top 44
abbrev s_law_mixed : Stmt := top 45
abbrev s_law_take : Stmt := top 46
abbrev s_law_pick : Stmt := top 47
abbrev s_law_any : Stmt := top 48
abbrev s_law_kinds : Stmt := top 49
abbrev s_law_plain_errors : Stmt := top 50
abbrev s_law_errors_of : Stmt := top 51
abbrev s_law : Stmt := top 52
abbrev i_RoundError : Stmt := inClass (top 1) 0
abbrev i_BadDeeds : Stmt := inClass (top 6) 0
abbrev i_BadJournal : Stmt := inClass (top 11) 0
abbrev i_BadLead : Stmt := inClass (top 15) 0
abbrev i_BadLog : Stmt := inClass (top 17) 0
abbrev i_BadNumber : Stmt := inClass (top 22) 0
abbrev i_BadProblem : Stmt := inClass (top 26) 0
abbrev i_BadProgram : Stmt := inClass (top 27) 0
abbrev i_BadSizes : Stmt := inClass (top 29) 0
abbrev i_BadTable : Stmt := inClass (top 32) 0
abbrev i_BadText : Stmt := inClass (top 33) 0
abbrev i_BadWeb : Stmt := inClass (top 35) 0
abbrev i_BadWork : Stmt := inClass (top 37) 0
abbrev i_CannotCome : Stmt := inClass (top 38) 0
abbrev i_TooMany : Stmt := inClass (top 42) 0
def plainE : List Str := ["BadBytes", "BadColouring", "BadDeed", "BadDraft", "BadFront", "BadHouse", "BadHouses", "BadKind", "BadLabelling", "BadLabels", "BadLetters", "BadMap", "BadMarks", "BadNames", "BadNet", "BadOrder", "BadPhrase", "BadPiece", "BadSession", "BadSpans", "BadState", "BadTree", "BadWindow", "NoProgram", "NotBending", "NotNow"]
def fieldE : List (Str × Str) := [("BadDeeds", "at"), ("BadJournal", "number"), ("BadLead", "part"), ("BadLog", "at"), ("BadNumber", "part"), ("BadProblem", "part"), ("BadProgram", "part"), ("BadSizes", "part"), ("BadTable", "part"), ("BadText", "at"), ("BadWeb", "part"), ("BadWork", "part"), ("CannotCome", "number"), ("TooMany", "most")]
def ds_words : He.DefD := ⟨("_words", none), "_words", "_words", defArgs s_words, defBody s_words, defScope s_words, [], []⟩
def ds_law_begun : He.DefD := ⟨("_law_begun", none), "_law_begun", "_law_begun", defArgs s_law_begun, defBody s_law_begun, defScope s_law_begun, [], []⟩
def ds_law_mixed : He.DefD := ⟨("_law_mixed", none), "_law_mixed", "_law_mixed", defArgs s_law_mixed, defBody s_law_mixed, defScope s_law_mixed, [], []⟩
def ds_law_take : He.DefD := ⟨("_law_take", none), "_law_take", "_law_take", defArgs s_law_take, defBody s_law_take, defScope s_law_take, [], []⟩
def ds_law_pick : He.DefD := ⟨("_law_pick", none), "_law_pick", "_law_pick", defArgs s_law_pick, defBody s_law_pick, defScope s_law_pick, [], []⟩
def ds_law_any : He.DefD := ⟨("_law_any", none), "_law_any", "_law_any", defArgs s_law_any, defBody s_law_any, defScope s_law_any, [], []⟩
def ds_law_kinds : He.DefD := ⟨("_law_kinds", none), "_law_kinds", "_law_kinds", defArgs s_law_kinds, defBody s_law_kinds, defScope s_law_kinds, [], []⟩
def ds_law_plain_errors : He.DefD := ⟨("_law_plain_errors", none), "_law_plain_errors", "_law_plain_errors", defArgs s_law_plain_errors, defBody s_law_plain_errors, defScope s_law_plain_errors, [], []⟩
def ds_law_errors_of : He.DefD := ⟨("_law_errors_of", none), "_law_errors_of", "_law_errors_of", defArgs s_law_errors_of, defBody s_law_errors_of, defScope s_law_errors_of, [], []⟩
def ds_law : He.DefD := ⟨("law", none), "law", "law", defArgs s_law, defBody s_law, defScope s_law, [], []⟩
def di_RoundError : He.DefD := ⟨("RoundError", some "__init__"), "__init__", "RoundError.__init__", defArgs i_RoundError, defBody i_RoundError, defScope i_RoundError, [He.Dv.str ""], []⟩
def q_BadDeeds : He.SupD := ⟨"BadDeeds", "__init__", "BadDeeds.__init__", defArgs i_BadDeeds, defBody i_BadDeeds, defScope i_BadDeeds⟩
def q_BadJournal : He.SupD := ⟨"BadJournal", "__init__", "BadJournal.__init__", defArgs i_BadJournal, defBody i_BadJournal, defScope i_BadJournal⟩
def q_BadLead : He.SupD := ⟨"BadLead", "__init__", "BadLead.__init__", defArgs i_BadLead, defBody i_BadLead, defScope i_BadLead⟩
def q_BadLog : He.SupD := ⟨"BadLog", "__init__", "BadLog.__init__", defArgs i_BadLog, defBody i_BadLog, defScope i_BadLog⟩
def q_BadNumber : He.SupD := ⟨"BadNumber", "__init__", "BadNumber.__init__", defArgs i_BadNumber, defBody i_BadNumber, defScope i_BadNumber⟩
def q_BadProblem : He.SupD := ⟨"BadProblem", "__init__", "BadProblem.__init__", defArgs i_BadProblem, defBody i_BadProblem, defScope i_BadProblem⟩
def q_BadProgram : He.SupD := ⟨"BadProgram", "__init__", "BadProgram.__init__", defArgs i_BadProgram, defBody i_BadProgram, defScope i_BadProgram⟩
def q_BadSizes : He.SupD := ⟨"BadSizes", "__init__", "BadSizes.__init__", defArgs i_BadSizes, defBody i_BadSizes, defScope i_BadSizes⟩
def q_BadTable : He.SupD := ⟨"BadTable", "__init__", "BadTable.__init__", defArgs i_BadTable, defBody i_BadTable, defScope i_BadTable⟩
def q_BadText : He.SupD := ⟨"BadText", "__init__", "BadText.__init__", defArgs i_BadText, defBody i_BadText, defScope i_BadText⟩
def q_BadWeb : He.SupD := ⟨"BadWeb", "__init__", "BadWeb.__init__", defArgs i_BadWeb, defBody i_BadWeb, defScope i_BadWeb⟩
def q_BadWork : He.SupD := ⟨"BadWork", "__init__", "BadWork.__init__", defArgs i_BadWork, defBody i_BadWork, defScope i_BadWork⟩
def q_CannotCome : He.SupD := ⟨"CannotCome", "__init__", "CannotCome.__init__", defArgs i_CannotCome, defBody i_CannotCome, defScope i_CannotCome⟩
def q_TooMany : He.SupD := ⟨"TooMany", "__init__", "TooMany.__init__", defArgs i_TooMany, defBody i_TooMany, defScope i_TooMany⟩
def sd : List He.SupD := [q_BadDeeds, q_BadJournal, q_BadLead, q_BadLog, q_BadNumber, q_BadProblem, q_BadProgram, q_BadSizes, q_BadTable, q_BadText, q_BadWeb, q_BadWork, q_CannotCome, q_TooMany]
def file : Str := "/claim/cut.py"
def fn : List He.DefD := [ds_words, ds_law_begun, ds_law_mixed, ds_law_take, ds_law_pick, ds_law_any, ds_law_kinds, ds_law_plain_errors, ds_law_errors_of, ds_law, di_RoundError]
def fa : List He.Fa := [.glo "_words", .glo "_law_begun", .glo "_law_mixed", .glo "_law_take", .glo "_law_pick", .glo "_law_any", .glo "_law_kinds", .glo "_law_plain_errors", .glo "_law_errors_of", .glo "law", .free "isinstance", .free "abs", .free "int", .free "len", .free "range", .free "enumerate", .free "repr", .free "str", .free "ValueError", .free "super", .glo "RoundError"]
def mR (K : PySem.W.Frag) : List Value := .ref (He.ga K "RoundError") :: PySem.HandSPX.veTail
def ex (K : PySem.W.Frag) : Bool :=
  He.sysB K && (He.errB K PySem.HandSPX.veTail (He.ga K "RoundError") && (He.initB K (He.ga K "RoundError") (He.ma K (He.ga K "RoundError") "__init__") && (
  (plainE.all (fun x => (He.Fa.glo x).ok K && (He.errB K (mR K) (He.ga K x) && He.initB K (He.ga K x) (He.ma K (He.ga K "RoundError") "__init__"))) &&
   (fieldE.all (fun x => (He.Fa.glo x.1).ok K && (He.errB K (mR K) (He.ga K x.1) && (He.initB K (He.ga K x.1) (He.ma K (He.ga K x.1) "__init__") && (decide (PySem.W.findIn K (.ref (He.ga K x.1)) x.2 = some none) && He.supCB K (He.ga K x.1) "__init__" (He.ma K (He.ga K "RoundError") "__init__"))))) &&
    decide ((He.ga K "RoundError" :: (plainE.map (He.ga K) ++ fieldE.map (fun x => He.ga K x.1))).Nodup))))))
abbrev R : PySem.W.OpenRow := PySem.W.OpenLaw.row PySem.Challenge.rw_roundwright_k00_errors_of_all_parts
abbrev hk : PySem.W.Hook := He.hookS 5 fa fn [] sd file ex
def ob (s : PySem.W.SharedT) : He.AlS := He.obsS 5 fa fn [] sd file ex (HandSHeadRun.getT s)
theorem ob_eq (s : PySem.W.SharedT) : ob s = hk.obs s.abs := He.obsS_eq (HandSHeadRun.getT_eq s)
def loose1 : List Str := ["__name__", "RoundError", "BadBytes", "BadColouring", "BadDeed", "BadDeeds", "BadDraft", "BadFront", "BadHouse", "BadHouses", "BadJournal", "BadKind", "BadLabelling", "BadLabels", "BadLead", "BadLetters", "BadLog", "BadMap", "BadMarks", "BadNames", "BadNet", "BadNumber", "BadOrder", "BadPhrase", "BadPiece", "BadProblem", "BadProgram", "BadSession", "BadSizes", "BadSpans", "BadState", "BadTable"]
def loose2 : List Str := ["BadText", "BadTree", "BadWeb", "BadWindow", "BadWork", "CannotCome", "NoProgram", "NotBending", "NotNow", "TooMany", "_words", "_law_begun", "_law_mixed", "_law_take", "_law_pick", "_law_any", "_law_kinds", "_law_plain_errors", "_law_errors_of"]
theorem run (w : World) : HandSHeadRun.RunEq R (PySem.W.view R.prog [52]) hk ob 20000 (loose1 ++ loose2) w := by
  intro os
  kernel_rfl
end K00

set_option maxHeartbeats 4000000
namespace K00
open PySem PySem.Spec PyProof.Rows L2
abbrev FnP (K : PySem.W.Frag) (x : Str) (st : Stmt) (f : Addr) (fd : FuncData) : Prop := FunD K x x (defArgs st) (defBody st) (defScope st) [] [] f fd
/-! ### the draw -/
def drawKV (l c : Addr) (r t : Int) : List (Key × V) := [(.inr "large", .ref l), (.inr "rest", .int r), (.inr "cells", .ref c), (.inr "turn", .int t)]
structure DrawAt (B H : Hp) (d : Addr) : Prop where
  same : Same B H
  nd : B d = none
  ex : ∃ (l c : Addr) (r t : Int) (ls cs : List Int), H d = some (.dK (drawKV l c r t)) ∧ l ≠ c ∧ B l = none ∧ B c = none ∧ H l = some (.lst (ls.map V.int)) ∧ H c = some (.lst (cs.map V.int)) ∧ 0 ≤ r ∧ (∀ x ∈ ls, 0 ≤ x) ∧ ls.length ≤ 63 ∧ cs.length ≤ 63
theorem same_new {H : Hp} {p : Addr} {o : HO} (h : H p = none) : Same H (upd H p o) := fun b x e => by
  rw [upd_ne (ne_of_none e h)]
  exact e
/-- something new beside the draw, kept from now on -/
theorem DrawAt.keep {B H : Hp} {d p : Addr} {o : HO} (D : DrawAt B H d) (h : H p = none) : DrawAt (upd B p o) (upd H p o) d := by
  obtain ⟨s, n, l, c, r, t, ls, cs, h1, h2, h3, h4, h5, h6, h7⟩ := D
  refine ⟨fun b x e => ?_, ?_, l, c, r, t, ls, cs, ?_, h2, ?_, ?_, ?_, ?_, h7⟩
  · by_cases hb : b = p
    · subst hb
      rw [upd_same] at e ⊢
      exact e
    · rw [upd_ne hb] at e ⊢
      exact s b x e
  · rw [upd_ne (ne_of_none h1 h)]
    exact n
  · rw [upd_ne (ne_of_none h1 h)]
    exact h1
  · rw [upd_ne (ne_of_none h5 h)]
    exact h3
  · rw [upd_ne (ne_of_none h6 h)]
    exact h4
  · rw [upd_ne (ne_of_none h5 h)]
    exact h5
  · rw [upd_ne (ne_of_none h6 h)]
    exact h6
/-- something new beside the draw, not kept -/
theorem DrawAt.drop {B H : Hp} {d p : Addr} {o : HO} (D : DrawAt B H d) (h : H p = none) : DrawAt B (upd H p o) d := by
  obtain ⟨s, n, l, c, r, t, ls, cs, h1, h2, h3, h4, h5, h6, h7⟩ := D
  exact ⟨s.trans (same_new h), n, l, c, r, t, ls, cs, by rw [upd_ne (ne_of_none h1 h)]; exact h1, h2, h3, h4, by rw [upd_ne (ne_of_none h5 h)]; exact h5, by rw [upd_ne (ne_of_none h6 h)]; exact h6, h7⟩
theorem DrawAt.less {A B H : Hp} {d : Addr} (D : DrawAt B H d) (s : Same A B) : DrawAt A H d := by
  have no : ∀ {b : Addr}, B b = none → A b = none := fun {b} n => by
    cases e : A b with
    | none => rfl
    | some o => rw [s b o e] at n; cases n
  obtain ⟨s', n, l, c, r, t, ls, cs, h1, h2, h3, h4, h5⟩ := D
  exact ⟨s.trans s', no n, l, c, r, t, ls, cs, h1, h2, no h3, no h4, h5⟩
def absI (i : Int) : Int := if i < 0 then -i else i
theorem absI_nn (i : Int) : 0 ≤ absI i := by unfold absI; split <;> omega
def spBegun (K : PySem.W.Frag) : Sp := fun vs H Q _ => ∃ (a : Addr) (ns : List Int), vs = [.ref a] ∧ SqL K H a (ns.map V.int) ∧ ns.length ≤ 63 ∧ ∀ H' d, DrawAt H H' d → Q (.ref d) H'
structure Bl (mg : Str → Option Value) : Prop where
  isi : mg "isinstance" = none
  abs : mg "abs" = none
  int : mg "int" = none
  len : mg "len" = none
  range : mg "range" = none
  enum : mg "enumerate" = none
  repr : mg "repr" = none
  str : mg "str" = none
  ve : mg "ValueError" = none
  sup : mg "super" = none
section
variable {P : Program} {w : World} {K : PySem.W.Frag} {mg : Str → Option Value} {base : Heap}
abbrev N_begun : List Str := ["script", "large", "grain"]
theorem cpow18 : CPow 10 18 := ⟨by decide, by decide, by decide⟩
theorem sc_begun : FnScope ["script", "large", "grain"] ["script"] (defScope s_law_begun) := ⟨rfl, rfl, rfl, by decide +kernel, rfl, by decide +kernel, by decide +kernel⟩
theorem int_at {ns : List Int} {i : Nat} {y : V} (h : (ns.map V.int)[i]? = some y) : ∃ z, ns[i]? = some z ∧ y = .int z := by
  rw [List.getElem?_map] at h
  cases e : ns[i]? with
  | none => rw [e] at h; cases h
  | some z => rw [e] at h; exact ⟨z, rfl, (Option.some.inj h).symm⟩
theorem yes {A B : Prop} (h : A) : if true = true then A else B := by rw [if_pos rfl]; exact h
theorem small63 {n : Nat} (h : n ≤ 63) : n < sizeLine := Nat.lt_of_le_of_lt h (by decide)
theorem ok_begun {f : Addr} {fd : FuncData} {k : Nat} (F : FnP K "_law_begun" s_law_begun f fd) (T : Bl mg) : FnOk P w K mg base CX0 (k + 1) f fd ["script"] (spBegun K) := by
  refine F.ok sc_begun (fun vs H Q E h => ?_) (fun cdv A outer s H vs Q E hr h => ?_)
  · obtain ⟨a, ns, rfl, _⟩ := h
    rfl
  · obtain ⟨a, ns, rfl, hS, hlen, q⟩ := h
    refine ⟨_, pss_cons (ps_setLc (i := 1) (own := [("grain", 2)]) (g := gName 2) rfl sc_begun.nd rfl rfl (sw_true rfl rfl rfl (by decide +kernel)) (pi_list (pv 0)) (blkOk_by (N := N_begun) (sc := defScope s_law_begun) (by decide +kernel))
        (fun _ _ _ _ _ => pg_name (i := 2) sc_begun.nd rfl (Or.inl rfl))
        (fun _ _ _ _ _ => pts_one (pt_cmpR op_ge (pe_callB call_abs (by rfl) T.abs (by decide +kernel) (pa_cons (pv 2) pa_nil)) (pe_op op_pow pe_int pe_int) (nomark _)))
        (fun _ _ _ _ _ => pe_op op_sub (pe_callB call_abs (by rfl) T.abs (by decide +kernel) (pa_cons (pv 2) pa_nil)) (pe_op op_pow pe_int pe_int)))
      (pss_one (ps_ret (pe_disp (pps_cons pe_str (pv 1) (pps_cons pe_str pe_int (pps_cons pe_str
        (pe_lc (own := [("grain", 2)]) (g := gName 2) (tt := tYes) rfl sc_begun.nd (pi_list (pv 0)) (blkOk_by (N := N_begun) (sc := defScope s_law_begun) (by decide +kernel)) (fun _ _ _ _ _ => pg_name (i := 2) sc_begun.nd rfl (Or.inl rfl)) (fun _ _ _ _ _ => pts_nil)
          (fun _ _ _ _ _ => pe_callB call_abs (by rfl) T.abs (by decide +kernel) (pa_cons (pv 2) pa_nil)))
        (pps_cons pe_str pe_int pps_nil)))) (by rfl) (by rfl) (fun z => by cases z) (by decide)))), ?_⟩
    refine ⟨_, rfl, a, rfl, ⟨_, hS⟩, fun l hl => ?_⟩
    refine lc_list (K := K) (xs := ns.map V.int) (fun i H' => ∃ ls : List Int, Same H H' ∧ H' l = some (.lst (ls.map V.int)) ∧ (∀ x ∈ ls, 0 ≤ x) ∧ ls.length ≤ i)
      ⟨[], same_new hl, upd_same, by simp, Nat.le_refl _⟩ (fun i H' _ ⟨_, sm, _⟩ => sm.seq hS) ?_ ?_
    · rintro i y H' hi ⟨ls, sm, hL, nn, hz⟩
      obtain ⟨z, hz1, rfl⟩ := int_at hi
      have hi63 : i < ns.length := (List.getElem?_eq_some_iff.mp hz1).1
      refine ⟨rfl, ?_⟩
      refine ⟨.int z, rfl, z, rfl, 10, 18, rfl, rfl, cpow18, _, _, rfl, rfl, _, rfl, ?_⟩
      refine ite2 (fun hc => ?_) (fun hc => ?_)
      · have hc2 : (10 : Int) ^ 18 ≤ absI z := of_decide_eq_true hc
        refine ⟨.int z, rfl, z, rfl, 10, 18, rfl, rfl, cpow18, _, _, rfl, rfl, ls.map V.int, hL, small63 (by rw [List.length_map]; omega), ?_⟩
        refine ⟨ls ++ [absI z - 10 ^ 18], fun b o e => ?_, ?_, fun x hx => ?_, ?_⟩
        · rw [upd_ne (ne_of_none e hl)]
          exact sm b o e
        · rw [upd_same, List.map_append]
          rfl
        · rcases List.mem_append.mp hx with hx | hx
          · exact nn x hx
          · rw [List.mem_singleton.mp hx]
            omega
        · rw [List.length_append, List.length_singleton]
          omega
      · exact ⟨ls, sm, hL, nn, by omega⟩
    · rintro H1 ⟨ls, sm, hL, nn, hz⟩
      rw [List.length_map] at hz
      -- the display
      intro d hd
      refine ⟨.ref l, rfl, ?_⟩
      refine ⟨_, rfl, a, rfl, ⟨_, (sm.trans (same_new hd)).seq hS⟩, fun c hc => ?_⟩
      have nld : l ≠ d := ne_of_none hL hd
      have hc1 : H1 c = none := by
        by_cases e : c = d
        · rw [e]; exact hd
        · rw [upd_ne e] at hc
          exact hc
      have ncd : c ≠ d := fun e => by rw [e, upd_same] at hc; cases hc
      have ncl : l ≠ c := ne_of_none hL hc1
      refine lc_list (K := K) (xs := ns.map V.int) (fun i H' => ∃ cs : List Int, Same H H' ∧ H' l = some (.lst (ls.map V.int)) ∧ H' d = some (.dK []) ∧ H' c = some (.lst (cs.map V.int)) ∧ cs.length ≤ i)
        ⟨[], (sm.trans (same_new hd)).trans (same_new hc), ?_, ?_, upd_same, Nat.le_refl _⟩ (fun i H' _ ⟨_, sm, _⟩ => sm.seq hS) ?_ ?_
      · rw [upd_ne ncl, upd_ne nld]
        exact hL
      · rw [upd_ne (Ne.symm ncd), upd_same]
      · rintro i y H' hi ⟨cs, sm', h1, h2, h3, h4⟩
        obtain ⟨z, hz1, rfl⟩ := int_at hi
        have hi63 : i < ns.length := (List.getElem?_eq_some_iff.mp hz1).1
        refine ⟨rfl, ?_⟩
        dsimp only [tYes]
        rw [if_pos rfl]
        refine ⟨.int z, rfl, z, rfl, cs.map V.int, h3, small63 (by rw [List.length_map]; omega), cs ++ [absI z], fun b o e => ?_, ?_, ?_, ?_, ?_⟩
        · have nbc : b ≠ c := ne_of_none (sm b o e) hc1
          rw [upd_ne nbc]
          exact sm' b o e
        · rw [upd_ne ncl]
          exact h1
        · rw [upd_ne (Ne.symm ncd)]
          exact h2
        · rw [upd_same, List.map_append]
          rfl
        · rw [List.length_append, List.length_singleton]
          omega
      · rintro H2 ⟨cs, sm', h1, h2, h3, h4⟩
        rw [List.length_map] at h4
        refine ⟨h2, drawKV l c 0 0, rfl, (by show 4 ≤ 15; decide), ?_⟩
        have em : mergeK [] (drawKV l c 0 0) = drawKV l c 0 0 := by
          unfold drawKV mergeK
          simp only [List.foldl_cons, List.foldl_nil]
          rfl
        rw [em]
        have hHd : H d = none := by
          cases e : H d with
          | none => rfl
          | some o => rw [sm d o e] at hd; cases hd
        have hHc : H c = none := by
          cases e : H c with
          | none => rfl
          | some o => rw [sm c o e] at hc1; cases hc1
        refine q _ d ⟨fun b o e => ?_, hHd, l, c, 0, 0, ls, cs, upd_same, ncl, hl, hHc, ?_, ?_, Int.le_refl _, nn, by omega, by omega⟩
        · rw [upd_ne (ne_of_none (o := o) e hHd)]
          exact sm' b o e
        · rw [upd_ne nld]
          exact h1
        · rw [upd_ne ncd]
          exact h3
end
end K00

set_option maxHeartbeats 4000000
namespace K00
open PySem PySem.Spec PyProof.Rows L2
theorem dv_large {l c : Addr} {r t : Int} : valV (drawKV l c r t) (.inr "large") = some (.ref l) := by rfl
theorem dv_rest {l c : Addr} {r t : Int} : valV (drawKV l c r t) (.inr "rest") = some (.int r) := by rfl
theorem dv_cells {l c : Addr} {r t : Int} : valV (drawKV l c r t) (.inr "cells") = some (.ref c) := by rfl
theorem dv_turn {l c : Addr} {r t : Int} : valV (drawKV l c r t) (.inr "turn") = some (.int t) := by rfl
theorem dp_rest {l c : Addr} {r t x : Int} : putK (drawKV l c r t) (.inr "rest") (.int x) = drawKV l c x t := by rfl
theorem dp_turn {l c : Addr} {r t x : Int} : putK (drawKV l c r t) (.inr "turn") (.int x) = drawKV l c r x := by rfl
theorem dget {H : Hp} {a : Addr} {kvs : List (Key × V)} {k : Key} {v : V} (h : H a = some (.dK kvs)) (e : valV kvs k = some v) : DGet H a (kV k) (some v) := e ▸ DGet.k h
theorem dpAll_ints {K : PySem.W.Frag} {H : Hp} : ∀ ls : List Int, DpAll K H (ls.map V.int) (ls.map PyData.int)
  | [] => .nil
  | x :: r => .cons (.int x) (dpAll_ints r)
theorem sh_ints : ∀ ls : List Int, SeqAt.shaped (.list (ls.map PyData.int)) = true := fun ls => by
  have h : ∀ ls : List Int, PyData.canLayAll0 (ls.map PyData.int) = true ∧ PyData.depthAll (ls.map PyData.int) ≤ 1 := fun ls => by
    induction ls with
    | nil => exact ⟨rfl, by simp [PyData.depthAll]⟩
    | cons x r ih =>
      refine ⟨?_, ?_⟩
      · simp [PyData.canLayAll0, PyData.canLay0, ih.1]
      · simp [PyData.depthAll, PyData.depth, ih.2]
  obtain ⟨h1, h2⟩ := h ls
  unfold SeqAt.shaped
  simp only [PyData.canLay0, PyData.depth, h1, Bool.true_and]
  exact decide_eq_true (by omega)
def spMixed : Sp := fun vs H Q _ => ∃ (d : Addr) (B : Hp), vs = [.ref d] ∧ DrawAt B H d ∧ ∀ H' r, DrawAt B H' d → 0 ≤ r → Q (.int r) H'
section
variable {P : Program} {w : World} {K : PySem.W.Frag} {mg : Str → Option Value} {base : Heap}
abbrev N_mixed : List Str := ["draw", "turn", "found", "great", "blend", "grain"]
theorem sc_mixed : FnScope N_mixed ["draw"] (defScope s_law_mixed) := ⟨rfl, rfl, rfl, by decide +kernel, rfl, by decide +kernel, by decide +kernel⟩
theorem ok_mixed {f : Addr} {fd : FuncData} {k : Nat} (F : FnP K "_law_mixed" s_law_mixed f fd) (T : Bl mg) : FnOk P w K mg base CX0 (k + 1) f fd ["draw"] spMixed := by
  refine F.ok sc_mixed (fun vs H Q E h => ?_) (fun cdv A outer s H vs Q E hr h => ?_)
  · obtain ⟨d, B, rfl, _⟩ := h
    rfl
  · obtain ⟨d, B, rfl, D, q⟩ := h
    have hu := hu_of hr
    obtain ⟨sm, nd, l, c, r, t, ls, cs, h1, h2, h3, h4, h5, h6, h7, h8, h9, h10⟩ := D
    refine ⟨_, PSs.nox <| pss_cons (ps_dput hu (pv 0) pe_str (pe_op op_add (pe_dget hu (pv 0) pe_str (fun _ _ => rfl)) pe_int) rfl)
      (pss_cons (ps_par (i := 1) (j := 2) rfl sc_mixed.nd rfl rfl (by decide) rfl rfl (pa_cons (pe_callTy call_int1 (by rfl) T.int (by decide +kernel) (pa_cons (pe_dget hu (pv 0) pe_str (fun _ _ => rfl)) pa_nil)) (pa_cons pe_int pa_nil)) (by rfl))
      (pss_cons (ps_for PassesOwn.never rfl (pi_list (pe_lst (pa_cons pe_int (pa_cons pe_int (pa_cons pe_int pa_nil))))) (pg_name (i := 3) sc_mixed.nd rfl (Or.inl rfl))
        (pss_cons (ps_set (i := 4) sc_mixed.nd rfl (Or.inl rfl) (pe_op op_modN (pe_op op_add (pe_op op_mul (pv 1) pe_int) (pe_op op_fdiv (pv 3) pe_int)) (pv 3)))
        (pss_cons (ps_for PassesOwn.never rfl (pi_list (pe_dget hu (pv 0) pe_str (fun _ _ => rfl))) (pg_name (i := 5) sc_mixed.nd rfl (Or.inl rfl))
          (pss_one (ps_set (i := 4) sc_mixed.nd rfl (Or.inl rfl) (pe_op op_modN (pe_op op_add (pe_op op_mul (pv 4) pe_int) (pe_callTy call_int1 (by rfl) T.int (by decide +kernel) (pa_cons (pv 5) pa_nil))) (pv 3)))))
        (pss_one (ps_set (i := 2) sc_mixed.nd rfl (Or.inl rfl) (pe_op op_add (pe_op op_mul (pv 2) pe_int) (pe_op op_modN (pe_op op_pow (pv 4) pe_int) (pv 3))))))))
      (pss_one (ps_ret (pv 2))))), ?_⟩
    -- draw['turn'] = draw['turn'] + 1
    refine ⟨.ref d, rfl, d, .int t, rfl, dget (k := .inr "turn") h1 dv_turn, _, _, rfl, rfl, .ref d, rfl, d, _, rfl, DPut.k (k := .inr "turn") h1 (by show 4 < sizeLine; decide), ?_⟩
    rw [dp_turn]
    have nld : l ≠ d := ne_of h5 h1 (by intro z; cases z)
    have ncd : c ≠ d := ne_of h6 h1 (by intro z; cases z)
    have D1 : DrawAt B (upd H d (.dK (drawKV l c r (t + 1)))) d := ⟨fun b o e => by rw [upd_ne (ne_of_none e nd)]; exact sm b o e, nd, l, c, r, t + 1, ls, cs, upd_same, h2, h3, h4, by rw [upd_ne nld]; exact h5, by rw [upd_ne ncd]; exact h6, h7, h8, h9, h10⟩
    have g6 : (upd H d (.dK (drawKV l c r (t + 1)))) c = some (.lst (cs.map V.int)) := by rw [upd_ne ncd]; exact h6
    have g1 : (upd H d (.dK (drawKV l c r (t + 1)))) d = some (.dK (drawKV l c r (t + 1))) := upd_same
    generalize (upd H d (.dK (drawKV l c r (t + 1)))) = H1 at D1 g6 g1 ⊢
    generalize t + 1 = t' at D1 g1 ⊢
    -- turn, found
    refine ⟨.ref d, rfl, d, .int t', rfl, dget (k := .inr "turn") g1 dv_turn, .inl ⟨t', rfl, ?_⟩⟩
    refine ⟨_, _, rfl, ?_⟩
    -- the primes
    refine ⟨by decide, fun p hp => ?_⟩
    have D2 : DrawAt B (upd H1 p (.lst [.int 2147483629, .int 2147483587, .int 2147483579])) d := D1.drop hp
    have g2 : (upd H1 p (.lst [.int 2147483629, .int 2147483587, .int 2147483579])) p = some (.lst ([2147483629, 2147483587, 2147483579].map V.int)) := upd_same
    have g6' : (upd H1 p (.lst [.int 2147483629, .int 2147483587, .int 2147483579])) c = some (.lst (cs.map V.int)) := by rw [upd_ne (ne_of_none g6 hp)]; exact g6
    have g1' : (upd H1 p (.lst [.int 2147483629, .int 2147483587, .int 2147483579])) d = some (.dK (drawKV l c r t')) := by rw [upd_ne (ne_of_none g1 hp)]; exact g1
    generalize (upd H1 p (.lst [.int 2147483629, .int 2147483587, .int 2147483579])) = H2 at D2 g2 g6' g1' ⊢
    refine ⟨p, rfl, ⟨_, SqL.of g2⟩, for_list (K := K) (a := p) (xs := [2147483629, 2147483587, 2147483579].map V.int) (fun i σ H' => H' = H2 ∧ ∃ (fn : Int) (y3 y4 y5 : Option V), σ = [some (.ref d), some (.int t'), some (.int fn), y3, y4, y5] ∧ 0 ≤ fn)
      ⟨rfl, 0, none, none, none, rfl, Int.le_refl _⟩ (fun i σ H' _ ⟨e, _⟩ => by rw [e]; exact SqL.of g2) ?_ ?_⟩
    · rintro i y σ H' hi ⟨rfl, fn, y3, y4, y5, rfl, hf⟩
      obtain ⟨g, hg, rfl⟩ := int_at hi
      have gpos : 0 < g ∧ g < 2147483648 := by
        have hm : g ∈ [2147483629, 2147483587, 2147483579] := List.mem_of_getElem? hg
        simp only [List.mem_cons, List.not_mem_nil, or_false] at hm
        omega
      have gne : g ≠ 0 := by omega
      have fm : ∀ a : Int, 0 ≤ a.fmod g ∧ a.fmod g < g := fun a => ⟨Int.fmod_nonneg_of_pos a gpos.1, Int.fmod_lt_of_pos a gpos.1⟩
      -- blend
      refine ⟨.int t', rfl, t', 69621, rfl, rfl, .inr ⟨by decide, by decide⟩, .int g, rfl, g, 7, rfl, rfl, ⟨by decide, by decide⟩, _, _, rfl, rfl, .int g, rfl, _, _, rfl, rfl, gne, ?_⟩
      refine ⟨.ref d, rfl, d, .ref c, rfl, dget (k := .inr "cells") g1' dv_cells, c, rfl, ⟨_, SqL.of g6'⟩, for_list (K := K) (a := c) (xs := cs.map V.int) (fun i σ H1 => H1 = H' ∧ ∃ (b : Int) (y5 : Option V), σ = [some (.ref d), some (.int t'), some (.int fn), some (.int g), some (.int b), y5] ∧ 0 ≤ b ∧ b < g)
        ⟨rfl, (t' * 69621 + g / 7).fmod g, _, rfl, fm _⟩ (fun i σ H1 _ ⟨e, _⟩ => by rw [e]; exact SqL.of g6') ?_ ?_⟩
      · rintro j y σ H1 hj ⟨rfl, b, y5', rfl, b1, b2⟩
        obtain ⟨z, hz, rfl⟩ := int_at hj
        exact ⟨.int b, rfl, b, 48271, rfl, rfl, .inr ⟨by decide, by decide⟩, .int z, rfl, .inl ⟨z, rfl, _, _, rfl, rfl, .int g, rfl, _, _, rfl, rfl, gne, rfl, _, _, rfl, fm _⟩⟩
      · rintro σ H1 ⟨rfl, b, y5', rfl, b1, b2⟩
        refine ⟨.int fn, rfl, fn, 2147483647, rfl, rfl, .inr ⟨by decide, by decide⟩, .int b, rfl, b, 5, rfl, rfl, ⟨by decide, by decide, by omega⟩, .int g, rfl, _, _, rfl, rfl, gne, _, _, rfl, rfl, rfl, _, _, _, _, rfl, ?_⟩
        have z := (fm (b ^ (5 : Int).toNat)).1
        have z2 : 0 ≤ fn * 2147483647 := Int.mul_nonneg hf (by decide)
        omega
    · rintro σ H' ⟨rfl, fn, y3, y4, y5, rfl, hf⟩
      exact ⟨_, rfl, q _ _ D2 hf⟩
end
end K00

set_option maxHeartbeats 4000000
namespace K00
open PySem PySem.Spec PyProof.Rows L2
def spTake : Sp := fun vs H Q _ => ∃ (d : Addr) (m : Int) (B : Hp), vs = [.ref d, .int m] ∧ DrawAt B H d ∧ 0 < m ∧ m < 1073741824 ∧ ∀ H' r, DrawAt B H' d → 0 ≤ r → r < m → Q (.int r) H'
def spPick (K : PySem.W.Frag) : Sp := fun vs H Q _ => ∃ (d p : Addr) (xs : List V) (B : Hp), vs = [.ref d, .ref p] ∧ DrawAt B H d ∧ SqL K B p xs ∧ 0 < xs.length ∧ xs.length < 1073741824 ∧ ∀ (H' : Hp) (i : Nat) (x : V), DrawAt B H' d → xs[i]? = some x → Q x H'
section
variable {P : Program} {w : World} {K : PySem.W.Frag} {mg : Str → Option Value} {base : Heap}
abbrev N_take : List Str := ["draw", "amount", "found"]
theorem sc_take : FnScope N_take ["draw", "amount"] (defScope s_law_take) := ⟨rfl, rfl, rfl, by decide +kernel, rfl, by decide +kernel, by decide +kernel⟩
theorem ok_take {f fM : Addr} {fd fdM : FuncData} {k : Nat} (F : FnP K "_law_take" s_law_take f fd) (T : Bl mg) (GM : FnOk P w K mg base CX0 k fM fdM ["draw"] spMixed) (gM : mg "_law_mixed" = some (.ref fM)) (kM : PySem.W.keepIn K (.ref fM) = true) (bM : Binds K fdM ["draw"] []) :
    FnOk P w K mg base CX0 (k + 1) f fd ["draw", "amount"] spTake := by
  refine F.ok sc_take (fun vs H Q E h => ?_) (fun cdv A outer s H vs Q E hr h => ?_)
  · obtain ⟨d, m, B, rfl, _⟩ := h
    rfl
  · obtain ⟨d, m, B, rfl, D, m0, m1, q⟩ := h
    have hu := hu_of hr
    have hun : (A.deeper (envOfC "_law_take" (defScope s_law_take) s.heap.objs.size f cdv)).units + 64 < cLine := by have := hr.un; omega
    refine ⟨_, PSs.nox <| pss_cons (PS.J <| ps_if (pt_cmpR op_eq (pe_dget hu (pv 0) pe_str (fun _ _ => rfl)) pe_int (nomark _))
        (pss_one (ps_dput hu (pv 0) pe_str (pe_ifExp (pt_cmpR (op_neD hun) (pe_dget hu (pv 0) pe_str (fun _ _ => rfl)) (pe_lst pa_nil) (nomark _))
          (pe_bm PySem.F.plainAttrs_list PySem.F.slot_list_pop PySem.F.type_list_pop mt_popAt (pe_dget hu (pv 0) pe_str (fun _ _ => rfl)) (pa_cons pe_int pa_nil))
          (pe_call GM hr rfl gM kM bM .nil pass0 (pa_cons (pv 0) pa_nil))) rfl)) pss_nil)
      (pss_cons (ps_set (i := 2) sc_take.nd rfl (Or.inl rfl) (pe_op op_modN (pe_callTy call_int1 (by rfl) T.int (by decide +kernel) (pa_cons (pe_dget hu (pv 0) pe_str (fun _ _ => rfl)) pa_nil)) (pv 1)))
      (pss_cons (ps_dput hu (pv 0) pe_str (pe_op op_fdivN (pe_callTy call_int1 (by rfl) T.int (by decide +kernel) (pa_cons (pe_dget hu (pv 0) pe_str (fun _ _ => rfl)) pa_nil)) (pv 1)) rfl)
      (pss_one (ps_ret (pv 2))))), ?_⟩
    obtain ⟨sm, nd, l, c, r, t, ls, cs, h1, h2, h3, h4, h5, h6, h7, h8, h9, h10⟩ := id D
    refine ⟨fun σ H1 => σ = [some (.ref d), some (.int m), none] ∧ DrawAt B H1 d, ⟨.ref d, rfl, d, .int r, rfl, dget (k := .inr "rest") h1 dv_rest, rfl, _, rfl, ?_⟩, ?_⟩
    · refine ite2 (fun _ => ?_) (fun _ => ⟨rfl, D⟩)
      -- draw['large'] != []
      refine ⟨.ref d, rfl, d, .ref l, rfl, dget (k := .inr "large") h1 dv_large, Nat.zero_le _, fun e he => ?_⟩
      have D1 := D.drop (o := .lst []) he
      have g1 : (upd H e (.lst [])) d = some (.dK (drawKV l c r t)) := by rw [upd_ne (ne_of_none h1 he)]; exact h1
      have g5 : (upd H e (.lst [])) l = some (.lst (ls.map V.int)) := by rw [upd_ne (ne_of_none h5 he)]; exact h5
      have g6 : (upd H e (.lst [])) c = some (.lst (cs.map V.int)) := by rw [upd_ne (ne_of_none h6 he)]; exact h6
      have ge : (upd H e (.lst [])) e = some (.lst []) := upd_same
      generalize upd H e (.lst []) = H1 at D1 g1 g5 g6 ge ⊢
      refine ⟨.list (ls.map PyData.int), .list [], .lst (SqL.of g5) (dpAll_ints ls), .lst (SqL.of ge) .nil, sh_ints ls, sh_ints [], _, rfl, ?_⟩
      have ndl : l ≠ d := ne_of g5 g1 (by intro z; cases z)
      have ndc : c ≠ d := ne_of g6 g1 (by intro z; cases z)
      have put : ∀ H2 r', DrawAt B H2 d → 0 ≤ r' → ∃ a k, (V.ref d : V) = .ref a ∧ DPut H2 a (kV (.inr "rest")) (.int r') k ∧ DrawAt B k d := fun H2 r' D2 hr' => by
        obtain ⟨sm', nd', l', c', r2, t2, ls', cs', z1, z2, z3, z4, z5, z6, z7, z8⟩ := D2
        have n1 : l' ≠ d := ne_of z5 z1 (by intro z; cases z)
        have n2 : c' ≠ d := ne_of z6 z1 (by intro z; cases z)
        refine ⟨d, _, rfl, DPut.k (k := .inr "rest") z1 (by show 4 < sizeLine; decide), ?_⟩
        rw [dp_rest]
        exact ⟨fun b o e => by rw [upd_ne (ne_of_none e nd')]; exact sm' b o e, nd', l', c', r', t2, ls', cs', upd_same, z2, z3, z4, by rw [upd_ne n1]; exact z5, by rw [upd_ne n2]; exact z6, hr', z8⟩
      cases ls with
      | nil =>
        refine iteF ?_
        refine ⟨.ref d, rfl, d, B, rfl, D1, fun H2 r' D2 hr' => ?_⟩
        obtain ⟨a, k, e1, e2, D3⟩ := put H2 r' D2 hr'
        cases e1
        exact ⟨.ref d, rfl, d, _, rfl, e2, rfl, D3⟩
      | cons x ls =>
        refine iteT ?_
        refine ⟨.ref d, rfl, d, .ref l, rfl, dget (k := .inr "large") g1 dv_large, .inl ⟨rfl, _, SqL.of g5⟩, l, _, 0, 0, .int x, rfl, rfl, g5, by decide, by decide, by simp [seqIndex?], rfl, ?_⟩
        have D2 : DrawAt B (upd H1 l (.lst (ls.map V.int))) d := ⟨fun b o e => by rw [upd_ne (ne_of_none e h3)]; exact D1.same b o e, nd, l, c, r, t, ls, cs, by rw [upd_ne (Ne.symm ndl)]; exact g1, h2, h3, h4, upd_same, by rw [upd_ne (Ne.symm h2)]; exact g6, h7, fun y hy => h8 y (List.mem_cons_of_mem _ hy), by simp only [List.length_cons] at h9; omega, h10⟩
        obtain ⟨a, k, e1, e2, D3⟩ := put _ x D2 (h8 x List.mem_cons_self)
        cases e1
        exact ⟨.ref d, rfl, d, _, rfl, e2, rfl, D3⟩
    · rintro σ H1 ⟨rfl, D1⟩
      obtain ⟨sm', nd', l', c', r2, t2, ls', cs', z1, z2, z3, z4, z5, z6, z7, z8⟩ := id D1
      have n1 : l' ≠ d := ne_of z5 z1 (by intro z; cases z)
      have n2 : c' ≠ d := ne_of z6 z1 (by intro z; cases z)
      refine ⟨.ref d, rfl, d, .int r2, rfl, dget (k := .inr "rest") z1 dv_rest, .inl ⟨r2, rfl, .int m, rfl, _, _, rfl, rfl, by omega, ?_⟩⟩
      refine ⟨.ref d, rfl, d, .int r2, rfl, dget (k := .inr "rest") z1 dv_rest, .inl ⟨r2, rfl, .int m, rfl, _, _, rfl, rfl, ⟨by omega, by omega⟩, ?_⟩⟩
      refine ⟨.ref d, rfl, d, _, rfl, DPut.k (k := .inr "rest") z1 (by show 4 < sizeLine; decide), ?_⟩
      rw [dp_rest]
      refine ⟨_, rfl, q _ _ ⟨fun b o e => by rw [upd_ne (ne_of_none e nd')]; exact sm' b o e, nd', l', c', _, t2, ls', cs', upd_same, z2, z3, z4, by rw [upd_ne n1]; exact z5, by rw [upd_ne n2]; exact z6, ?_, z8⟩ (Int.fmod_nonneg_of_pos r2 m0) (Int.fmod_lt_of_pos r2 m0)⟩
      show 0 ≤ r2.fdiv m
      rw [Int.fdiv_eq_ediv_of_nonneg _ (Int.le_of_lt m0)]
      exact Int.ediv_nonneg z7 (Int.le_of_lt m0)
abbrev N_pick : List Str := ["draw", "some"]
theorem sc_pick : FnScope N_pick ["draw", "some"] (defScope s_law_pick) := ⟨rfl, rfl, rfl, by decide +kernel, rfl, by decide +kernel, by decide +kernel⟩
theorem ok_pick {f fM : Addr} {fd fdM : FuncData} {k : Nat} (F : FnP K "_law_pick" s_law_pick f fd) (T : Bl mg) (GM : FnOk P w K mg base CX0 k fM fdM ["draw", "amount"] spTake) (gM : mg "_law_take" = some (.ref fM)) (kM : PySem.W.keepIn K (.ref fM) = true) (bM : Binds K fdM ["draw", "amount"] []) :
    FnOk P w K mg base CX0 (k + 1) f fd ["draw", "some"] (spPick K) := by
  refine F.ok sc_pick (fun vs H Q E h => ?_) (fun cdv A outer s H vs Q E hr h => ?_)
  · obtain ⟨d, p, xs, B, rfl, _⟩ := h
    rfl
  · obtain ⟨d, p, xs, B, rfl, D, hS, l0, l1, q⟩ := h
    refine ⟨_, PSs.nox <| pss_one (ps_ret (pe_ix ix_list (pv 1) (pe_call GM hr rfl gM kM bM .nil pass0 (pa_cons (pv 0) (pa_cons (pe_callB call_len_seq (by rfl) T.len PySem.boot_len (pa_cons (pv 1) pa_nil)) pa_nil))) (fun _ _ => rfl))), ?_⟩
    refine ⟨.ref p, rfl, .ref d, rfl, .ref p, rfl, p, xs, rfl, .inl (D.same.seq hS), d, _, B, rfl, D, by omega, by omega, fun H' r D' r0 r1 => ?_⟩
    obtain ⟨j, rfl⟩ := Int.eq_ofNat_of_zero_le r0
    have hj : j < xs.length := by omega
    exact ⟨p, xs, _, xs[j], rfl, rfl, D'.same.seq hS, atI_nat (List.getElem?_eq_getElem hj), q H' j _ D' (List.getElem?_eq_getElem hj)⟩
end
end K00

set_option maxHeartbeats 4000000
namespace K00
open PySem PySem.Spec PyProof.Rows L2
abbrev FnM (K : PySem.W.Frag) (c : Str) (q : Str) (st : Stmt) (dvs : List V) (f : Addr) (fd : FuncData) : Prop := FunD K "__init__" q (defArgs st) (defBody st) (defScope st) dvs [] f fd
def Short (d : PyData) : Prop := ∀ y : Str, d = .str y → y.length ≤ 100
def spWords (K : PySem.W.Frag) : Sp := fun vs H Q _ => ∃ (z : Str) (v : V) (d : PyData), vs = [.str z, v] ∧ z.length ≤ 100 ∧ Dq K H v d ∧ Short d ∧ ∀ y, Q (.str y) H
def spRound (K : PySem.W.Frag) : Sp := fun vs H Q _ => ∃ (a C : Addr) (v : V), vs = [.ref a, v] ∧ OexC K C ∧ H a = some (exo a C none) ∧ Q .non H
/-- __init__ of the error of D with the field n -/
def spField (K : PySem.W.Frag) (D : Addr) (n : Str) : Sp := fun vs H Q _ => ∃ (a : Addr) (v : V) (d : PyData), vs = [.ref a, v] ∧ H a = some (exo a D none) ∧ Dq K H v d ∧ Short d ∧
  ∀ dx, H dx = none → dx ≠ a → Q .non (upd (upd H dx (exd dx [(n, v)])) a (exo a D (some dx)))
section
variable {P : Program} {w : World} {K : PySem.W.Frag} {mg : Str → Option Value} {base : Heap}
theorem sc_words : FnScope ["words", "told"] ["words", "told"] (defScope s_words) := ⟨rfl, rfl, rfl, by decide +kernel, rfl, by decide +kernel, by decide +kernel⟩
theorem ok_words {f : Addr} {fd : FuncData} {k : Nat} (F : FnP K "_words" s_words f fd) (T : Bl mg) : FnOk P w K mg base CX0 (k + 1) f fd ["words", "told"] (spWords K) := by
  refine F.ok sc_words (fun vs H Q E h => ?_) (fun cdv A outer s H vs Q E hr h => ?_)
  · obtain ⟨z, v, d, rfl, _⟩ := h
    rfl
  · obtain ⟨z, v, d, rfl, hz, hd, hs, q⟩ := h
    refine ⟨_, PSs.nox <| pss_one (ps_ret (pe_ifExp (pt_val (pe_callB call_isi (by rfl) T.isi (by decide +kernel) (pa_cons (pv 1) (pa_cons (pe_bltn (v := .ty "str") (by rfl) T.str (by decide +kernel) rfl) pa_nil))))
      (pe_joined (.cons (pe_fmt (pv 0)) (.cons pe_str (.cons (pe_fmt (pv 1)) (.cons pe_str .nil))))) (pv 0))), ?_⟩
    obtain ⟨Tn, b, ty, kt, hb⟩ := hd.ty
    refine ⟨v, rfl, v, .ty "str", .type Tn, .type "str", b, rfl, .ty "str", ty, kt, b, rfl, ?_⟩
    cases b with
    | false => exact ⟨_, rfl, q z⟩
    | true =>
      obtain ⟨y, rfl, rfl⟩ := hb rfl
      have hy := hs y rfl
      have L : ∀ a b : Str, (a ++ b).length = a.length + b.length := fun a b => Str.length_append a b
      have b1 : (" (" : Str).length = 2 := by decide +kernel
      have b2 : (")" : Str).length = 1 := by decide +kernel
      have b0 : Str.empty.length = 0 := rfl
      have e := sizeLine_eq
      refine ⟨_, rfl, .inl ⟨z, rfl, by omega, z, rfl, by rw [L]; omega, ?_⟩⟩
      refine ⟨_, rfl, by rw [L, L]; omega, _, rfl, .inl ⟨y, rfl, by omega, y, rfl, by rw [L, L, L]; omega, _, rfl, by rw [L, L, L, L]; omega, q _⟩⟩
theorem sc_round : FnScope ["self", "message"] ["self", "message"] (defScope i_RoundError) := ⟨rfl, rfl, rfl, by decide +kernel, rfl, by decide +kernel, by decide +kernel⟩
theorem ve_init : PySem.W.findCls K (.type "ValueError") (.type "type") "__init__" = some (.val (.builtin "ValueError.__init__")) := by kernel_rfl
theorem ok_round {f : Addr} {fd : FuncData} {k : Nat} (F : FnM K "RoundError" "RoundError.__init__" i_RoundError [.str ""] f fd) (T : Bl mg) : FnOk P w K mg base CX0 (k + 1) f fd ["self", "message"] (spRound K) := by
  refine F.ok sc_round (fun vs H Q E h => ?_) (fun cdv A outer s H vs Q E hr h => ?_)
  · obtain ⟨a, C, v, rfl, _⟩ := h
    rfl
  · obtain ⟨a, C, v, rfl, O, e, q⟩ := h
    refine ⟨_, PSs.nox <| pss_one (ps_expr (pe_veinit (by rfl) T.ve ve_init (pa_cons (pv 0) (pa_cons (pv 1) pa_nil)))), ?_⟩
    exact ⟨_, rfl, _, rfl, a, C, [v], rfl, by show 1 ≤ 1000; decide, O, e, q⟩
end
/-- what the helpers of the errors' __init__ promise, and where they stand -/
structure Hlp (P : Program) (w : World) (K : PySem.W.Frag) (mg : Str → Option Value) (base : Heap) (k : Nat) where
  fR : Addr
  fW : Addr
  fdR : FuncData
  fdW : FuncData
  GR : FnOk P w K mg base CX0 k fR fdR ["self", "message"] (spRound K)
  bR : Binds K fdR ["self", "message"] []
  gW : mg "_words" = some (.ref fW)
  kW : PySem.W.keepIn K (.ref fW) = true
  GW : FnOk P w K mg base CX0 k fW fdW ["words", "told"] (spWords K)
  bW : Binds K fdW ["words", "told"] []
  sup : mg "super" = none
section
variable {P : Program} {w : World} {K : PySem.W.Frag} {mg : Str → Option Value} {base : Heap}
theorem sc_BadDeeds : NdefX.NScope ["self", "at", "__class__"] ["self", "at"] ["__class__"] (defScope i_BadDeeds) := NdefX.nscope_by (by decide +kernel)
theorem ok_BadDeeds {D f cc cda : Addr} {fd : FuncData} {k : Nat} (Z : SupF K file "__init__" "BadDeeds.__init__" (defArgs i_BadDeeds) (defBody i_BadDeeds) (defScope i_BadDeeds) D f cc cda fd) (Y : Hlp P w K mg base k) (hP : SupP P file) (C : SupC K D "__init__" Y.fR) (O : OexC K D) (no : PySem.W.findIn K (.ref D) "at" = some none) :
    FnOk P w K mg base CX0 (k + 1) f fd ["self", "at"] (spField K D "at") := by
  refine fn_super Z sc_BadDeeds (fun vs H Q E h => ?_) (fun A outer s H vs Q E hr h => ?_)
  · obtain ⟨a, v, d, rfl, _⟩ := h
    rfl
  · obtain ⟨a, v, d, rfl, e, hd, hs, q⟩ := h
    refine ⟨_, ps0_super (m := "__init__") Z hP C Y.GR hr Y.bR pass0 Y.sup (pa_cons (pe_call Y.GW hr rfl Y.gW Y.kW Y.bW .nil pass0 (pa_cons pe_str (pa_cons (pv 1) pa_nil))) pa_nil)
      (PSs.nox <| pss_one (ps_ost (pv 0) (pv 1))) rfl rfl rfl rfl rfl rfl rfl rfl, ?_⟩
    exact ⟨a, rfl, e, v, rfl, _, v, d, rfl, by decide +kernel, hd, hs, fun y => ⟨a, D, .str y, rfl, O, e, v, rfl, .ref a, rfl, a, D, rfl, O, no, .inl ⟨e, q⟩⟩⟩
theorem sc_BadJournal : NdefX.NScope ["self", "number", "__class__"] ["self", "number"] ["__class__"] (defScope i_BadJournal) := NdefX.nscope_by (by decide +kernel)
theorem ok_BadJournal {D f cc cda : Addr} {fd : FuncData} {k : Nat} (Z : SupF K file "__init__" "BadJournal.__init__" (defArgs i_BadJournal) (defBody i_BadJournal) (defScope i_BadJournal) D f cc cda fd) (Y : Hlp P w K mg base k) (hP : SupP P file) (C : SupC K D "__init__" Y.fR) (O : OexC K D) (no : PySem.W.findIn K (.ref D) "number" = some none) :
    FnOk P w K mg base CX0 (k + 1) f fd ["self", "number"] (spField K D "number") := by
  refine fn_super Z sc_BadJournal (fun vs H Q E h => ?_) (fun A outer s H vs Q E hr h => ?_)
  · obtain ⟨a, v, d, rfl, _⟩ := h
    rfl
  · obtain ⟨a, v, d, rfl, e, hd, hs, q⟩ := h
    refine ⟨_, ps0_super (m := "__init__") Z hP C Y.GR hr Y.bR pass0 Y.sup (pa_cons (pe_call Y.GW hr rfl Y.gW Y.kW Y.bW .nil pass0 (pa_cons pe_str (pa_cons (pv 1) pa_nil))) pa_nil)
      (PSs.nox <| pss_one (ps_ost (pv 0) (pv 1))) rfl rfl rfl rfl rfl rfl rfl rfl, ?_⟩
    exact ⟨a, rfl, e, v, rfl, _, v, d, rfl, by decide +kernel, hd, hs, fun y => ⟨a, D, .str y, rfl, O, e, v, rfl, .ref a, rfl, a, D, rfl, O, no, .inl ⟨e, q⟩⟩⟩
theorem sc_BadLead : NdefX.NScope ["self", "part", "__class__"] ["self", "part"] ["__class__"] (defScope i_BadLead) := NdefX.nscope_by (by decide +kernel)
theorem ok_BadLead {D f cc cda : Addr} {fd : FuncData} {k : Nat} (Z : SupF K file "__init__" "BadLead.__init__" (defArgs i_BadLead) (defBody i_BadLead) (defScope i_BadLead) D f cc cda fd) (Y : Hlp P w K mg base k) (hP : SupP P file) (C : SupC K D "__init__" Y.fR) (O : OexC K D) (no : PySem.W.findIn K (.ref D) "part" = some none) :
    FnOk P w K mg base CX0 (k + 1) f fd ["self", "part"] (spField K D "part") := by
  refine fn_super Z sc_BadLead (fun vs H Q E h => ?_) (fun A outer s H vs Q E hr h => ?_)
  · obtain ⟨a, v, d, rfl, _⟩ := h
    rfl
  · obtain ⟨a, v, d, rfl, e, hd, hs, q⟩ := h
    refine ⟨_, ps0_super (m := "__init__") Z hP C Y.GR hr Y.bR pass0 Y.sup (pa_cons (pe_call Y.GW hr rfl Y.gW Y.kW Y.bW .nil pass0 (pa_cons pe_str (pa_cons (pv 1) pa_nil))) pa_nil)
      (PSs.nox <| pss_one (ps_ost (pv 0) (pv 1))) rfl rfl rfl rfl rfl rfl rfl rfl, ?_⟩
    exact ⟨a, rfl, e, v, rfl, _, v, d, rfl, by decide +kernel, hd, hs, fun y => ⟨a, D, .str y, rfl, O, e, v, rfl, .ref a, rfl, a, D, rfl, O, no, .inl ⟨e, q⟩⟩⟩
theorem sc_BadLog : NdefX.NScope ["self", "at", "__class__"] ["self", "at"] ["__class__"] (defScope i_BadLog) := NdefX.nscope_by (by decide +kernel)
theorem ok_BadLog {D f cc cda : Addr} {fd : FuncData} {k : Nat} (Z : SupF K file "__init__" "BadLog.__init__" (defArgs i_BadLog) (defBody i_BadLog) (defScope i_BadLog) D f cc cda fd) (Y : Hlp P w K mg base k) (hP : SupP P file) (C : SupC K D "__init__" Y.fR) (O : OexC K D) (no : PySem.W.findIn K (.ref D) "at" = some none) :
    FnOk P w K mg base CX0 (k + 1) f fd ["self", "at"] (spField K D "at") := by
  refine fn_super Z sc_BadLog (fun vs H Q E h => ?_) (fun A outer s H vs Q E hr h => ?_)
  · obtain ⟨a, v, d, rfl, _⟩ := h
    rfl
  · obtain ⟨a, v, d, rfl, e, hd, hs, q⟩ := h
    refine ⟨_, ps0_super (m := "__init__") Z hP C Y.GR hr Y.bR pass0 Y.sup (pa_cons (pe_call Y.GW hr rfl Y.gW Y.kW Y.bW .nil pass0 (pa_cons pe_str (pa_cons (pv 1) pa_nil))) pa_nil)
      (PSs.nox <| pss_one (ps_ost (pv 0) (pv 1))) rfl rfl rfl rfl rfl rfl rfl rfl, ?_⟩
    exact ⟨a, rfl, e, v, rfl, _, v, d, rfl, by decide +kernel, hd, hs, fun y => ⟨a, D, .str y, rfl, O, e, v, rfl, .ref a, rfl, a, D, rfl, O, no, .inl ⟨e, q⟩⟩⟩
theorem sc_BadNumber : NdefX.NScope ["self", "part", "__class__"] ["self", "part"] ["__class__"] (defScope i_BadNumber) := NdefX.nscope_by (by decide +kernel)
theorem ok_BadNumber {D f cc cda : Addr} {fd : FuncData} {k : Nat} (Z : SupF K file "__init__" "BadNumber.__init__" (defArgs i_BadNumber) (defBody i_BadNumber) (defScope i_BadNumber) D f cc cda fd) (Y : Hlp P w K mg base k) (hP : SupP P file) (C : SupC K D "__init__" Y.fR) (O : OexC K D) (no : PySem.W.findIn K (.ref D) "part" = some none) :
    FnOk P w K mg base CX0 (k + 1) f fd ["self", "part"] (spField K D "part") := by
  refine fn_super Z sc_BadNumber (fun vs H Q E h => ?_) (fun A outer s H vs Q E hr h => ?_)
  · obtain ⟨a, v, d, rfl, _⟩ := h
    rfl
  · obtain ⟨a, v, d, rfl, e, hd, hs, q⟩ := h
    refine ⟨_, ps0_super (m := "__init__") Z hP C Y.GR hr Y.bR pass0 Y.sup (pa_cons (pe_call Y.GW hr rfl Y.gW Y.kW Y.bW .nil pass0 (pa_cons pe_str (pa_cons (pv 1) pa_nil))) pa_nil)
      (PSs.nox <| pss_one (ps_ost (pv 0) (pv 1))) rfl rfl rfl rfl rfl rfl rfl rfl, ?_⟩
    exact ⟨a, rfl, e, v, rfl, _, v, d, rfl, by decide +kernel, hd, hs, fun y => ⟨a, D, .str y, rfl, O, e, v, rfl, .ref a, rfl, a, D, rfl, O, no, .inl ⟨e, q⟩⟩⟩
theorem sc_BadProblem : NdefX.NScope ["self", "part", "__class__"] ["self", "part"] ["__class__"] (defScope i_BadProblem) := NdefX.nscope_by (by decide +kernel)
theorem ok_BadProblem {D f cc cda : Addr} {fd : FuncData} {k : Nat} (Z : SupF K file "__init__" "BadProblem.__init__" (defArgs i_BadProblem) (defBody i_BadProblem) (defScope i_BadProblem) D f cc cda fd) (Y : Hlp P w K mg base k) (hP : SupP P file) (C : SupC K D "__init__" Y.fR) (O : OexC K D) (no : PySem.W.findIn K (.ref D) "part" = some none) :
    FnOk P w K mg base CX0 (k + 1) f fd ["self", "part"] (spField K D "part") := by
  refine fn_super Z sc_BadProblem (fun vs H Q E h => ?_) (fun A outer s H vs Q E hr h => ?_)
  · obtain ⟨a, v, d, rfl, _⟩ := h
    rfl
  · obtain ⟨a, v, d, rfl, e, hd, hs, q⟩ := h
    refine ⟨_, ps0_super (m := "__init__") Z hP C Y.GR hr Y.bR pass0 Y.sup (pa_cons (pe_call Y.GW hr rfl Y.gW Y.kW Y.bW .nil pass0 (pa_cons pe_str (pa_cons (pv 1) pa_nil))) pa_nil)
      (PSs.nox <| pss_one (ps_ost (pv 0) (pv 1))) rfl rfl rfl rfl rfl rfl rfl rfl, ?_⟩
    exact ⟨a, rfl, e, v, rfl, _, v, d, rfl, by decide +kernel, hd, hs, fun y => ⟨a, D, .str y, rfl, O, e, v, rfl, .ref a, rfl, a, D, rfl, O, no, .inl ⟨e, q⟩⟩⟩
theorem sc_BadProgram : NdefX.NScope ["self", "part", "__class__"] ["self", "part"] ["__class__"] (defScope i_BadProgram) := NdefX.nscope_by (by decide +kernel)
theorem ok_BadProgram {D f cc cda : Addr} {fd : FuncData} {k : Nat} (Z : SupF K file "__init__" "BadProgram.__init__" (defArgs i_BadProgram) (defBody i_BadProgram) (defScope i_BadProgram) D f cc cda fd) (Y : Hlp P w K mg base k) (hP : SupP P file) (C : SupC K D "__init__" Y.fR) (O : OexC K D) (no : PySem.W.findIn K (.ref D) "part" = some none) :
    FnOk P w K mg base CX0 (k + 1) f fd ["self", "part"] (spField K D "part") := by
  refine fn_super Z sc_BadProgram (fun vs H Q E h => ?_) (fun A outer s H vs Q E hr h => ?_)
  · obtain ⟨a, v, d, rfl, _⟩ := h
    rfl
  · obtain ⟨a, v, d, rfl, e, hd, hs, q⟩ := h
    refine ⟨_, ps0_super (m := "__init__") Z hP C Y.GR hr Y.bR pass0 Y.sup (pa_cons (pe_call Y.GW hr rfl Y.gW Y.kW Y.bW .nil pass0 (pa_cons pe_str (pa_cons (pv 1) pa_nil))) pa_nil)
      (PSs.nox <| pss_one (ps_ost (pv 0) (pv 1))) rfl rfl rfl rfl rfl rfl rfl rfl, ?_⟩
    exact ⟨a, rfl, e, v, rfl, _, v, d, rfl, by decide +kernel, hd, hs, fun y => ⟨a, D, .str y, rfl, O, e, v, rfl, .ref a, rfl, a, D, rfl, O, no, .inl ⟨e, q⟩⟩⟩
theorem sc_BadSizes : NdefX.NScope ["self", "part", "__class__"] ["self", "part"] ["__class__"] (defScope i_BadSizes) := NdefX.nscope_by (by decide +kernel)
theorem ok_BadSizes {D f cc cda : Addr} {fd : FuncData} {k : Nat} (Z : SupF K file "__init__" "BadSizes.__init__" (defArgs i_BadSizes) (defBody i_BadSizes) (defScope i_BadSizes) D f cc cda fd) (Y : Hlp P w K mg base k) (hP : SupP P file) (C : SupC K D "__init__" Y.fR) (O : OexC K D) (no : PySem.W.findIn K (.ref D) "part" = some none) :
    FnOk P w K mg base CX0 (k + 1) f fd ["self", "part"] (spField K D "part") := by
  refine fn_super Z sc_BadSizes (fun vs H Q E h => ?_) (fun A outer s H vs Q E hr h => ?_)
  · obtain ⟨a, v, d, rfl, _⟩ := h
    rfl
  · obtain ⟨a, v, d, rfl, e, hd, hs, q⟩ := h
    refine ⟨_, ps0_super (m := "__init__") Z hP C Y.GR hr Y.bR pass0 Y.sup (pa_cons (pe_call Y.GW hr rfl Y.gW Y.kW Y.bW .nil pass0 (pa_cons pe_str (pa_cons (pv 1) pa_nil))) pa_nil)
      (PSs.nox <| pss_one (ps_ost (pv 0) (pv 1))) rfl rfl rfl rfl rfl rfl rfl rfl, ?_⟩
    exact ⟨a, rfl, e, v, rfl, _, v, d, rfl, by decide +kernel, hd, hs, fun y => ⟨a, D, .str y, rfl, O, e, v, rfl, .ref a, rfl, a, D, rfl, O, no, .inl ⟨e, q⟩⟩⟩
theorem sc_BadTable : NdefX.NScope ["self", "part", "__class__"] ["self", "part"] ["__class__"] (defScope i_BadTable) := NdefX.nscope_by (by decide +kernel)
theorem ok_BadTable {D f cc cda : Addr} {fd : FuncData} {k : Nat} (Z : SupF K file "__init__" "BadTable.__init__" (defArgs i_BadTable) (defBody i_BadTable) (defScope i_BadTable) D f cc cda fd) (Y : Hlp P w K mg base k) (hP : SupP P file) (C : SupC K D "__init__" Y.fR) (O : OexC K D) (no : PySem.W.findIn K (.ref D) "part" = some none) :
    FnOk P w K mg base CX0 (k + 1) f fd ["self", "part"] (spField K D "part") := by
  refine fn_super Z sc_BadTable (fun vs H Q E h => ?_) (fun A outer s H vs Q E hr h => ?_)
  · obtain ⟨a, v, d, rfl, _⟩ := h
    rfl
  · obtain ⟨a, v, d, rfl, e, hd, hs, q⟩ := h
    refine ⟨_, ps0_super (m := "__init__") Z hP C Y.GR hr Y.bR pass0 Y.sup (pa_cons (pe_call Y.GW hr rfl Y.gW Y.kW Y.bW .nil pass0 (pa_cons pe_str (pa_cons (pv 1) pa_nil))) pa_nil)
      (PSs.nox <| pss_one (ps_ost (pv 0) (pv 1))) rfl rfl rfl rfl rfl rfl rfl rfl, ?_⟩
    exact ⟨a, rfl, e, v, rfl, _, v, d, rfl, by decide +kernel, hd, hs, fun y => ⟨a, D, .str y, rfl, O, e, v, rfl, .ref a, rfl, a, D, rfl, O, no, .inl ⟨e, q⟩⟩⟩
theorem sc_BadText : NdefX.NScope ["self", "at", "__class__"] ["self", "at"] ["__class__"] (defScope i_BadText) := NdefX.nscope_by (by decide +kernel)
theorem ok_BadText {D f cc cda : Addr} {fd : FuncData} {k : Nat} (Z : SupF K file "__init__" "BadText.__init__" (defArgs i_BadText) (defBody i_BadText) (defScope i_BadText) D f cc cda fd) (Y : Hlp P w K mg base k) (hP : SupP P file) (C : SupC K D "__init__" Y.fR) (O : OexC K D) (no : PySem.W.findIn K (.ref D) "at" = some none) :
    FnOk P w K mg base CX0 (k + 1) f fd ["self", "at"] (spField K D "at") := by
  refine fn_super Z sc_BadText (fun vs H Q E h => ?_) (fun A outer s H vs Q E hr h => ?_)
  · obtain ⟨a, v, d, rfl, _⟩ := h
    rfl
  · obtain ⟨a, v, d, rfl, e, hd, hs, q⟩ := h
    refine ⟨_, ps0_super (m := "__init__") Z hP C Y.GR hr Y.bR pass0 Y.sup (pa_cons (pe_call Y.GW hr rfl Y.gW Y.kW Y.bW .nil pass0 (pa_cons pe_str (pa_cons (pv 1) pa_nil))) pa_nil)
      (PSs.nox <| pss_one (ps_ost (pv 0) (pv 1))) rfl rfl rfl rfl rfl rfl rfl rfl, ?_⟩
    exact ⟨a, rfl, e, v, rfl, _, v, d, rfl, by decide +kernel, hd, hs, fun y => ⟨a, D, .str y, rfl, O, e, v, rfl, .ref a, rfl, a, D, rfl, O, no, .inl ⟨e, q⟩⟩⟩
theorem sc_BadWeb : NdefX.NScope ["self", "part", "__class__"] ["self", "part"] ["__class__"] (defScope i_BadWeb) := NdefX.nscope_by (by decide +kernel)
theorem ok_BadWeb {D f cc cda : Addr} {fd : FuncData} {k : Nat} (Z : SupF K file "__init__" "BadWeb.__init__" (defArgs i_BadWeb) (defBody i_BadWeb) (defScope i_BadWeb) D f cc cda fd) (Y : Hlp P w K mg base k) (hP : SupP P file) (C : SupC K D "__init__" Y.fR) (O : OexC K D) (no : PySem.W.findIn K (.ref D) "part" = some none) :
    FnOk P w K mg base CX0 (k + 1) f fd ["self", "part"] (spField K D "part") := by
  refine fn_super Z sc_BadWeb (fun vs H Q E h => ?_) (fun A outer s H vs Q E hr h => ?_)
  · obtain ⟨a, v, d, rfl, _⟩ := h
    rfl
  · obtain ⟨a, v, d, rfl, e, hd, hs, q⟩ := h
    refine ⟨_, ps0_super (m := "__init__") Z hP C Y.GR hr Y.bR pass0 Y.sup (pa_cons (pe_call Y.GW hr rfl Y.gW Y.kW Y.bW .nil pass0 (pa_cons pe_str (pa_cons (pv 1) pa_nil))) pa_nil)
      (PSs.nox <| pss_one (ps_ost (pv 0) (pv 1))) rfl rfl rfl rfl rfl rfl rfl rfl, ?_⟩
    exact ⟨a, rfl, e, v, rfl, _, v, d, rfl, by decide +kernel, hd, hs, fun y => ⟨a, D, .str y, rfl, O, e, v, rfl, .ref a, rfl, a, D, rfl, O, no, .inl ⟨e, q⟩⟩⟩
theorem sc_BadWork : NdefX.NScope ["self", "part", "__class__"] ["self", "part"] ["__class__"] (defScope i_BadWork) := NdefX.nscope_by (by decide +kernel)
theorem ok_BadWork {D f cc cda : Addr} {fd : FuncData} {k : Nat} (Z : SupF K file "__init__" "BadWork.__init__" (defArgs i_BadWork) (defBody i_BadWork) (defScope i_BadWork) D f cc cda fd) (Y : Hlp P w K mg base k) (hP : SupP P file) (C : SupC K D "__init__" Y.fR) (O : OexC K D) (no : PySem.W.findIn K (.ref D) "part" = some none) :
    FnOk P w K mg base CX0 (k + 1) f fd ["self", "part"] (spField K D "part") := by
  refine fn_super Z sc_BadWork (fun vs H Q E h => ?_) (fun A outer s H vs Q E hr h => ?_)
  · obtain ⟨a, v, d, rfl, _⟩ := h
    rfl
  · obtain ⟨a, v, d, rfl, e, hd, hs, q⟩ := h
    refine ⟨_, ps0_super (m := "__init__") Z hP C Y.GR hr Y.bR pass0 Y.sup (pa_cons (pe_call Y.GW hr rfl Y.gW Y.kW Y.bW .nil pass0 (pa_cons pe_str (pa_cons (pv 1) pa_nil))) pa_nil)
      (PSs.nox <| pss_one (ps_ost (pv 0) (pv 1))) rfl rfl rfl rfl rfl rfl rfl rfl, ?_⟩
    exact ⟨a, rfl, e, v, rfl, _, v, d, rfl, by decide +kernel, hd, hs, fun y => ⟨a, D, .str y, rfl, O, e, v, rfl, .ref a, rfl, a, D, rfl, O, no, .inl ⟨e, q⟩⟩⟩
theorem sc_CannotCome : NdefX.NScope ["self", "number", "__class__"] ["self", "number"] ["__class__"] (defScope i_CannotCome) := NdefX.nscope_by (by decide +kernel)
theorem ok_CannotCome {D f cc cda : Addr} {fd : FuncData} {k : Nat} (Z : SupF K file "__init__" "CannotCome.__init__" (defArgs i_CannotCome) (defBody i_CannotCome) (defScope i_CannotCome) D f cc cda fd) (Y : Hlp P w K mg base k) (hP : SupP P file) (C : SupC K D "__init__" Y.fR) (O : OexC K D) (no : PySem.W.findIn K (.ref D) "number" = some none) :
    FnOk P w K mg base CX0 (k + 1) f fd ["self", "number"] (spField K D "number") := by
  refine fn_super Z sc_CannotCome (fun vs H Q E h => ?_) (fun A outer s H vs Q E hr h => ?_)
  · obtain ⟨a, v, d, rfl, _⟩ := h
    rfl
  · obtain ⟨a, v, d, rfl, e, hd, hs, q⟩ := h
    refine ⟨_, ps0_super (m := "__init__") Z hP C Y.GR hr Y.bR pass0 Y.sup (pa_cons (pe_call Y.GW hr rfl Y.gW Y.kW Y.bW .nil pass0 (pa_cons pe_str (pa_cons (pv 1) pa_nil))) pa_nil)
      (PSs.nox <| pss_one (ps_ost (pv 0) (pv 1))) rfl rfl rfl rfl rfl rfl rfl rfl, ?_⟩
    exact ⟨a, rfl, e, v, rfl, _, v, d, rfl, by decide +kernel, hd, hs, fun y => ⟨a, D, .str y, rfl, O, e, v, rfl, .ref a, rfl, a, D, rfl, O, no, .inl ⟨e, q⟩⟩⟩
theorem sc_TooMany : NdefX.NScope ["self", "most", "__class__"] ["self", "most"] ["__class__"] (defScope i_TooMany) := NdefX.nscope_by (by decide +kernel)
theorem ok_TooMany {D f cc cda : Addr} {fd : FuncData} {k : Nat} (Z : SupF K file "__init__" "TooMany.__init__" (defArgs i_TooMany) (defBody i_TooMany) (defScope i_TooMany) D f cc cda fd) (Y : Hlp P w K mg base k) (hP : SupP P file) (C : SupC K D "__init__" Y.fR) (O : OexC K D) (no : PySem.W.findIn K (.ref D) "most" = some none) :
    FnOk P w K mg base CX0 (k + 1) f fd ["self", "most"] (spField K D "most") := by
  refine fn_super Z sc_TooMany (fun vs H Q E h => ?_) (fun A outer s H vs Q E hr h => ?_)
  · obtain ⟨a, v, d, rfl, _⟩ := h
    rfl
  · obtain ⟨a, v, d, rfl, e, hd, hs, q⟩ := h
    refine ⟨_, ps0_super (m := "__init__") Z hP C Y.GR hr Y.bR pass0 Y.sup (pa_cons (pe_call Y.GW hr rfl Y.gW Y.kW Y.bW .nil pass0 (pa_cons pe_str (pa_cons (pv 1) pa_nil))) pa_nil)
      (PSs.nox <| pss_one (ps_ost (pv 0) (pv 1))) rfl rfl rfl rfl rfl rfl rfl rfl, ?_⟩
    exact ⟨a, rfl, e, v, rfl, _, v, d, rfl, by decide +kernel, hd, hs, fun y => ⟨a, D, .str y, rfl, O, e, v, rfl, .ref a, rfl, a, D, rfl, O, no, .inl ⟨e, q⟩⟩⟩
end
end K00


set_option maxHeartbeats 4000000
namespace K00
open PySem PySem.Spec PyProof.Rows L2
theorem DrawAt.keepS {B H : Hp} {d p : Addr} {o : HO} (D : DrawAt B H d) (h : H p = none) : DrawAt (upd B p o) (upd H p o) d ∧ Same B (upd B p o) := ⟨D.keep h, same_new (D.same.free h)⟩
/-- an empty dict beside the draw is filled -/
theorem DrawAt.over {B H : Hp} {d p : Addr} {o : HO} (D : DrawAt B H d) (h : H p = some (.dK [])) (hb : B p = none) : DrawAt (upd B p o) (upd H p o) d ∧ Same B (upd B p o) := by
  obtain ⟨s, n, l, c, r, t, ls, cs, h1, h2, h3, h4, h5, h6, h7⟩ := D
  have nd : d ≠ p := ne_of h1 h (by intro z; unfold drawKV at z; simp at z)
  have nl : l ≠ p := ne_of h5 h (by intro z; cases z)
  have nc : c ≠ p := ne_of h6 h (by intro z; cases z)
  refine ⟨⟨fun b x e => ?_, ?_, l, c, r, t, ls, cs, ?_, h2, ?_, ?_, ?_, ?_, h7⟩, same_new hb⟩
  · by_cases e' : b = p
    · subst e'
      rw [upd_same] at e ⊢
      exact e
    · rw [upd_ne e'] at e ⊢
      exact s b x e
  · rw [upd_ne nd]; exact n
  · rw [upd_ne nd]; exact h1
  · rw [upd_ne nl]; exact h3
  · rw [upd_ne nc]; exact h4
  · rw [upd_ne nl]; exact h5
  · rw [upd_ne nc]; exact h6
theorem dqAll_get {K : PySem.W.Frag} {H : Hp} : ∀ {vs : List V} {ds : List PyData} {i : Nat} {v : V}, DqAll K H vs ds → vs[i]? = some v → ∃ d, ds[i]? = some d ∧ Dq K H v d
  | _, _, _, _, .nil, h => by simp at h
  | _, _, 0, _, .cons a t, h => by simp at h; subst h; exact ⟨_, rfl, a⟩
  | _, _, i + 1, v, .cons a t, h => by
    obtain ⟨d, e, q⟩ := dqAll_get (i := i) t (by simpa using h)
    exact ⟨d, by simpa using e, q⟩
def anyD : List PyData := [.none, .bool false, .int (-5), .int (10 ^ 45), .str "", .str "wide", .str "two words", .list [], .list [.tuple [.int 0, .int 2]], .tuple [], .tuple [.int 4], .dict [], .dict [(.str "a", .tuple [.int 1])], .list [.list [.none]]]
def spAny (K : PySem.W.Frag) : Sp := fun vs H Q _ => ∃ (d : Addr) (B : Hp), vs = [.ref d] ∧ DrawAt B H d ∧ ∀ (H' B' : Hp) (v : V) (D : PyData), Same B B' → DrawAt B' H' d → Dq K B' v D → D ∈ anyD → Q v H'
section
variable {P : Program} {w : World} {K : PySem.W.Frag} {mg : Str → Option Value} {base : Heap}
abbrev N_any : List Str := ["draw", "some"]
theorem sc_any : FnScope N_any ["draw"] (defScope s_law_any) := ⟨rfl, rfl, rfl, by decide +kernel, rfl, by decide +kernel, by decide +kernel⟩
theorem two_fits : 2 ≤ sizeLine := by decide
theorem n14_fits : 14 ≤ sizeLine := by decide
theorem ok_any {f fM : Addr} {fd fdM : FuncData} {k : Nat} (F : FnP K "_law_any" s_law_any f fd) (GM : FnOk P w K mg base CX0 k fM fdM ["draw", "some"] (spPick K)) (gM : mg "_law_pick" = some (.ref fM)) (kM : PySem.W.keepIn K (.ref fM) = true) (bM : Binds K fdM ["draw", "some"] []) :
    FnOk P w K mg base CX0 (k + 1) f fd ["draw"] (spAny K) := by
  refine F.ok sc_any (fun vs H Q E h => ?_) (fun cdv A outer s H vs Q E hr h => ?_)
  · obtain ⟨d, B, rfl, _⟩ := h
    rfl
  · obtain ⟨d, B, rfl, D, q⟩ := h
    refine ⟨_, PSs.nox <| pss_cons (ps_set (i := 1) sc_any.nd rfl (Or.inl rfl) (pe_lst (pa_cons pe_non (pa_cons pe_bl (pa_cons (pe_un un_neg pe_int) (pa_cons (pe_op op_pow pe_int pe_int) (pa_cons pe_str (pa_cons pe_str (pa_cons pe_str
        (pa_cons (pe_lst pa_nil) (pa_cons (pe_lst (pa_cons (pe_tup (pa_cons pe_int (pa_cons pe_int pa_nil))) pa_nil)) (pa_cons (pe_tup pa_nil) (pa_cons (pe_tup (pa_cons pe_int pa_nil)) (pa_cons pe_dnewK
        (pa_cons (pe_disp (pps_cons pe_str (pe_tup (pa_cons pe_int pa_nil)) pps_nil) (by rfl) (by rfl) (fun z => by cases z) (by decide)) (pa_cons (pe_lst (pa_cons (pe_lst (pa_cons pe_non pa_nil)) pa_nil)) pa_nil))))))))))))))))
      (pss_one (ps_ret (pe_call GM hr rfl gM kM bM .nil pass0 (pa_cons (pv 0) (pa_cons (pv 1) pa_nil))))), ?_⟩
    refine ⟨5, rfl, 10, 45, rfl, rfl, ⟨by decide, by decide, by decide⟩, Nat.zero_le _, fun p1 h => ?_⟩
    have S0 : Same B B := Same.refl B
    obtain ⟨B0, hB0⟩ : ∃ B0, B0 = B := ⟨B, rfl⟩
    rw [← hB0] at q
    have S0 : Same B0 B := by rw [hB0]; exact Same.refl B
    clear hB0
    obtain ⟨D, s⟩ := D.keepS (o := .lst []) h
    replace S0 := S0.trans s
    have fp1 := SqL.of (K := K) (upd_same (H := B) (a := p1) (o := .lst []))
    clear s h
    generalize upd B p1 (.lst []) = B at D S0 fp1
    generalize upd H p1 (.lst []) = H at D ⊢
    refine ⟨two_fits, fun p2 h => ?_⟩
    obtain ⟨D, s⟩ := D.keepS (o := .tup [.int 0, .int 2]) h
    replace fp1 := s.seq fp1
    replace S0 := S0.trans s
    have fp2 : SqT K (upd B p2 (.tup [.int 0, .int 2])) p2 _ := .inl (.inl upd_same)
    clear s h
    generalize upd B p2 (.tup [.int 0, .int 2]) = B at D S0 fp1 fp2
    generalize upd H p2 (.tup [.int 0, .int 2]) = H at D ⊢
    refine ⟨(by show 1 ≤ sizeLine; decide), fun p3 h => ?_⟩
    obtain ⟨D, s⟩ := D.keepS (o := .lst [.ref p2]) h
    replace fp1 := s.seq fp1
    replace fp2 := same_seqT s fp2
    replace S0 := S0.trans s
    have fp3 := SqL.of (K := K) (upd_same (H := B) (a := p3) (o := .lst [.ref p2]))
    clear s h
    generalize upd B p3 (.lst [.ref p2]) = B at D S0 fp1 fp2 fp3
    generalize upd H p3 (.lst [.ref p2]) = H at D ⊢
    refine ⟨Nat.zero_le _, fun p4 h => ?_⟩
    obtain ⟨D, s⟩ := D.keepS (o := .tup []) h
    replace fp1 := s.seq fp1
    replace fp2 := same_seqT s fp2
    replace fp3 := s.seq fp3
    replace S0 := S0.trans s
    have fp4 : SqT K (upd B p4 (.tup [])) p4 _ := .inl (.inl upd_same)
    clear s h
    generalize upd B p4 (.tup []) = B at D S0 fp1 fp2 fp3 fp4
    generalize upd H p4 (.tup []) = H at D ⊢
    refine ⟨(by show 1 ≤ sizeLine; decide), fun p5 h => ?_⟩
    obtain ⟨D, s⟩ := D.keepS (o := .tup [.int 4]) h
    replace fp1 := s.seq fp1
    replace fp2 := same_seqT s fp2
    replace fp3 := s.seq fp3
    replace fp4 := same_seqT s fp4
    replace S0 := S0.trans s
    have fp5 : SqT K (upd B p5 (.tup [.int 4])) p5 _ := .inl (.inl upd_same)
    clear s h
    generalize upd B p5 (.tup [.int 4]) = B at D S0 fp1 fp2 fp3 fp4 fp5
    generalize upd H p5 (.tup [.int 4]) = H at D ⊢
    intro p6 h
    obtain ⟨D, s⟩ := D.keepS (o := .dK []) h
    replace fp1 := s.seq fp1
    replace fp2 := same_seqT s fp2
    replace fp3 := s.seq fp3
    replace fp4 := same_seqT s fp4
    replace fp5 := same_seqT s fp5
    replace S0 := S0.trans s
    have fp6 : upd B p6 (.dK []) p6 = some (.dK []) := upd_same
    clear s h
    generalize upd B p6 (.dK []) = B at D S0 fp1 fp2 fp3 fp4 fp5 fp6
    generalize upd H p6 (.dK []) = H at D ⊢
    intro p7 h7
    have b7 := D.same.free h7
    have D := D.drop (o := .dK []) h7
    refine ⟨(by show 1 ≤ sizeLine; decide), fun p8 h => ?_⟩
    have n87 : p7 ≠ p8 := ne_of_none (upd_same (H := H) (a := p7) (o := .dK [])) h
    obtain ⟨D, s⟩ := D.keepS (o := .tup [.int 1]) h
    replace fp1 := s.seq fp1
    replace fp2 := same_seqT s fp2
    replace fp3 := s.seq fp3
    replace fp4 := same_seqT s fp4
    replace fp5 := same_seqT s fp5
    replace fp6 := s _ _ fp6
    replace S0 := S0.trans s
    have fp8 : SqT K (upd B p8 (.tup [.int 1])) p8 _ := .inl (.inl upd_same)
    have g7 : (upd (upd H p7 (.dK [])) p8 (.tup [.int 1])) p7 = some (.dK []) := by rw [upd_ne n87, upd_same]
    replace b7 : (upd B p8 (.tup [.int 1])) p7 = none := by rw [upd_ne n87]; exact b7
    clear s h
    generalize upd B p8 (.tup [.int 1]) = B at D S0 b7 fp1 fp2 fp3 fp4 fp5 fp6 fp8
    generalize (upd (upd H p7 (.dK [])) p8 (.tup [.int 1])) = H at D g7 ⊢
    refine ⟨g7, [(.inr "a", .ref p8)], rfl, (by show 1 ≤ 15; decide), ?_⟩
    have em : mergeK [] [((.inr "a" : Key), V.ref p8)] = [(.inr "a", .ref p8)] := rfl
    rw [em]
    obtain ⟨D, s⟩ := D.over (o := .dK [(.inr "a", .ref p8)]) g7 b7
    replace fp1 := s.seq fp1
    replace fp2 := same_seqT s fp2
    replace fp3 := s.seq fp3
    replace fp4 := same_seqT s fp4
    replace fp5 := same_seqT s fp5
    replace fp6 := s _ _ fp6
    replace fp8 := same_seqT s fp8
    replace S0 := S0.trans s
    have fp7 : upd B p7 (.dK [(.inr "a", .ref p8)]) p7 = some (.dK [(.inr "a", .ref p8)]) := upd_same
    clear s g7 b7
    generalize upd B p7 (.dK [(.inr "a", .ref p8)]) = B at D S0 fp1 fp2 fp3 fp4 fp5 fp6 fp8 fp7
    generalize upd H p7 (.dK [(.inr "a", .ref p8)]) = H at D ⊢
    refine ⟨(by show 1 ≤ sizeLine; decide), fun p9 h => ?_⟩
    obtain ⟨D, s⟩ := D.keepS (o := .lst [.non]) h
    replace fp1 := s.seq fp1
    replace fp2 := same_seqT s fp2
    replace fp3 := s.seq fp3
    replace fp4 := same_seqT s fp4
    replace fp5 := same_seqT s fp5
    replace fp6 := s _ _ fp6
    replace fp8 := same_seqT s fp8
    replace fp7 := s _ _ fp7
    replace S0 := S0.trans s
    have fp9 := SqL.of (K := K) (upd_same (H := B) (a := p9) (o := .lst [.non]))
    clear s h
    generalize upd B p9 (.lst [.non]) = B at D S0 fp1 fp2 fp3 fp4 fp5 fp6 fp8 fp7 fp9
    generalize upd H p9 (.lst [.non]) = H at D ⊢
    refine ⟨(by show 1 ≤ sizeLine; decide), fun p10 h => ?_⟩
    obtain ⟨D, s⟩ := D.keepS (o := .lst [.ref p9]) h
    replace fp1 := s.seq fp1
    replace fp2 := same_seqT s fp2
    replace fp3 := s.seq fp3
    replace fp4 := same_seqT s fp4
    replace fp5 := same_seqT s fp5
    replace fp6 := s _ _ fp6
    replace fp8 := same_seqT s fp8
    replace fp7 := s _ _ fp7
    replace fp9 := s.seq fp9
    replace S0 := S0.trans s
    have fp10 := SqL.of (K := K) (upd_same (H := B) (a := p10) (o := .lst [.ref p9]))
    clear s h
    generalize upd B p10 (.lst [.ref p9]) = B at D S0 fp1 fp2 fp3 fp4 fp5 fp6 fp8 fp7 fp9 fp10
    generalize upd H p10 (.lst [.ref p9]) = H at D ⊢
    have al : DqAll K B [.non, .bl false, .int (-5), .int (10 ^ 45), .str "", .str "wide", .str "two words", .ref p1, .ref p3, .ref p4, .ref p5, .ref p6, .ref p7, .ref p10] anyD :=
      .cons .non (.cons (.bl _) (.cons (.int _) (.cons (.int _) (.cons (.str _) (.cons (.str _) (.cons (.str _) (.cons (.lst fp1 .nil) (.cons (.lst fp3 (.cons (.tup fp2 (.cons (.int _) (.cons (.int _) .nil))) .nil)) (.cons (.tup fp4 .nil) (.cons (.tup fp5 (.cons (.int _) .nil))
      (.cons (.dic fp6 .nil) (.cons (.dic (kvs := [(.inr "a", .ref p8)]) fp7 (.cons (.tup fp8 (.cons (.int _) .nil)) .nil)) (.cons (.lst fp10 (.cons (.lst fp9 (.cons .non .nil)) .nil)) .nil)))))))))))))
    refine ⟨n14_fits, fun p h => ?_⟩
    obtain ⟨D, s⟩ := D.keepS (o := .lst [.non, .bl false, .int (-5), .int (10 ^ 45), .str "", .str "wide", .str "two words", .ref p1, .ref p3, .ref p4, .ref p5, .ref p6, .ref p7, .ref p10]) h
    refine ⟨.ref d, rfl, .ref p, rfl, d, p, _, _, rfl, D, SqL.of upd_same, (by show 0 < 14; decide), (by show 14 < 1073741824; decide), fun H' i x D' hi => ?_⟩
    obtain ⟨dd, hd, hq⟩ := dqAll_get al hi
    exact q H' _ x dd (S0.trans s) D' (hq.same s) (List.mem_of_getElem? hd)
end
end K00

set_option maxHeartbeats 16000000
namespace K00
open PySem PySem.Spec PyProof.Rows L2
def ordP : List Str := ["BadNet", "BadLabelling", "BadNames", "BadOrder", "BadState", "BadMarks", "BadPiece", "NotBending", "BadWindow", "BadMap", "BadKind", "NoProgram", "BadColouring", "BadDraft", "BadHouses", "BadDeed", "BadSession", "BadPhrase", "NotNow", "BadFront", "BadLetters", "BadBytes", "BadHouse", "BadSpans", "BadTree", "BadLabels"]
def ordF : List Str := ["BadNumber", "BadProblem", "BadTable", "TooMany", "BadText", "BadLead", "BadSizes", "BadProgram", "BadWeb", "CannotCome", "BadJournal", "BadWork", "BadDeeds", "BadLog"]
def ordE : List Str := ordP ++ ordF
structure Clss (K : PySem.W.Frag) (mg : Str → Option Value) : Prop where
  at_ : ∀ x ∈ ordE, mg x = some (.ref (He.ga K x)) ∧ He.ErrC K (mR K) (He.ga K x)
  gR : mg "RoundError" = some (.ref (He.ga K "RoundError"))
  eR : He.ErrC K PySem.HandSPX.veTail (He.ga K "RoundError")
  nd : (He.ga K "RoundError" :: ordE.map (He.ga K)).Nodup
  sys : SysIn K
def kindsOf (K : PySem.W.Frag) (C : Addr) (m : List Value) : List Bool := ordE.map fun x => (Value.ref C :: m).contains (.ref (He.ga K x))
/-- an error of C stands at a -/
structure ErrAt (K : PySem.W.Frag) (H : Hp) (a C : Addr) (m : List Value) : Prop where
  ob : ∃ d, H a = some (exo a C d) ∧ ∀ dd, d = some dd → ∃ fs, H dd = some (exd dd fs)
  ec : He.ErrC K m C
theorem ErrAt.same {K : PySem.W.Frag} {H H' : Hp} {a C : Addr} {m : List Value} (h : ErrAt K H a C m) (s : Same H H') : ErrAt K H' a C m :=
  let ⟨⟨d, e, f⟩, c⟩ := h
  ⟨⟨d, s _ _ e, fun dd q => let ⟨fs, z⟩ := f dd q; ⟨fs, s _ _ z⟩⟩, c⟩
theorem isE {K : PySem.W.Frag} {σ : L2.St} {H : Hp} {Q : VK} {a C D : Addr} {m m' : List Value} (h0 : σ[0]? = some (some (.ref a))) (h : ErrAt K H a C m) (c : He.ErrC K m' D) (q : Q (.bl ((Value.ref C :: m).contains (.ref D))) H) :
    tCB (rIsV K) (tCons (tVar 0) (tCons (tC (.ref D)) tNil)) σ H Q :=
  let ⟨⟨d, e, f⟩, ec⟩ := h
  ⟨.ref a, h0, a, C, d, .ref D, .ref D, _, rfl, e, f, ec.ec, .own D, ec.kit c, q⟩
theorem catStep {H0 H : Hp} {p : Addr} {xs ys : List Bool} {Q : VK} (s : Same H0 H) (hL : H p = some (.lst (xs.map V.bl))) (hz : (ys.map V.bl).length ≤ sizeLine) (hz2 : (xs.map V.bl).length + (ys.map V.bl).length ≤ sizeLine)
    (k : ∀ H' q, Same H0 H' → H0 q = none → H' q = some (.lst ((xs ++ ys).map V.bl)) → Q (.ref q) H') : (ys.map V.bl).length ≤ sizeLine ∧ ∀ p1, H p1 = none → rCat (.ref p) (.ref p1) (upd H p1 (.lst (ys.map V.bl))) Q := by
  refine ⟨hz, fun p1 n1 => ⟨p, p1, _, _, rfl, rfl, (upd_ne (ne_of_none hL n1)).trans hL, upd_same, hz2, fun p2 n2 => ?_⟩⟩
  refine k _ p2 (s.trans ((same_new n1).trans (same_new n2))) (s.free ((same_new n1).free n2)) ?_
  rw [List.map_append]
  exact upd_same
def spKinds (K : PySem.W.Frag) : Sp := fun vs H Q _ => ∃ (a C : Addr) (m : List Value), vs = [.ref a] ∧ ErrAt K H a C m ∧ ∀ H' p, Same H H' → H p = none → H' p = some (.lst ((kindsOf K C m).map V.bl)) → Q (.ref p) H'
section
variable {P : Program} {w : World} {K : PySem.W.Frag} {mg : Str → Option Value} {base : Heap}
abbrev N_kinds : List Str := ["error", "found"]
theorem sc_kinds : FnScope N_kinds ["error"] (defScope s_law_kinds) := ⟨rfl, rfl, rfl, by decide +kernel, rfl, by decide +kernel, by decide +kernel⟩
theorem ok_kinds {f : Addr} {fd : FuncData} {k : Nat} (F : FnP K "_law_kinds" s_law_kinds f fd) (T : Bl mg) (Y : Clss K mg) : FnOk P w K mg base CX0 (k + 1) f fd ["error"] (spKinds K) := by
  refine F.ok sc_kinds (fun vs H Q E h => ?_) (fun cdv A outer s H vs Q E hr h => ?_)
  · obtain ⟨a, C, m, rfl, _⟩ := h
    rfl
  · obtain ⟨a, C, m, rfl, hE, q⟩ := h
    obtain ⟨g_BadNet, e_BadNet⟩ := Y.at_ "BadNet" (by decide +kernel)
    obtain ⟨g_BadLabelling, e_BadLabelling⟩ := Y.at_ "BadLabelling" (by decide +kernel)
    obtain ⟨g_BadNames, e_BadNames⟩ := Y.at_ "BadNames" (by decide +kernel)
    obtain ⟨g_BadOrder, e_BadOrder⟩ := Y.at_ "BadOrder" (by decide +kernel)
    obtain ⟨g_BadState, e_BadState⟩ := Y.at_ "BadState" (by decide +kernel)
    obtain ⟨g_BadMarks, e_BadMarks⟩ := Y.at_ "BadMarks" (by decide +kernel)
    obtain ⟨g_BadPiece, e_BadPiece⟩ := Y.at_ "BadPiece" (by decide +kernel)
    obtain ⟨g_NotBending, e_NotBending⟩ := Y.at_ "NotBending" (by decide +kernel)
    obtain ⟨g_BadWindow, e_BadWindow⟩ := Y.at_ "BadWindow" (by decide +kernel)
    obtain ⟨g_BadMap, e_BadMap⟩ := Y.at_ "BadMap" (by decide +kernel)
    obtain ⟨g_BadKind, e_BadKind⟩ := Y.at_ "BadKind" (by decide +kernel)
    obtain ⟨g_NoProgram, e_NoProgram⟩ := Y.at_ "NoProgram" (by decide +kernel)
    obtain ⟨g_BadColouring, e_BadColouring⟩ := Y.at_ "BadColouring" (by decide +kernel)
    obtain ⟨g_BadDraft, e_BadDraft⟩ := Y.at_ "BadDraft" (by decide +kernel)
    obtain ⟨g_BadHouses, e_BadHouses⟩ := Y.at_ "BadHouses" (by decide +kernel)
    obtain ⟨g_BadDeed, e_BadDeed⟩ := Y.at_ "BadDeed" (by decide +kernel)
    obtain ⟨g_BadSession, e_BadSession⟩ := Y.at_ "BadSession" (by decide +kernel)
    obtain ⟨g_BadPhrase, e_BadPhrase⟩ := Y.at_ "BadPhrase" (by decide +kernel)
    obtain ⟨g_NotNow, e_NotNow⟩ := Y.at_ "NotNow" (by decide +kernel)
    obtain ⟨g_BadFront, e_BadFront⟩ := Y.at_ "BadFront" (by decide +kernel)
    obtain ⟨g_BadLetters, e_BadLetters⟩ := Y.at_ "BadLetters" (by decide +kernel)
    obtain ⟨g_BadBytes, e_BadBytes⟩ := Y.at_ "BadBytes" (by decide +kernel)
    obtain ⟨g_BadHouse, e_BadHouse⟩ := Y.at_ "BadHouse" (by decide +kernel)
    obtain ⟨g_BadSpans, e_BadSpans⟩ := Y.at_ "BadSpans" (by decide +kernel)
    obtain ⟨g_BadTree, e_BadTree⟩ := Y.at_ "BadTree" (by decide +kernel)
    obtain ⟨g_BadLabels, e_BadLabels⟩ := Y.at_ "BadLabels" (by decide +kernel)
    obtain ⟨g_BadNumber, e_BadNumber⟩ := Y.at_ "BadNumber" (by decide +kernel)
    obtain ⟨g_BadProblem, e_BadProblem⟩ := Y.at_ "BadProblem" (by decide +kernel)
    obtain ⟨g_BadTable, e_BadTable⟩ := Y.at_ "BadTable" (by decide +kernel)
    obtain ⟨g_TooMany, e_TooMany⟩ := Y.at_ "TooMany" (by decide +kernel)
    obtain ⟨g_BadText, e_BadText⟩ := Y.at_ "BadText" (by decide +kernel)
    obtain ⟨g_BadLead, e_BadLead⟩ := Y.at_ "BadLead" (by decide +kernel)
    obtain ⟨g_BadSizes, e_BadSizes⟩ := Y.at_ "BadSizes" (by decide +kernel)
    obtain ⟨g_BadProgram, e_BadProgram⟩ := Y.at_ "BadProgram" (by decide +kernel)
    obtain ⟨g_BadWeb, e_BadWeb⟩ := Y.at_ "BadWeb" (by decide +kernel)
    obtain ⟨g_CannotCome, e_CannotCome⟩ := Y.at_ "CannotCome" (by decide +kernel)
    obtain ⟨g_BadJournal, e_BadJournal⟩ := Y.at_ "BadJournal" (by decide +kernel)
    obtain ⟨g_BadWork, e_BadWork⟩ := Y.at_ "BadWork" (by decide +kernel)
    obtain ⟨g_BadDeeds, e_BadDeeds⟩ := Y.at_ "BadDeeds" (by decide +kernel)
    obtain ⟨g_BadLog, e_BadLog⟩ := Y.at_ "BadLog" (by decide +kernel)
    refine ⟨_, PSs.nox <| (pss_cons (ps_set (i := 1) sc_kinds.nd rfl (Or.inl rfl) (pe_lst pa_nil))
      (pss_cons (ps_set (i := 1) sc_kinds.nd rfl (Or.inl rfl) (pe_op op_cat (pv 1) (pe_lst (pa_cons (pe_callB call_isV (by rfl) T.isi (by decide +kernel) (pa_cons (pv 0) (pa_cons (pe_glob (v := .ref _) (by rfl) g_BadNet rfl) pa_nil))) (pa_cons (pe_callB call_isV (by rfl) T.isi (by decide +kernel) (pa_cons (pv 0) (pa_cons (pe_glob (v := .ref _) (by rfl) g_BadLabelling rfl) pa_nil))) (pa_cons (pe_callB call_isV (by rfl) T.isi (by decide +kernel) (pa_cons (pv 0) (pa_cons (pe_glob (v := .ref _) (by rfl) g_BadNames rfl) pa_nil))) pa_nil))))))
      (pss_cons (ps_set (i := 1) sc_kinds.nd rfl (Or.inl rfl) (pe_op op_cat (pv 1) (pe_lst (pa_cons (pe_callB call_isV (by rfl) T.isi (by decide +kernel) (pa_cons (pv 0) (pa_cons (pe_glob (v := .ref _) (by rfl) g_BadOrder rfl) pa_nil))) (pa_cons (pe_callB call_isV (by rfl) T.isi (by decide +kernel) (pa_cons (pv 0) (pa_cons (pe_glob (v := .ref _) (by rfl) g_BadState rfl) pa_nil))) (pa_cons (pe_callB call_isV (by rfl) T.isi (by decide +kernel) (pa_cons (pv 0) (pa_cons (pe_glob (v := .ref _) (by rfl) g_BadMarks rfl) pa_nil))) pa_nil))))))
      (pss_cons (ps_set (i := 1) sc_kinds.nd rfl (Or.inl rfl) (pe_op op_cat (pv 1) (pe_lst (pa_cons (pe_callB call_isV (by rfl) T.isi (by decide +kernel) (pa_cons (pv 0) (pa_cons (pe_glob (v := .ref _) (by rfl) g_BadPiece rfl) pa_nil))) (pa_cons (pe_callB call_isV (by rfl) T.isi (by decide +kernel) (pa_cons (pv 0) (pa_cons (pe_glob (v := .ref _) (by rfl) g_NotBending rfl) pa_nil))) (pa_cons (pe_callB call_isV (by rfl) T.isi (by decide +kernel) (pa_cons (pv 0) (pa_cons (pe_glob (v := .ref _) (by rfl) g_BadWindow rfl) pa_nil))) pa_nil))))))
      (pss_cons (ps_set (i := 1) sc_kinds.nd rfl (Or.inl rfl) (pe_op op_cat (pv 1) (pe_lst (pa_cons (pe_callB call_isV (by rfl) T.isi (by decide +kernel) (pa_cons (pv 0) (pa_cons (pe_glob (v := .ref _) (by rfl) g_BadMap rfl) pa_nil))) (pa_cons (pe_callB call_isV (by rfl) T.isi (by decide +kernel) (pa_cons (pv 0) (pa_cons (pe_glob (v := .ref _) (by rfl) g_BadKind rfl) pa_nil))) (pa_cons (pe_callB call_isV (by rfl) T.isi (by decide +kernel) (pa_cons (pv 0) (pa_cons (pe_glob (v := .ref _) (by rfl) g_NoProgram rfl) pa_nil))) pa_nil))))))
      (pss_cons (ps_set (i := 1) sc_kinds.nd rfl (Or.inl rfl) (pe_op op_cat (pv 1) (pe_lst (pa_cons (pe_callB call_isV (by rfl) T.isi (by decide +kernel) (pa_cons (pv 0) (pa_cons (pe_glob (v := .ref _) (by rfl) g_BadColouring rfl) pa_nil))) (pa_cons (pe_callB call_isV (by rfl) T.isi (by decide +kernel) (pa_cons (pv 0) (pa_cons (pe_glob (v := .ref _) (by rfl) g_BadDraft rfl) pa_nil))) pa_nil)))))
      (pss_cons (ps_set (i := 1) sc_kinds.nd rfl (Or.inl rfl) (pe_op op_cat (pv 1) (pe_lst (pa_cons (pe_callB call_isV (by rfl) T.isi (by decide +kernel) (pa_cons (pv 0) (pa_cons (pe_glob (v := .ref _) (by rfl) g_BadHouses rfl) pa_nil))) (pa_cons (pe_callB call_isV (by rfl) T.isi (by decide +kernel) (pa_cons (pv 0) (pa_cons (pe_glob (v := .ref _) (by rfl) g_BadDeed rfl) pa_nil))) (pa_cons (pe_callB call_isV (by rfl) T.isi (by decide +kernel) (pa_cons (pv 0) (pa_cons (pe_glob (v := .ref _) (by rfl) g_BadSession rfl) pa_nil))) pa_nil))))))
      (pss_cons (ps_set (i := 1) sc_kinds.nd rfl (Or.inl rfl) (pe_op op_cat (pv 1) (pe_lst (pa_cons (pe_callB call_isV (by rfl) T.isi (by decide +kernel) (pa_cons (pv 0) (pa_cons (pe_glob (v := .ref _) (by rfl) g_BadPhrase rfl) pa_nil))) (pa_cons (pe_callB call_isV (by rfl) T.isi (by decide +kernel) (pa_cons (pv 0) (pa_cons (pe_glob (v := .ref _) (by rfl) g_NotNow rfl) pa_nil))) (pa_cons (pe_callB call_isV (by rfl) T.isi (by decide +kernel) (pa_cons (pv 0) (pa_cons (pe_glob (v := .ref _) (by rfl) g_BadFront rfl) pa_nil))) pa_nil))))))
      (pss_cons (ps_set (i := 1) sc_kinds.nd rfl (Or.inl rfl) (pe_op op_cat (pv 1) (pe_lst (pa_cons (pe_callB call_isV (by rfl) T.isi (by decide +kernel) (pa_cons (pv 0) (pa_cons (pe_glob (v := .ref _) (by rfl) g_BadLetters rfl) pa_nil))) (pa_cons (pe_callB call_isV (by rfl) T.isi (by decide +kernel) (pa_cons (pv 0) (pa_cons (pe_glob (v := .ref _) (by rfl) g_BadBytes rfl) pa_nil))) (pa_cons (pe_callB call_isV (by rfl) T.isi (by decide +kernel) (pa_cons (pv 0) (pa_cons (pe_glob (v := .ref _) (by rfl) g_BadHouse rfl) pa_nil))) pa_nil))))))
      (pss_cons (ps_set (i := 1) sc_kinds.nd rfl (Or.inl rfl) (pe_op op_cat (pv 1) (pe_lst (pa_cons (pe_callB call_isV (by rfl) T.isi (by decide +kernel) (pa_cons (pv 0) (pa_cons (pe_glob (v := .ref _) (by rfl) g_BadSpans rfl) pa_nil))) (pa_cons (pe_callB call_isV (by rfl) T.isi (by decide +kernel) (pa_cons (pv 0) (pa_cons (pe_glob (v := .ref _) (by rfl) g_BadTree rfl) pa_nil))) (pa_cons (pe_callB call_isV (by rfl) T.isi (by decide +kernel) (pa_cons (pv 0) (pa_cons (pe_glob (v := .ref _) (by rfl) g_BadLabels rfl) pa_nil))) pa_nil))))))
      (pss_cons (ps_set (i := 1) sc_kinds.nd rfl (Or.inl rfl) (pe_op op_cat (pv 1) (pe_lst (pa_cons (pe_callB call_isV (by rfl) T.isi (by decide +kernel) (pa_cons (pv 0) (pa_cons (pe_glob (v := .ref _) (by rfl) g_BadNumber rfl) pa_nil))) (pa_cons (pe_callB call_isV (by rfl) T.isi (by decide +kernel) (pa_cons (pv 0) (pa_cons (pe_glob (v := .ref _) (by rfl) g_BadProblem rfl) pa_nil))) (pa_cons (pe_callB call_isV (by rfl) T.isi (by decide +kernel) (pa_cons (pv 0) (pa_cons (pe_glob (v := .ref _) (by rfl) g_BadTable rfl) pa_nil))) pa_nil))))))
      (pss_cons (ps_set (i := 1) sc_kinds.nd rfl (Or.inl rfl) (pe_op op_cat (pv 1) (pe_lst (pa_cons (pe_callB call_isV (by rfl) T.isi (by decide +kernel) (pa_cons (pv 0) (pa_cons (pe_glob (v := .ref _) (by rfl) g_TooMany rfl) pa_nil))) (pa_cons (pe_callB call_isV (by rfl) T.isi (by decide +kernel) (pa_cons (pv 0) (pa_cons (pe_glob (v := .ref _) (by rfl) g_BadText rfl) pa_nil))) (pa_cons (pe_callB call_isV (by rfl) T.isi (by decide +kernel) (pa_cons (pv 0) (pa_cons (pe_glob (v := .ref _) (by rfl) g_BadLead rfl) pa_nil))) pa_nil))))))
      (pss_cons (ps_set (i := 1) sc_kinds.nd rfl (Or.inl rfl) (pe_op op_cat (pv 1) (pe_lst (pa_cons (pe_callB call_isV (by rfl) T.isi (by decide +kernel) (pa_cons (pv 0) (pa_cons (pe_glob (v := .ref _) (by rfl) g_BadSizes rfl) pa_nil))) (pa_cons (pe_callB call_isV (by rfl) T.isi (by decide +kernel) (pa_cons (pv 0) (pa_cons (pe_glob (v := .ref _) (by rfl) g_BadProgram rfl) pa_nil))) (pa_cons (pe_callB call_isV (by rfl) T.isi (by decide +kernel) (pa_cons (pv 0) (pa_cons (pe_glob (v := .ref _) (by rfl) g_BadWeb rfl) pa_nil))) pa_nil))))))
      (pss_cons (ps_set (i := 1) sc_kinds.nd rfl (Or.inl rfl) (pe_op op_cat (pv 1) (pe_lst (pa_cons (pe_callB call_isV (by rfl) T.isi (by decide +kernel) (pa_cons (pv 0) (pa_cons (pe_glob (v := .ref _) (by rfl) g_CannotCome rfl) pa_nil))) (pa_cons (pe_callB call_isV (by rfl) T.isi (by decide +kernel) (pa_cons (pv 0) (pa_cons (pe_glob (v := .ref _) (by rfl) g_BadJournal rfl) pa_nil))) (pa_cons (pe_callB call_isV (by rfl) T.isi (by decide +kernel) (pa_cons (pv 0) (pa_cons (pe_glob (v := .ref _) (by rfl) g_BadWork rfl) pa_nil))) pa_nil))))))
      (pss_cons (ps_set (i := 1) sc_kinds.nd rfl (Or.inl rfl) (pe_op op_cat (pv 1) (pe_lst (pa_cons (pe_callB call_isV (by rfl) T.isi (by decide +kernel) (pa_cons (pv 0) (pa_cons (pe_glob (v := .ref _) (by rfl) g_BadDeeds rfl) pa_nil))) (pa_cons (pe_callB call_isV (by rfl) T.isi (by decide +kernel) (pa_cons (pv 0) (pa_cons (pe_glob (v := .ref _) (by rfl) g_BadLog rfl) pa_nil))) pa_nil)))))
      (pss_one (ps_ret (pv 1)))))))))))))))))), ?_⟩
    refine ⟨Nat.zero_le _, fun p0 n0 => ?_⟩
    have s0 : Same H (upd H p0 (.lst [])) := same_new n0
    have hL0 : (upd H p0 (.lst [])) p0 = some (.lst (([] : List Bool).map V.bl)) := upd_same
    generalize upd H p0 (.lst []) = H0 at s0 hL0 ⊢
    have hE1 := hE.same s0
    refine ⟨.ref p0, rfl, isE rfl hE1 e_BadNet <| isE rfl hE1 e_BadLabelling <| isE rfl hE1 e_BadNames <| catStep (xs := []) (ys := [(Value.ref C :: m).contains (.ref (He.ga K "BadNet")), (Value.ref C :: m).contains (.ref (He.ga K "BadLabelling")), (Value.ref C :: m).contains (.ref (He.ga K "BadNames"))]) s0 hL0 (by show 3 ≤ sizeLine; decide) (by show 3 ≤ sizeLine; decide) fun H1 p1 s1 n1 hL1 => ?_⟩
    clear hE1 s0 n0 hL0
    have hE1 := hE.same s1
    refine ⟨.ref p1, rfl, isE rfl hE1 e_BadOrder <| isE rfl hE1 e_BadState <| isE rfl hE1 e_BadMarks <| catStep (xs := [(Value.ref C :: m).contains (.ref (He.ga K "BadNet")), (Value.ref C :: m).contains (.ref (He.ga K "BadLabelling")), (Value.ref C :: m).contains (.ref (He.ga K "BadNames"))]) (ys := [(Value.ref C :: m).contains (.ref (He.ga K "BadOrder")), (Value.ref C :: m).contains (.ref (He.ga K "BadState")), (Value.ref C :: m).contains (.ref (He.ga K "BadMarks"))]) s1 hL1 (by show 3 ≤ sizeLine; decide) (by show 6 ≤ sizeLine; decide) fun H2 p2 s2 n2 hL2 => ?_⟩
    clear hE1 s1 n1 hL1
    have hE1 := hE.same s2
    refine ⟨.ref p2, rfl, isE rfl hE1 e_BadPiece <| isE rfl hE1 e_NotBending <| isE rfl hE1 e_BadWindow <| catStep (xs := [(Value.ref C :: m).contains (.ref (He.ga K "BadNet")), (Value.ref C :: m).contains (.ref (He.ga K "BadLabelling")), (Value.ref C :: m).contains (.ref (He.ga K "BadNames")), (Value.ref C :: m).contains (.ref (He.ga K "BadOrder")), (Value.ref C :: m).contains (.ref (He.ga K "BadState")), (Value.ref C :: m).contains (.ref (He.ga K "BadMarks"))]) (ys := [(Value.ref C :: m).contains (.ref (He.ga K "BadPiece")), (Value.ref C :: m).contains (.ref (He.ga K "NotBending")), (Value.ref C :: m).contains (.ref (He.ga K "BadWindow"))]) s2 hL2 (by show 3 ≤ sizeLine; decide) (by show 9 ≤ sizeLine; decide) fun H3 p3 s3 n3 hL3 => ?_⟩
    clear hE1 s2 n2 hL2
    have hE1 := hE.same s3
    refine ⟨.ref p3, rfl, isE rfl hE1 e_BadMap <| isE rfl hE1 e_BadKind <| isE rfl hE1 e_NoProgram <| catStep (xs := [(Value.ref C :: m).contains (.ref (He.ga K "BadNet")), (Value.ref C :: m).contains (.ref (He.ga K "BadLabelling")), (Value.ref C :: m).contains (.ref (He.ga K "BadNames")), (Value.ref C :: m).contains (.ref (He.ga K "BadOrder")), (Value.ref C :: m).contains (.ref (He.ga K "BadState")), (Value.ref C :: m).contains (.ref (He.ga K "BadMarks")), (Value.ref C :: m).contains (.ref (He.ga K "BadPiece")), (Value.ref C :: m).contains (.ref (He.ga K "NotBending")), (Value.ref C :: m).contains (.ref (He.ga K "BadWindow"))]) (ys := [(Value.ref C :: m).contains (.ref (He.ga K "BadMap")), (Value.ref C :: m).contains (.ref (He.ga K "BadKind")), (Value.ref C :: m).contains (.ref (He.ga K "NoProgram"))]) s3 hL3 (by show 3 ≤ sizeLine; decide) (by show 12 ≤ sizeLine; decide) fun H4 p4 s4 n4 hL4 => ?_⟩
    clear hE1 s3 n3 hL3
    have hE1 := hE.same s4
    refine ⟨.ref p4, rfl, isE rfl hE1 e_BadColouring <| isE rfl hE1 e_BadDraft <| catStep (xs := [(Value.ref C :: m).contains (.ref (He.ga K "BadNet")), (Value.ref C :: m).contains (.ref (He.ga K "BadLabelling")), (Value.ref C :: m).contains (.ref (He.ga K "BadNames")), (Value.ref C :: m).contains (.ref (He.ga K "BadOrder")), (Value.ref C :: m).contains (.ref (He.ga K "BadState")), (Value.ref C :: m).contains (.ref (He.ga K "BadMarks")), (Value.ref C :: m).contains (.ref (He.ga K "BadPiece")), (Value.ref C :: m).contains (.ref (He.ga K "NotBending")), (Value.ref C :: m).contains (.ref (He.ga K "BadWindow")), (Value.ref C :: m).contains (.ref (He.ga K "BadMap")), (Value.ref C :: m).contains (.ref (He.ga K "BadKind")), (Value.ref C :: m).contains (.ref (He.ga K "NoProgram"))]) (ys := [(Value.ref C :: m).contains (.ref (He.ga K "BadColouring")), (Value.ref C :: m).contains (.ref (He.ga K "BadDraft"))]) s4 hL4 (by show 2 ≤ sizeLine; decide) (by show 14 ≤ sizeLine; decide) fun H5 p5 s5 n5 hL5 => ?_⟩
    clear hE1 s4 n4 hL4
    have hE1 := hE.same s5
    refine ⟨.ref p5, rfl, isE rfl hE1 e_BadHouses <| isE rfl hE1 e_BadDeed <| isE rfl hE1 e_BadSession <| catStep (xs := [(Value.ref C :: m).contains (.ref (He.ga K "BadNet")), (Value.ref C :: m).contains (.ref (He.ga K "BadLabelling")), (Value.ref C :: m).contains (.ref (He.ga K "BadNames")), (Value.ref C :: m).contains (.ref (He.ga K "BadOrder")), (Value.ref C :: m).contains (.ref (He.ga K "BadState")), (Value.ref C :: m).contains (.ref (He.ga K "BadMarks")), (Value.ref C :: m).contains (.ref (He.ga K "BadPiece")), (Value.ref C :: m).contains (.ref (He.ga K "NotBending")), (Value.ref C :: m).contains (.ref (He.ga K "BadWindow")), (Value.ref C :: m).contains (.ref (He.ga K "BadMap")), (Value.ref C :: m).contains (.ref (He.ga K "BadKind")), (Value.ref C :: m).contains (.ref (He.ga K "NoProgram")), (Value.ref C :: m).contains (.ref (He.ga K "BadColouring")), (Value.ref C :: m).contains (.ref (He.ga K "BadDraft"))]) (ys := [(Value.ref C :: m).contains (.ref (He.ga K "BadHouses")), (Value.ref C :: m).contains (.ref (He.ga K "BadDeed")), (Value.ref C :: m).contains (.ref (He.ga K "BadSession"))]) s5 hL5 (by show 3 ≤ sizeLine; decide) (by show 17 ≤ sizeLine; decide) fun H6 p6 s6 n6 hL6 => ?_⟩
    clear hE1 s5 n5 hL5
    have hE1 := hE.same s6
    refine ⟨.ref p6, rfl, isE rfl hE1 e_BadPhrase <| isE rfl hE1 e_NotNow <| isE rfl hE1 e_BadFront <| catStep (xs := [(Value.ref C :: m).contains (.ref (He.ga K "BadNet")), (Value.ref C :: m).contains (.ref (He.ga K "BadLabelling")), (Value.ref C :: m).contains (.ref (He.ga K "BadNames")), (Value.ref C :: m).contains (.ref (He.ga K "BadOrder")), (Value.ref C :: m).contains (.ref (He.ga K "BadState")), (Value.ref C :: m).contains (.ref (He.ga K "BadMarks")), (Value.ref C :: m).contains (.ref (He.ga K "BadPiece")), (Value.ref C :: m).contains (.ref (He.ga K "NotBending")), (Value.ref C :: m).contains (.ref (He.ga K "BadWindow")), (Value.ref C :: m).contains (.ref (He.ga K "BadMap")), (Value.ref C :: m).contains (.ref (He.ga K "BadKind")), (Value.ref C :: m).contains (.ref (He.ga K "NoProgram")), (Value.ref C :: m).contains (.ref (He.ga K "BadColouring")), (Value.ref C :: m).contains (.ref (He.ga K "BadDraft")), (Value.ref C :: m).contains (.ref (He.ga K "BadHouses")), (Value.ref C :: m).contains (.ref (He.ga K "BadDeed")), (Value.ref C :: m).contains (.ref (He.ga K "BadSession"))]) (ys := [(Value.ref C :: m).contains (.ref (He.ga K "BadPhrase")), (Value.ref C :: m).contains (.ref (He.ga K "NotNow")), (Value.ref C :: m).contains (.ref (He.ga K "BadFront"))]) s6 hL6 (by show 3 ≤ sizeLine; decide) (by show 20 ≤ sizeLine; decide) fun H7 p7 s7 n7 hL7 => ?_⟩
    clear hE1 s6 n6 hL6
    have hE1 := hE.same s7
    refine ⟨.ref p7, rfl, isE rfl hE1 e_BadLetters <| isE rfl hE1 e_BadBytes <| isE rfl hE1 e_BadHouse <| catStep (xs := [(Value.ref C :: m).contains (.ref (He.ga K "BadNet")), (Value.ref C :: m).contains (.ref (He.ga K "BadLabelling")), (Value.ref C :: m).contains (.ref (He.ga K "BadNames")), (Value.ref C :: m).contains (.ref (He.ga K "BadOrder")), (Value.ref C :: m).contains (.ref (He.ga K "BadState")), (Value.ref C :: m).contains (.ref (He.ga K "BadMarks")), (Value.ref C :: m).contains (.ref (He.ga K "BadPiece")), (Value.ref C :: m).contains (.ref (He.ga K "NotBending")), (Value.ref C :: m).contains (.ref (He.ga K "BadWindow")), (Value.ref C :: m).contains (.ref (He.ga K "BadMap")), (Value.ref C :: m).contains (.ref (He.ga K "BadKind")), (Value.ref C :: m).contains (.ref (He.ga K "NoProgram")), (Value.ref C :: m).contains (.ref (He.ga K "BadColouring")), (Value.ref C :: m).contains (.ref (He.ga K "BadDraft")), (Value.ref C :: m).contains (.ref (He.ga K "BadHouses")), (Value.ref C :: m).contains (.ref (He.ga K "BadDeed")), (Value.ref C :: m).contains (.ref (He.ga K "BadSession")), (Value.ref C :: m).contains (.ref (He.ga K "BadPhrase")), (Value.ref C :: m).contains (.ref (He.ga K "NotNow")), (Value.ref C :: m).contains (.ref (He.ga K "BadFront"))]) (ys := [(Value.ref C :: m).contains (.ref (He.ga K "BadLetters")), (Value.ref C :: m).contains (.ref (He.ga K "BadBytes")), (Value.ref C :: m).contains (.ref (He.ga K "BadHouse"))]) s7 hL7 (by show 3 ≤ sizeLine; decide) (by show 23 ≤ sizeLine; decide) fun H8 p8 s8 n8 hL8 => ?_⟩
    clear hE1 s7 n7 hL7
    have hE1 := hE.same s8
    refine ⟨.ref p8, rfl, isE rfl hE1 e_BadSpans <| isE rfl hE1 e_BadTree <| isE rfl hE1 e_BadLabels <| catStep (xs := [(Value.ref C :: m).contains (.ref (He.ga K "BadNet")), (Value.ref C :: m).contains (.ref (He.ga K "BadLabelling")), (Value.ref C :: m).contains (.ref (He.ga K "BadNames")), (Value.ref C :: m).contains (.ref (He.ga K "BadOrder")), (Value.ref C :: m).contains (.ref (He.ga K "BadState")), (Value.ref C :: m).contains (.ref (He.ga K "BadMarks")), (Value.ref C :: m).contains (.ref (He.ga K "BadPiece")), (Value.ref C :: m).contains (.ref (He.ga K "NotBending")), (Value.ref C :: m).contains (.ref (He.ga K "BadWindow")), (Value.ref C :: m).contains (.ref (He.ga K "BadMap")), (Value.ref C :: m).contains (.ref (He.ga K "BadKind")), (Value.ref C :: m).contains (.ref (He.ga K "NoProgram")), (Value.ref C :: m).contains (.ref (He.ga K "BadColouring")), (Value.ref C :: m).contains (.ref (He.ga K "BadDraft")), (Value.ref C :: m).contains (.ref (He.ga K "BadHouses")), (Value.ref C :: m).contains (.ref (He.ga K "BadDeed")), (Value.ref C :: m).contains (.ref (He.ga K "BadSession")), (Value.ref C :: m).contains (.ref (He.ga K "BadPhrase")), (Value.ref C :: m).contains (.ref (He.ga K "NotNow")), (Value.ref C :: m).contains (.ref (He.ga K "BadFront")), (Value.ref C :: m).contains (.ref (He.ga K "BadLetters")), (Value.ref C :: m).contains (.ref (He.ga K "BadBytes")), (Value.ref C :: m).contains (.ref (He.ga K "BadHouse"))]) (ys := [(Value.ref C :: m).contains (.ref (He.ga K "BadSpans")), (Value.ref C :: m).contains (.ref (He.ga K "BadTree")), (Value.ref C :: m).contains (.ref (He.ga K "BadLabels"))]) s8 hL8 (by show 3 ≤ sizeLine; decide) (by show 26 ≤ sizeLine; decide) fun H9 p9 s9 n9 hL9 => ?_⟩
    clear hE1 s8 n8 hL8
    have hE1 := hE.same s9
    refine ⟨.ref p9, rfl, isE rfl hE1 e_BadNumber <| isE rfl hE1 e_BadProblem <| isE rfl hE1 e_BadTable <| catStep (xs := [(Value.ref C :: m).contains (.ref (He.ga K "BadNet")), (Value.ref C :: m).contains (.ref (He.ga K "BadLabelling")), (Value.ref C :: m).contains (.ref (He.ga K "BadNames")), (Value.ref C :: m).contains (.ref (He.ga K "BadOrder")), (Value.ref C :: m).contains (.ref (He.ga K "BadState")), (Value.ref C :: m).contains (.ref (He.ga K "BadMarks")), (Value.ref C :: m).contains (.ref (He.ga K "BadPiece")), (Value.ref C :: m).contains (.ref (He.ga K "NotBending")), (Value.ref C :: m).contains (.ref (He.ga K "BadWindow")), (Value.ref C :: m).contains (.ref (He.ga K "BadMap")), (Value.ref C :: m).contains (.ref (He.ga K "BadKind")), (Value.ref C :: m).contains (.ref (He.ga K "NoProgram")), (Value.ref C :: m).contains (.ref (He.ga K "BadColouring")), (Value.ref C :: m).contains (.ref (He.ga K "BadDraft")), (Value.ref C :: m).contains (.ref (He.ga K "BadHouses")), (Value.ref C :: m).contains (.ref (He.ga K "BadDeed")), (Value.ref C :: m).contains (.ref (He.ga K "BadSession")), (Value.ref C :: m).contains (.ref (He.ga K "BadPhrase")), (Value.ref C :: m).contains (.ref (He.ga K "NotNow")), (Value.ref C :: m).contains (.ref (He.ga K "BadFront")), (Value.ref C :: m).contains (.ref (He.ga K "BadLetters")), (Value.ref C :: m).contains (.ref (He.ga K "BadBytes")), (Value.ref C :: m).contains (.ref (He.ga K "BadHouse")), (Value.ref C :: m).contains (.ref (He.ga K "BadSpans")), (Value.ref C :: m).contains (.ref (He.ga K "BadTree")), (Value.ref C :: m).contains (.ref (He.ga K "BadLabels"))]) (ys := [(Value.ref C :: m).contains (.ref (He.ga K "BadNumber")), (Value.ref C :: m).contains (.ref (He.ga K "BadProblem")), (Value.ref C :: m).contains (.ref (He.ga K "BadTable"))]) s9 hL9 (by show 3 ≤ sizeLine; decide) (by show 29 ≤ sizeLine; decide) fun H10 p10 s10 n10 hL10 => ?_⟩
    clear hE1 s9 n9 hL9
    have hE1 := hE.same s10
    refine ⟨.ref p10, rfl, isE rfl hE1 e_TooMany <| isE rfl hE1 e_BadText <| isE rfl hE1 e_BadLead <| catStep (xs := [(Value.ref C :: m).contains (.ref (He.ga K "BadNet")), (Value.ref C :: m).contains (.ref (He.ga K "BadLabelling")), (Value.ref C :: m).contains (.ref (He.ga K "BadNames")), (Value.ref C :: m).contains (.ref (He.ga K "BadOrder")), (Value.ref C :: m).contains (.ref (He.ga K "BadState")), (Value.ref C :: m).contains (.ref (He.ga K "BadMarks")), (Value.ref C :: m).contains (.ref (He.ga K "BadPiece")), (Value.ref C :: m).contains (.ref (He.ga K "NotBending")), (Value.ref C :: m).contains (.ref (He.ga K "BadWindow")), (Value.ref C :: m).contains (.ref (He.ga K "BadMap")), (Value.ref C :: m).contains (.ref (He.ga K "BadKind")), (Value.ref C :: m).contains (.ref (He.ga K "NoProgram")), (Value.ref C :: m).contains (.ref (He.ga K "BadColouring")), (Value.ref C :: m).contains (.ref (He.ga K "BadDraft")), (Value.ref C :: m).contains (.ref (He.ga K "BadHouses")), (Value.ref C :: m).contains (.ref (He.ga K "BadDeed")), (Value.ref C :: m).contains (.ref (He.ga K "BadSession")), (Value.ref C :: m).contains (.ref (He.ga K "BadPhrase")), (Value.ref C :: m).contains (.ref (He.ga K "NotNow")), (Value.ref C :: m).contains (.ref (He.ga K "BadFront")), (Value.ref C :: m).contains (.ref (He.ga K "BadLetters")), (Value.ref C :: m).contains (.ref (He.ga K "BadBytes")), (Value.ref C :: m).contains (.ref (He.ga K "BadHouse")), (Value.ref C :: m).contains (.ref (He.ga K "BadSpans")), (Value.ref C :: m).contains (.ref (He.ga K "BadTree")), (Value.ref C :: m).contains (.ref (He.ga K "BadLabels")), (Value.ref C :: m).contains (.ref (He.ga K "BadNumber")), (Value.ref C :: m).contains (.ref (He.ga K "BadProblem")), (Value.ref C :: m).contains (.ref (He.ga K "BadTable"))]) (ys := [(Value.ref C :: m).contains (.ref (He.ga K "TooMany")), (Value.ref C :: m).contains (.ref (He.ga K "BadText")), (Value.ref C :: m).contains (.ref (He.ga K "BadLead"))]) s10 hL10 (by show 3 ≤ sizeLine; decide) (by show 32 ≤ sizeLine; decide) fun H11 p11 s11 n11 hL11 => ?_⟩
    clear hE1 s10 n10 hL10
    have hE1 := hE.same s11
    refine ⟨.ref p11, rfl, isE rfl hE1 e_BadSizes <| isE rfl hE1 e_BadProgram <| isE rfl hE1 e_BadWeb <| catStep (xs := [(Value.ref C :: m).contains (.ref (He.ga K "BadNet")), (Value.ref C :: m).contains (.ref (He.ga K "BadLabelling")), (Value.ref C :: m).contains (.ref (He.ga K "BadNames")), (Value.ref C :: m).contains (.ref (He.ga K "BadOrder")), (Value.ref C :: m).contains (.ref (He.ga K "BadState")), (Value.ref C :: m).contains (.ref (He.ga K "BadMarks")), (Value.ref C :: m).contains (.ref (He.ga K "BadPiece")), (Value.ref C :: m).contains (.ref (He.ga K "NotBending")), (Value.ref C :: m).contains (.ref (He.ga K "BadWindow")), (Value.ref C :: m).contains (.ref (He.ga K "BadMap")), (Value.ref C :: m).contains (.ref (He.ga K "BadKind")), (Value.ref C :: m).contains (.ref (He.ga K "NoProgram")), (Value.ref C :: m).contains (.ref (He.ga K "BadColouring")), (Value.ref C :: m).contains (.ref (He.ga K "BadDraft")), (Value.ref C :: m).contains (.ref (He.ga K "BadHouses")), (Value.ref C :: m).contains (.ref (He.ga K "BadDeed")), (Value.ref C :: m).contains (.ref (He.ga K "BadSession")), (Value.ref C :: m).contains (.ref (He.ga K "BadPhrase")), (Value.ref C :: m).contains (.ref (He.ga K "NotNow")), (Value.ref C :: m).contains (.ref (He.ga K "BadFront")), (Value.ref C :: m).contains (.ref (He.ga K "BadLetters")), (Value.ref C :: m).contains (.ref (He.ga K "BadBytes")), (Value.ref C :: m).contains (.ref (He.ga K "BadHouse")), (Value.ref C :: m).contains (.ref (He.ga K "BadSpans")), (Value.ref C :: m).contains (.ref (He.ga K "BadTree")), (Value.ref C :: m).contains (.ref (He.ga K "BadLabels")), (Value.ref C :: m).contains (.ref (He.ga K "BadNumber")), (Value.ref C :: m).contains (.ref (He.ga K "BadProblem")), (Value.ref C :: m).contains (.ref (He.ga K "BadTable")), (Value.ref C :: m).contains (.ref (He.ga K "TooMany")), (Value.ref C :: m).contains (.ref (He.ga K "BadText")), (Value.ref C :: m).contains (.ref (He.ga K "BadLead"))]) (ys := [(Value.ref C :: m).contains (.ref (He.ga K "BadSizes")), (Value.ref C :: m).contains (.ref (He.ga K "BadProgram")), (Value.ref C :: m).contains (.ref (He.ga K "BadWeb"))]) s11 hL11 (by show 3 ≤ sizeLine; decide) (by show 35 ≤ sizeLine; decide) fun H12 p12 s12 n12 hL12 => ?_⟩
    clear hE1 s11 n11 hL11
    have hE1 := hE.same s12
    refine ⟨.ref p12, rfl, isE rfl hE1 e_CannotCome <| isE rfl hE1 e_BadJournal <| isE rfl hE1 e_BadWork <| catStep (xs := [(Value.ref C :: m).contains (.ref (He.ga K "BadNet")), (Value.ref C :: m).contains (.ref (He.ga K "BadLabelling")), (Value.ref C :: m).contains (.ref (He.ga K "BadNames")), (Value.ref C :: m).contains (.ref (He.ga K "BadOrder")), (Value.ref C :: m).contains (.ref (He.ga K "BadState")), (Value.ref C :: m).contains (.ref (He.ga K "BadMarks")), (Value.ref C :: m).contains (.ref (He.ga K "BadPiece")), (Value.ref C :: m).contains (.ref (He.ga K "NotBending")), (Value.ref C :: m).contains (.ref (He.ga K "BadWindow")), (Value.ref C :: m).contains (.ref (He.ga K "BadMap")), (Value.ref C :: m).contains (.ref (He.ga K "BadKind")), (Value.ref C :: m).contains (.ref (He.ga K "NoProgram")), (Value.ref C :: m).contains (.ref (He.ga K "BadColouring")), (Value.ref C :: m).contains (.ref (He.ga K "BadDraft")), (Value.ref C :: m).contains (.ref (He.ga K "BadHouses")), (Value.ref C :: m).contains (.ref (He.ga K "BadDeed")), (Value.ref C :: m).contains (.ref (He.ga K "BadSession")), (Value.ref C :: m).contains (.ref (He.ga K "BadPhrase")), (Value.ref C :: m).contains (.ref (He.ga K "NotNow")), (Value.ref C :: m).contains (.ref (He.ga K "BadFront")), (Value.ref C :: m).contains (.ref (He.ga K "BadLetters")), (Value.ref C :: m).contains (.ref (He.ga K "BadBytes")), (Value.ref C :: m).contains (.ref (He.ga K "BadHouse")), (Value.ref C :: m).contains (.ref (He.ga K "BadSpans")), (Value.ref C :: m).contains (.ref (He.ga K "BadTree")), (Value.ref C :: m).contains (.ref (He.ga K "BadLabels")), (Value.ref C :: m).contains (.ref (He.ga K "BadNumber")), (Value.ref C :: m).contains (.ref (He.ga K "BadProblem")), (Value.ref C :: m).contains (.ref (He.ga K "BadTable")), (Value.ref C :: m).contains (.ref (He.ga K "TooMany")), (Value.ref C :: m).contains (.ref (He.ga K "BadText")), (Value.ref C :: m).contains (.ref (He.ga K "BadLead")), (Value.ref C :: m).contains (.ref (He.ga K "BadSizes")), (Value.ref C :: m).contains (.ref (He.ga K "BadProgram")), (Value.ref C :: m).contains (.ref (He.ga K "BadWeb"))]) (ys := [(Value.ref C :: m).contains (.ref (He.ga K "CannotCome")), (Value.ref C :: m).contains (.ref (He.ga K "BadJournal")), (Value.ref C :: m).contains (.ref (He.ga K "BadWork"))]) s12 hL12 (by show 3 ≤ sizeLine; decide) (by show 38 ≤ sizeLine; decide) fun H13 p13 s13 n13 hL13 => ?_⟩
    clear hE1 s12 n12 hL12
    have hE1 := hE.same s13
    refine ⟨.ref p13, rfl, isE rfl hE1 e_BadDeeds <| isE rfl hE1 e_BadLog <| catStep (xs := [(Value.ref C :: m).contains (.ref (He.ga K "BadNet")), (Value.ref C :: m).contains (.ref (He.ga K "BadLabelling")), (Value.ref C :: m).contains (.ref (He.ga K "BadNames")), (Value.ref C :: m).contains (.ref (He.ga K "BadOrder")), (Value.ref C :: m).contains (.ref (He.ga K "BadState")), (Value.ref C :: m).contains (.ref (He.ga K "BadMarks")), (Value.ref C :: m).contains (.ref (He.ga K "BadPiece")), (Value.ref C :: m).contains (.ref (He.ga K "NotBending")), (Value.ref C :: m).contains (.ref (He.ga K "BadWindow")), (Value.ref C :: m).contains (.ref (He.ga K "BadMap")), (Value.ref C :: m).contains (.ref (He.ga K "BadKind")), (Value.ref C :: m).contains (.ref (He.ga K "NoProgram")), (Value.ref C :: m).contains (.ref (He.ga K "BadColouring")), (Value.ref C :: m).contains (.ref (He.ga K "BadDraft")), (Value.ref C :: m).contains (.ref (He.ga K "BadHouses")), (Value.ref C :: m).contains (.ref (He.ga K "BadDeed")), (Value.ref C :: m).contains (.ref (He.ga K "BadSession")), (Value.ref C :: m).contains (.ref (He.ga K "BadPhrase")), (Value.ref C :: m).contains (.ref (He.ga K "NotNow")), (Value.ref C :: m).contains (.ref (He.ga K "BadFront")), (Value.ref C :: m).contains (.ref (He.ga K "BadLetters")), (Value.ref C :: m).contains (.ref (He.ga K "BadBytes")), (Value.ref C :: m).contains (.ref (He.ga K "BadHouse")), (Value.ref C :: m).contains (.ref (He.ga K "BadSpans")), (Value.ref C :: m).contains (.ref (He.ga K "BadTree")), (Value.ref C :: m).contains (.ref (He.ga K "BadLabels")), (Value.ref C :: m).contains (.ref (He.ga K "BadNumber")), (Value.ref C :: m).contains (.ref (He.ga K "BadProblem")), (Value.ref C :: m).contains (.ref (He.ga K "BadTable")), (Value.ref C :: m).contains (.ref (He.ga K "TooMany")), (Value.ref C :: m).contains (.ref (He.ga K "BadText")), (Value.ref C :: m).contains (.ref (He.ga K "BadLead")), (Value.ref C :: m).contains (.ref (He.ga K "BadSizes")), (Value.ref C :: m).contains (.ref (He.ga K "BadProgram")), (Value.ref C :: m).contains (.ref (He.ga K "BadWeb")), (Value.ref C :: m).contains (.ref (He.ga K "CannotCome")), (Value.ref C :: m).contains (.ref (He.ga K "BadJournal")), (Value.ref C :: m).contains (.ref (He.ga K "BadWork"))]) (ys := [(Value.ref C :: m).contains (.ref (He.ga K "BadDeeds")), (Value.ref C :: m).contains (.ref (He.ga K "BadLog"))]) s13 hL13 (by show 2 ≤ sizeLine; decide) (by show 40 ≤ sizeLine; decide) fun H14 p14 s14 n14 hL14 => ?_⟩
    clear hE1 s13 n13 hL13
    exact ⟨.ref p14, rfl, q _ p14 s14 n14 hL14⟩
end
end K00

set_option maxHeartbeats 16000000
namespace L2
open PySem PySem.Spec PyProof.Rows
/-- a reading that is not opened by itself -/
inductive Bx (t : TE) (σ : L2.St) (H : Hp) (Q : VK) : Prop where
  | mk (h : t σ H Q)
theorem PE.bx {X : Cx} {e : Expr} {t : TE} (h : PE X e t) : PE X e (Bx t) := ⟨fun pins s σ H Q I ⟨q⟩ => h.run pins s σ H Q I q⟩
end L2
namespace K00
open PySem PySem.Spec PyProof.Rows L2
/-- the errors of the classes xs, one behind the other -/
def Errs (K : PySem.W.Frag) (H : Hp) : List V → List Str → Prop
  | [], [] => True
  | v :: vs, x :: xs => (∃ a, v = .ref a ∧ ErrAt K H a (He.ga K x) (mR K)) ∧ Errs K H vs xs
  | _, _ => False
theorem Errs.same {K : PySem.W.Frag} {H H' : Hp} (s : Same H H') : ∀ {vs : List V} {xs : List Str}, Errs K H vs xs → Errs K H' vs xs
  | [], [], _ => trivial
  | v :: vs, x :: xs, ⟨⟨a, e, h⟩, t⟩ => ⟨⟨a, e, h.same s⟩, Errs.same s t⟩
theorem Errs.append {K : PySem.W.Frag} {H : Hp} : ∀ {vs us : List V} {xs ys : List Str}, Errs K H vs xs → Errs K H us ys → Errs K H (vs ++ us) (xs ++ ys)
  | [], _, [], _, _, h => h
  | v :: vs, _, x :: xs, _, ⟨a, t⟩, h => ⟨a, Errs.append t h⟩
theorem catV {H0 H : Hp} {p : Addr} {xs ys : List V} {Q : VK} (s : Same H0 H) (hL : H p = some (.lst xs)) (hz : ys.length ≤ sizeLine) (hz2 : xs.length + ys.length ≤ sizeLine)
    (k : ∀ H' q, Same H H' → H' q = some (.lst (xs ++ ys)) → Q (.ref q) H') : ys.length ≤ sizeLine ∧ ∀ p1, H p1 = none → rCat (.ref p) (.ref p1) (upd H p1 (.lst ys)) Q :=
  ⟨hz, fun p1 n1 => ⟨p, p1, _, _, rfl, rfl, (upd_ne (ne_of_none hL n1)).trans hL, upd_same, hz2, fun p2 n2 => k _ p2 ((same_new n1).trans (same_new n2)) upd_same⟩⟩
/-- C(words), C's __init__ that of RoundError -/
theorem mkP {K : PySem.W.Frag} {σ : L2.St} {H : Hp} {Q : VK} {v : V} {C : Addr} {m : List Value} (h0 : σ[0]? = some (some v)) (c : He.ErrC K m C) (k : ∀ H' a, Same H H' → ErrAt K H' a C m → Q (.ref a) H') :
    Bx (tMkE C (spRound K) (fun vs _ => vs ++ []) (tCons (tVar 0) tNil) tNil) σ H Q := .mk
  ⟨v, h0, by show 1 ≤ 1000; decide, fun a na => ⟨a, C, v, rfl, c.ox, upd_same, rfl, k _ a (same_new na) ⟨⟨none, upd_same, fun dd z => by cases z⟩, c⟩⟩⟩
theorem made_same {H : Hp} {a dx C : Addr} {fs : List (Str × V)} (na : H a = none) (nd : (upd H a (exo a C none)) dx = none) : Same H (upd (upd (upd H a (exo a C none)) dx (exd dx fs)) a (exo a C (some dx))) := fun b o e => by
  have h1 : b ≠ a := ne_of_none e na
  have h2 : b ≠ dx := fun z => by
    subst z
    rw [upd_ne h1, e] at nd
    cases nd
  rw [upd_ne h1, upd_ne h2, upd_ne h1]
  exact e
/-- an error of C with the field n, whose value is v -/
structure FldAt (K : PySem.W.Frag) (H : Hp) (a C : Addr) (n : Str) (v : V) : Prop where
  ob : ∃ dx, H a = some (exo a C (some dx)) ∧ H dx = some (exd dx [(n, v)])
  ec : He.ErrC K (mR K) C
  no : PySem.W.findIn K (.ref C) n = some none
theorem FldAt.err {K : PySem.W.Frag} {H : Hp} {a C : Addr} {n : Str} {v : V} (h : FldAt K H a C n v) : ErrAt K H a C (mR K) :=
  let ⟨⟨dx, e, f⟩, c, _⟩ := h
  ⟨⟨some dx, e, fun dd z => by cases z; exact ⟨_, f⟩⟩, c⟩
theorem mkInit {K : PySem.W.Frag} {H : Hp} {Q : VK} {v : V} {d : PyData} {C : Addr} {n : Str} (c : He.ErrC K (mR K) C) (no : PySem.W.findIn K (.ref C) n = some none) (hd : Dq K H v d) (hs : Short d)
    (k : ∀ H' a, Same H H' → FldAt K H' a C n v → Q (.ref a) H') (a : Addr) (na : H a = none) :
    spField K C n [.ref a, v] (upd H a (exo a C none)) (fun u H3 => u = .non ∧ Q (.ref a) H3) (fun _ _ _ => False) :=
  ⟨a, v, d, rfl, upd_same, hd.same (same_new na), hs, fun dx nd nda => ⟨rfl, k _ a (made_same na nd) ⟨⟨dx, upd_same, (upd_ne nda).trans upd_same⟩, c, no⟩⟩⟩
theorem mkF {K : PySem.W.Frag} {σ : L2.St} {H : Hp} {Q : VK} {v : V} {d : PyData} {C : Addr} {n : Str} (h0 : σ[0]? = some (some v)) (c : He.ErrC K (mR K) C) (no : PySem.W.findIn K (.ref C) n = some none) (hd : Dq K H v d) (hs : Short d)
    (k : ∀ H' a, Same H H' → FldAt K H' a C n v → Q (.ref a) H') : Bx (tMkE C (spField K C n) (fun vs _ => vs ++ []) (tCons (tVar 0) tNil) tNil) σ H Q := .mk
  ⟨v, h0, by show 1 ≤ 1000; decide, fun a na => mkInit c no hd hs k a na⟩
theorem rdF {K : PySem.W.Frag} {σ : L2.St} {H : Hp} {Q : VK} {v : V} {d : PyData} {C : Addr} {n : Str} (h0 : σ[0]? = some (some v)) (c : He.ErrC K (mR K) C) (no : PySem.W.findIn K (.ref C) n = some none) (hd : Dq K H v d) (hs : Short d)
    (k : ∀ H', Same H H' → Q v H') : Bx (tExf K n (Bx (tMkE C (spField K C n) (fun vs _ => vs ++ []) (tCons (tVar 0) tNil) tNil))) σ H Q := .mk <|
  mkF h0 c no hd hs fun H' a s ⟨⟨dx, e, f⟩, _, _⟩ => ⟨a, C, dx, _, v, rfl, c.ec, no, e, f, by simp [List.lookup], k H' s⟩
theorem rdK {K : PySem.W.Frag} {σ : L2.St} {H : Hp} {Q : VK} {v : V} {d : PyData} {C : Addr} {n : Str} (h0 : σ[0]? = some (some v)) (c : He.ErrC K (mR K) C) (no : PySem.W.findIn K (.ref C) n = some none) (hd : Dq K H v d) (hs : Short d)
    (k : ∀ H', Same H H' → Q v H') : Bx (tExf K n (fun σ H Q => tCons (tVar 0) tNil σ H fun zs H2 => zs.length = [n].length ∧ ∀ a, H2 a = none → spField K C n ((fun vs zs : List V => vs ++ zs) [.ref a] zs) (upd H2 a (exo a C none)) (fun v H3 => v = .non ∧ Q (.ref a) H3) (fun _ _ _ => False))) σ H Q := .mk
  ⟨v, h0, rfl, fun a na => mkInit (Q := fun x H1 => ∃ (a C d : Addr) (fs : List (Str × V)) (v : V), x = .ref a ∧ ExcC K C ∧ PySem.W.findIn K (.ref C) n = some none ∧ H1 a = some (exo a C (some d)) ∧ H1 d = some (exd d fs) ∧ fs.lookup n = some v ∧ Q v H1)
    c no hd hs (fun H' a s ⟨⟨dx, e, f⟩, _, _⟩ => ⟨a, C, dx, _, v, rfl, c.ec, no, e, f, by simp [List.lookup], k H' s⟩) a na⟩
theorem kbF {K : PySem.W.Frag} {x qual : Str} {params : Arguments} {body : List Stmt} {scope : Scope} {kws : List (Str × V)} {f : Addr} {fd : FuncData} {s n : Str} (F : FunD K x qual params body scope [] kws f fd)
    (h : ∀ (kV doc pm : Value) (an : Option Addr) (cdv ct : Value) (u v : Value), bindArgs (PySem.W.fnOf x qual params body scope .none kV doc pm an cdv ct) ⟨[u], [(n, v)]⟩ = pure [(s, u), (n, v)]) : KBn K fd [s, n] 1 [n] (fun us ws => us ++ ws) (fun vs zs => vs ++ zs) := by
  obtain ⟨oc, od, dV, kV, doc, pm, an, cdv, ct, osl, rfl, lk, hcd, hD, hK⟩ := F.ex
  rcases hD with ⟨_, rfl⟩ | ⟨e, _⟩
  · refine ⟨fun s us ws X l1 l2 => ?_, fun r1 r2 => r1.append r2⟩
    match us, ws, l1, l2 with
    | [u], [v], _, _ => exact .of_eq (h kV doc pm an cdv ct u v)
  · exact absurd rfl e
theorem kbS {K : PySem.W.Frag} {file x qual : Str} {params : Arguments} {body : List Stmt} {scope : Scope} {D f cc cda : Addr} {fd : FuncData} {s n : Str} (Z : SupF K file x qual params body scope D f cc cda fd)
    (h : ∀ (doc pm : Value) (an : Option Addr) (ct : Value) (u v : Value), bindArgs (PySem.W.ksFn x qual params body scope .none .none doc pm an (.ref cda) ct cc) ⟨[u], [(n, v)]⟩ = pure [(s, u), (n, v)]) : KBn K fd [s, n] 1 [n] (fun us ws => us ++ ws) (fun vs zs => vs ++ zs) := by
  obtain ⟨oc, od, doc, pm, an, ct, osl, rfl, lf⟩ := Z.ex
  refine ⟨fun s us ws X l1 l2 => ?_, fun r1 r2 => r1.append r2⟩
  match us, ws, l1, l2 with
  | [u], [v], _, _ => exact .of_eq (h doc pm an ct u v)
structure Clss2 (P : Program) (w : World) (K : PySem.W.Frag) (mg : Str → Option Value) (base : Heap) (k : Nat) : Prop where
  c : Clss K mg
  fR : ∃ fd, FnOk P w K mg base CX0 k (He.ma K (He.ga K "RoundError") "__init__") fd ["self", "message"] (spRound K) ∧ Binds K fd ["self", "message"] [] ∧ PySem.W.typeIn K (.ref (He.ma K (He.ga K "RoundError") "__init__")) = some (.type "function")
  iP : ∀ x ∈ ordP, PySem.W.findIn K (.ref (He.ga K x)) "__init__" = some (some (.ref (He.ma K (He.ga K "RoundError") "__init__")))
def spPlain (K : PySem.W.Frag) : Sp := fun vs H Q _ => ∃ (v : V), vs = [v] ∧ ∀ H' p us, Same H H' → H' p = some (.lst us) → Errs K H' us ordP → Q (.ref p) H'
section
variable {P : Program} {w : World} {K : PySem.W.Frag} {mg : Str → Option Value} {base : Heap}
abbrev N_plain : List Str := ["words_here", "found"]
theorem sc_plain : FnScope N_plain ["words_here"] (defScope s_law_plain_errors) := ⟨rfl, rfl, rfl, by decide +kernel, rfl, by decide +kernel, by decide +kernel⟩
theorem ok_plain {f : Addr} {fd : FuncData} {k : Nat} (F : FnP K "_law_plain_errors" s_law_plain_errors f fd) (Y : Clss2 P w K mg base k) : FnOk P w K mg base CX0 (k + 2) f fd ["words_here"] (spPlain K) := by
  refine F.ok sc_plain (fun vs H Q E h => ?_) (fun cdv A outer s H vs Q E hr h => ?_)
  · obtain ⟨v, rfl, _⟩ := h
    rfl
  · obtain ⟨v, rfl, q⟩ := h
    obtain ⟨fdR, GR, bR, tR⟩ := Y.fR
    obtain ⟨g_BadNet, e_BadNet⟩ := Y.c.at_ "BadNet" (by decide +kernel)
    have i_BadNet := Y.iP "BadNet" (by decide +kernel)
    obtain ⟨g_BadLabelling, e_BadLabelling⟩ := Y.c.at_ "BadLabelling" (by decide +kernel)
    have i_BadLabelling := Y.iP "BadLabelling" (by decide +kernel)
    obtain ⟨g_BadNames, e_BadNames⟩ := Y.c.at_ "BadNames" (by decide +kernel)
    have i_BadNames := Y.iP "BadNames" (by decide +kernel)
    obtain ⟨g_BadOrder, e_BadOrder⟩ := Y.c.at_ "BadOrder" (by decide +kernel)
    have i_BadOrder := Y.iP "BadOrder" (by decide +kernel)
    obtain ⟨g_BadState, e_BadState⟩ := Y.c.at_ "BadState" (by decide +kernel)
    have i_BadState := Y.iP "BadState" (by decide +kernel)
    obtain ⟨g_BadMarks, e_BadMarks⟩ := Y.c.at_ "BadMarks" (by decide +kernel)
    have i_BadMarks := Y.iP "BadMarks" (by decide +kernel)
    obtain ⟨g_BadPiece, e_BadPiece⟩ := Y.c.at_ "BadPiece" (by decide +kernel)
    have i_BadPiece := Y.iP "BadPiece" (by decide +kernel)
    obtain ⟨g_NotBending, e_NotBending⟩ := Y.c.at_ "NotBending" (by decide +kernel)
    have i_NotBending := Y.iP "NotBending" (by decide +kernel)
    obtain ⟨g_BadWindow, e_BadWindow⟩ := Y.c.at_ "BadWindow" (by decide +kernel)
    have i_BadWindow := Y.iP "BadWindow" (by decide +kernel)
    obtain ⟨g_BadMap, e_BadMap⟩ := Y.c.at_ "BadMap" (by decide +kernel)
    have i_BadMap := Y.iP "BadMap" (by decide +kernel)
    obtain ⟨g_BadKind, e_BadKind⟩ := Y.c.at_ "BadKind" (by decide +kernel)
    have i_BadKind := Y.iP "BadKind" (by decide +kernel)
    obtain ⟨g_NoProgram, e_NoProgram⟩ := Y.c.at_ "NoProgram" (by decide +kernel)
    have i_NoProgram := Y.iP "NoProgram" (by decide +kernel)
    obtain ⟨g_BadColouring, e_BadColouring⟩ := Y.c.at_ "BadColouring" (by decide +kernel)
    have i_BadColouring := Y.iP "BadColouring" (by decide +kernel)
    obtain ⟨g_BadDraft, e_BadDraft⟩ := Y.c.at_ "BadDraft" (by decide +kernel)
    have i_BadDraft := Y.iP "BadDraft" (by decide +kernel)
    obtain ⟨g_BadHouses, e_BadHouses⟩ := Y.c.at_ "BadHouses" (by decide +kernel)
    have i_BadHouses := Y.iP "BadHouses" (by decide +kernel)
    obtain ⟨g_BadDeed, e_BadDeed⟩ := Y.c.at_ "BadDeed" (by decide +kernel)
    have i_BadDeed := Y.iP "BadDeed" (by decide +kernel)
    obtain ⟨g_BadSession, e_BadSession⟩ := Y.c.at_ "BadSession" (by decide +kernel)
    have i_BadSession := Y.iP "BadSession" (by decide +kernel)
    obtain ⟨g_BadPhrase, e_BadPhrase⟩ := Y.c.at_ "BadPhrase" (by decide +kernel)
    have i_BadPhrase := Y.iP "BadPhrase" (by decide +kernel)
    obtain ⟨g_NotNow, e_NotNow⟩ := Y.c.at_ "NotNow" (by decide +kernel)
    have i_NotNow := Y.iP "NotNow" (by decide +kernel)
    obtain ⟨g_BadFront, e_BadFront⟩ := Y.c.at_ "BadFront" (by decide +kernel)
    have i_BadFront := Y.iP "BadFront" (by decide +kernel)
    obtain ⟨g_BadLetters, e_BadLetters⟩ := Y.c.at_ "BadLetters" (by decide +kernel)
    have i_BadLetters := Y.iP "BadLetters" (by decide +kernel)
    obtain ⟨g_BadBytes, e_BadBytes⟩ := Y.c.at_ "BadBytes" (by decide +kernel)
    have i_BadBytes := Y.iP "BadBytes" (by decide +kernel)
    obtain ⟨g_BadHouse, e_BadHouse⟩ := Y.c.at_ "BadHouse" (by decide +kernel)
    have i_BadHouse := Y.iP "BadHouse" (by decide +kernel)
    obtain ⟨g_BadSpans, e_BadSpans⟩ := Y.c.at_ "BadSpans" (by decide +kernel)
    have i_BadSpans := Y.iP "BadSpans" (by decide +kernel)
    obtain ⟨g_BadTree, e_BadTree⟩ := Y.c.at_ "BadTree" (by decide +kernel)
    have i_BadTree := Y.iP "BadTree" (by decide +kernel)
    obtain ⟨g_BadLabels, e_BadLabels⟩ := Y.c.at_ "BadLabels" (by decide +kernel)
    have i_BadLabels := Y.iP "BadLabels" (by decide +kernel)
    refine ⟨_, PSs.nox <| (pss_cons (ps_set (i := 1) sc_plain.nd rfl (Or.inl rfl) (pe_lst pa_nil))
      (pss_cons (ps_set (i := 1) sc_plain.nd rfl (Or.inl rfl) (pe_op op_cat (pv 1) (pe_lst (pa_cons (PE.bx (pe_mkE e_BadNet.ox i_BadNet tR GR hr bR .nil pass0 (by rfl) g_BadNet (pa_cons (pv 0) pa_nil))) (pa_cons (PE.bx (pe_mkE e_BadLabelling.ox i_BadLabelling tR GR hr bR .nil pass0 (by rfl) g_BadLabelling (pa_cons (pv 0) pa_nil))) (pa_cons (PE.bx (pe_mkE e_BadNames.ox i_BadNames tR GR hr bR .nil pass0 (by rfl) g_BadNames (pa_cons (pv 0) pa_nil))) (pa_cons (PE.bx (pe_mkE e_BadOrder.ox i_BadOrder tR GR hr bR .nil pass0 (by rfl) g_BadOrder (pa_cons (pv 0) pa_nil))) pa_nil)))))))
      (pss_cons (ps_set (i := 1) sc_plain.nd rfl (Or.inl rfl) (pe_op op_cat (pv 1) (pe_lst (pa_cons (PE.bx (pe_mkE e_BadState.ox i_BadState tR GR hr bR .nil pass0 (by rfl) g_BadState (pa_cons (pv 0) pa_nil))) (pa_cons (PE.bx (pe_mkE e_BadMarks.ox i_BadMarks tR GR hr bR .nil pass0 (by rfl) g_BadMarks (pa_cons (pv 0) pa_nil))) (pa_cons (PE.bx (pe_mkE e_BadPiece.ox i_BadPiece tR GR hr bR .nil pass0 (by rfl) g_BadPiece (pa_cons (pv 0) pa_nil))) (pa_cons (PE.bx (pe_mkE e_NotBending.ox i_NotBending tR GR hr bR .nil pass0 (by rfl) g_NotBending (pa_cons (pv 0) pa_nil))) pa_nil)))))))
      (pss_cons (ps_set (i := 1) sc_plain.nd rfl (Or.inl rfl) (pe_op op_cat (pv 1) (pe_lst (pa_cons (PE.bx (pe_mkE e_BadWindow.ox i_BadWindow tR GR hr bR .nil pass0 (by rfl) g_BadWindow (pa_cons (pv 0) pa_nil))) (pa_cons (PE.bx (pe_mkE e_BadMap.ox i_BadMap tR GR hr bR .nil pass0 (by rfl) g_BadMap (pa_cons (pv 0) pa_nil))) (pa_cons (PE.bx (pe_mkE e_BadKind.ox i_BadKind tR GR hr bR .nil pass0 (by rfl) g_BadKind (pa_cons (pv 0) pa_nil))) (pa_cons (PE.bx (pe_mkE e_NoProgram.ox i_NoProgram tR GR hr bR .nil pass0 (by rfl) g_NoProgram (pa_cons (pv 0) pa_nil))) pa_nil)))))))
      (pss_cons (ps_set (i := 1) sc_plain.nd rfl (Or.inl rfl) (pe_op op_cat (pv 1) (pe_lst (pa_cons (PE.bx (pe_mkE e_BadColouring.ox i_BadColouring tR GR hr bR .nil pass0 (by rfl) g_BadColouring (pa_cons (pv 0) pa_nil))) (pa_cons (PE.bx (pe_mkE e_BadDraft.ox i_BadDraft tR GR hr bR .nil pass0 (by rfl) g_BadDraft (pa_cons (pv 0) pa_nil))) (pa_cons (PE.bx (pe_mkE e_BadHouses.ox i_BadHouses tR GR hr bR .nil pass0 (by rfl) g_BadHouses (pa_cons (pv 0) pa_nil))) pa_nil))))))
      (pss_cons (ps_set (i := 1) sc_plain.nd rfl (Or.inl rfl) (pe_op op_cat (pv 1) (pe_lst (pa_cons (PE.bx (pe_mkE e_BadDeed.ox i_BadDeed tR GR hr bR .nil pass0 (by rfl) g_BadDeed (pa_cons (pv 0) pa_nil))) (pa_cons (PE.bx (pe_mkE e_BadSession.ox i_BadSession tR GR hr bR .nil pass0 (by rfl) g_BadSession (pa_cons (pv 0) pa_nil))) (pa_cons (PE.bx (pe_mkE e_BadPhrase.ox i_BadPhrase tR GR hr bR .nil pass0 (by rfl) g_BadPhrase (pa_cons (pv 0) pa_nil))) (pa_cons (PE.bx (pe_mkE e_NotNow.ox i_NotNow tR GR hr bR .nil pass0 (by rfl) g_NotNow (pa_cons (pv 0) pa_nil))) pa_nil)))))))
      (pss_cons (ps_set (i := 1) sc_plain.nd rfl (Or.inl rfl) (pe_op op_cat (pv 1) (pe_lst (pa_cons (PE.bx (pe_mkE e_BadFront.ox i_BadFront tR GR hr bR .nil pass0 (by rfl) g_BadFront (pa_cons (pv 0) pa_nil))) (pa_cons (PE.bx (pe_mkE e_BadLetters.ox i_BadLetters tR GR hr bR .nil pass0 (by rfl) g_BadLetters (pa_cons (pv 0) pa_nil))) (pa_cons (PE.bx (pe_mkE e_BadBytes.ox i_BadBytes tR GR hr bR .nil pass0 (by rfl) g_BadBytes (pa_cons (pv 0) pa_nil))) (pa_cons (PE.bx (pe_mkE e_BadHouse.ox i_BadHouse tR GR hr bR .nil pass0 (by rfl) g_BadHouse (pa_cons (pv 0) pa_nil))) pa_nil)))))))
      (pss_cons (ps_set (i := 1) sc_plain.nd rfl (Or.inl rfl) (pe_op op_cat (pv 1) (pe_lst (pa_cons (PE.bx (pe_mkE e_BadSpans.ox i_BadSpans tR GR hr bR .nil pass0 (by rfl) g_BadSpans (pa_cons (pv 0) pa_nil))) (pa_cons (PE.bx (pe_mkE e_BadTree.ox i_BadTree tR GR hr bR .nil pass0 (by rfl) g_BadTree (pa_cons (pv 0) pa_nil))) (pa_cons (PE.bx (pe_mkE e_BadLabels.ox i_BadLabels tR GR hr bR .nil pass0 (by rfl) g_BadLabels (pa_cons (pv 0) pa_nil))) pa_nil))))))
      (pss_one (ps_ret (pv 1))))))))))), ?_⟩
    refine ⟨Nat.zero_le _, fun p0 n0 => ?_⟩
    have s0 : Same H (upd H p0 (.lst [])) := same_new n0
    have hL0 : (upd H p0 (.lst [])) p0 = some (.lst []) := upd_same
    have E0 : Errs K (upd H p0 (.lst [])) [] [] := trivial
    generalize upd H p0 (.lst []) = H0 at s0 hL0 E0 ⊢
    refine ⟨.ref p0, rfl, mkP rfl e_BadNet fun ha1 a1 sa1 Ea1 => mkP rfl e_BadLabelling fun hb1 b1 sb1 Eb1 => mkP rfl e_BadNames fun hc1 c1 sc1 Ec1 => mkP rfl e_BadOrder fun hd1 d1 sd1 Ed1 => catV (xs := []) (ys := [.ref a1, .ref b1, .ref c1, .ref d1]) (Same.refl _) ((((sa1.trans sb1).trans sc1).trans sd1) _ _ hL0) (by show 4 ≤ sizeLine; decide) (by show 4 ≤ sizeLine; decide) fun H1 p1 t1 hL1 => ?_⟩
    have E1 : Errs K H1 [.ref a1, .ref b1, .ref c1, .ref d1] ["BadNet", "BadLabelling", "BadNames", "BadOrder"] := Errs.append (xs := []) (ys := ["BadNet", "BadLabelling", "BadNames", "BadOrder"]) (E0.same ((((sa1.trans sb1).trans sc1).trans sd1).trans t1)) (Errs.same t1 (show Errs K hd1 [.ref a1, .ref b1, .ref c1, .ref d1] ["BadNet", "BadLabelling", "BadNames", "BadOrder"] from ⟨⟨_, rfl, (Ea1.same ((sb1.trans sc1).trans sd1))⟩, ⟨⟨_, rfl, (Eb1.same (sc1.trans sd1))⟩, ⟨⟨_, rfl, (Ec1.same sd1)⟩, ⟨⟨_, rfl, Ed1⟩, trivial⟩⟩⟩⟩))
    have s1 := s0.trans ((((sa1.trans sb1).trans sc1).trans sd1).trans t1)
    clear s0 hL0 E0 t1 sa1 Ea1 sb1 Eb1 sc1 Ec1 sd1 Ed1
    refine ⟨.ref p1, rfl, mkP rfl e_BadState fun ha2 a2 sa2 Ea2 => mkP rfl e_BadMarks fun hb2 b2 sb2 Eb2 => mkP rfl e_BadPiece fun hc2 c2 sc2 Ec2 => mkP rfl e_NotBending fun hd2 d2 sd2 Ed2 => catV (xs := [.ref a1, .ref b1, .ref c1, .ref d1]) (ys := [.ref a2, .ref b2, .ref c2, .ref d2]) (Same.refl _) ((((sa2.trans sb2).trans sc2).trans sd2) _ _ hL1) (by show 4 ≤ sizeLine; decide) (by show 8 ≤ sizeLine; decide) fun H2 p2 t2 hL2 => ?_⟩
    have E2 : Errs K H2 [.ref a1, .ref b1, .ref c1, .ref d1, .ref a2, .ref b2, .ref c2, .ref d2] ["BadNet", "BadLabelling", "BadNames", "BadOrder", "BadState", "BadMarks", "BadPiece", "NotBending"] := Errs.append (xs := ["BadNet", "BadLabelling", "BadNames", "BadOrder"]) (ys := ["BadState", "BadMarks", "BadPiece", "NotBending"]) (E1.same ((((sa2.trans sb2).trans sc2).trans sd2).trans t2)) (Errs.same t2 (show Errs K hd2 [.ref a2, .ref b2, .ref c2, .ref d2] ["BadState", "BadMarks", "BadPiece", "NotBending"] from ⟨⟨_, rfl, (Ea2.same ((sb2.trans sc2).trans sd2))⟩, ⟨⟨_, rfl, (Eb2.same (sc2.trans sd2))⟩, ⟨⟨_, rfl, (Ec2.same sd2)⟩, ⟨⟨_, rfl, Ed2⟩, trivial⟩⟩⟩⟩))
    have s2 := s1.trans ((((sa2.trans sb2).trans sc2).trans sd2).trans t2)
    clear s1 hL1 E1 t2 sa2 Ea2 sb2 Eb2 sc2 Ec2 sd2 Ed2
    refine ⟨.ref p2, rfl, mkP rfl e_BadWindow fun ha3 a3 sa3 Ea3 => mkP rfl e_BadMap fun hb3 b3 sb3 Eb3 => mkP rfl e_BadKind fun hc3 c3 sc3 Ec3 => mkP rfl e_NoProgram fun hd3 d3 sd3 Ed3 => catV (xs := [.ref a1, .ref b1, .ref c1, .ref d1, .ref a2, .ref b2, .ref c2, .ref d2]) (ys := [.ref a3, .ref b3, .ref c3, .ref d3]) (Same.refl _) ((((sa3.trans sb3).trans sc3).trans sd3) _ _ hL2) (by show 4 ≤ sizeLine; decide) (by show 12 ≤ sizeLine; decide) fun H3 p3 t3 hL3 => ?_⟩
    have E3 : Errs K H3 [.ref a1, .ref b1, .ref c1, .ref d1, .ref a2, .ref b2, .ref c2, .ref d2, .ref a3, .ref b3, .ref c3, .ref d3] ["BadNet", "BadLabelling", "BadNames", "BadOrder", "BadState", "BadMarks", "BadPiece", "NotBending", "BadWindow", "BadMap", "BadKind", "NoProgram"] := Errs.append (xs := ["BadNet", "BadLabelling", "BadNames", "BadOrder", "BadState", "BadMarks", "BadPiece", "NotBending"]) (ys := ["BadWindow", "BadMap", "BadKind", "NoProgram"]) (E2.same ((((sa3.trans sb3).trans sc3).trans sd3).trans t3)) (Errs.same t3 (show Errs K hd3 [.ref a3, .ref b3, .ref c3, .ref d3] ["BadWindow", "BadMap", "BadKind", "NoProgram"] from ⟨⟨_, rfl, (Ea3.same ((sb3.trans sc3).trans sd3))⟩, ⟨⟨_, rfl, (Eb3.same (sc3.trans sd3))⟩, ⟨⟨_, rfl, (Ec3.same sd3)⟩, ⟨⟨_, rfl, Ed3⟩, trivial⟩⟩⟩⟩))
    have s3 := s2.trans ((((sa3.trans sb3).trans sc3).trans sd3).trans t3)
    clear s2 hL2 E2 t3 sa3 Ea3 sb3 Eb3 sc3 Ec3 sd3 Ed3
    refine ⟨.ref p3, rfl, mkP rfl e_BadColouring fun ha4 a4 sa4 Ea4 => mkP rfl e_BadDraft fun hb4 b4 sb4 Eb4 => mkP rfl e_BadHouses fun hc4 c4 sc4 Ec4 => catV (xs := [.ref a1, .ref b1, .ref c1, .ref d1, .ref a2, .ref b2, .ref c2, .ref d2, .ref a3, .ref b3, .ref c3, .ref d3]) (ys := [.ref a4, .ref b4, .ref c4]) (Same.refl _) (((sa4.trans sb4).trans sc4) _ _ hL3) (by show 3 ≤ sizeLine; decide) (by show 15 ≤ sizeLine; decide) fun H4 p4 t4 hL4 => ?_⟩
    have E4 : Errs K H4 [.ref a1, .ref b1, .ref c1, .ref d1, .ref a2, .ref b2, .ref c2, .ref d2, .ref a3, .ref b3, .ref c3, .ref d3, .ref a4, .ref b4, .ref c4] ["BadNet", "BadLabelling", "BadNames", "BadOrder", "BadState", "BadMarks", "BadPiece", "NotBending", "BadWindow", "BadMap", "BadKind", "NoProgram", "BadColouring", "BadDraft", "BadHouses"] := Errs.append (xs := ["BadNet", "BadLabelling", "BadNames", "BadOrder", "BadState", "BadMarks", "BadPiece", "NotBending", "BadWindow", "BadMap", "BadKind", "NoProgram"]) (ys := ["BadColouring", "BadDraft", "BadHouses"]) (E3.same (((sa4.trans sb4).trans sc4).trans t4)) (Errs.same t4 (show Errs K hc4 [.ref a4, .ref b4, .ref c4] ["BadColouring", "BadDraft", "BadHouses"] from ⟨⟨_, rfl, (Ea4.same (sb4.trans sc4))⟩, ⟨⟨_, rfl, (Eb4.same sc4)⟩, ⟨⟨_, rfl, Ec4⟩, trivial⟩⟩⟩))
    have s4 := s3.trans (((sa4.trans sb4).trans sc4).trans t4)
    clear s3 hL3 E3 t4 sa4 Ea4 sb4 Eb4 sc4 Ec4
    refine ⟨.ref p4, rfl, mkP rfl e_BadDeed fun ha5 a5 sa5 Ea5 => mkP rfl e_BadSession fun hb5 b5 sb5 Eb5 => mkP rfl e_BadPhrase fun hc5 c5 sc5 Ec5 => mkP rfl e_NotNow fun hd5 d5 sd5 Ed5 => catV (xs := [.ref a1, .ref b1, .ref c1, .ref d1, .ref a2, .ref b2, .ref c2, .ref d2, .ref a3, .ref b3, .ref c3, .ref d3, .ref a4, .ref b4, .ref c4]) (ys := [.ref a5, .ref b5, .ref c5, .ref d5]) (Same.refl _) ((((sa5.trans sb5).trans sc5).trans sd5) _ _ hL4) (by show 4 ≤ sizeLine; decide) (by show 19 ≤ sizeLine; decide) fun H5 p5 t5 hL5 => ?_⟩
    have E5 : Errs K H5 [.ref a1, .ref b1, .ref c1, .ref d1, .ref a2, .ref b2, .ref c2, .ref d2, .ref a3, .ref b3, .ref c3, .ref d3, .ref a4, .ref b4, .ref c4, .ref a5, .ref b5, .ref c5, .ref d5] ["BadNet", "BadLabelling", "BadNames", "BadOrder", "BadState", "BadMarks", "BadPiece", "NotBending", "BadWindow", "BadMap", "BadKind", "NoProgram", "BadColouring", "BadDraft", "BadHouses", "BadDeed", "BadSession", "BadPhrase", "NotNow"] := Errs.append (xs := ["BadNet", "BadLabelling", "BadNames", "BadOrder", "BadState", "BadMarks", "BadPiece", "NotBending", "BadWindow", "BadMap", "BadKind", "NoProgram", "BadColouring", "BadDraft", "BadHouses"]) (ys := ["BadDeed", "BadSession", "BadPhrase", "NotNow"]) (E4.same ((((sa5.trans sb5).trans sc5).trans sd5).trans t5)) (Errs.same t5 (show Errs K hd5 [.ref a5, .ref b5, .ref c5, .ref d5] ["BadDeed", "BadSession", "BadPhrase", "NotNow"] from ⟨⟨_, rfl, (Ea5.same ((sb5.trans sc5).trans sd5))⟩, ⟨⟨_, rfl, (Eb5.same (sc5.trans sd5))⟩, ⟨⟨_, rfl, (Ec5.same sd5)⟩, ⟨⟨_, rfl, Ed5⟩, trivial⟩⟩⟩⟩))
    have s5 := s4.trans ((((sa5.trans sb5).trans sc5).trans sd5).trans t5)
    clear s4 hL4 E4 t5 sa5 Ea5 sb5 Eb5 sc5 Ec5 sd5 Ed5
    refine ⟨.ref p5, rfl, mkP rfl e_BadFront fun ha6 a6 sa6 Ea6 => mkP rfl e_BadLetters fun hb6 b6 sb6 Eb6 => mkP rfl e_BadBytes fun hc6 c6 sc6 Ec6 => mkP rfl e_BadHouse fun hd6 d6 sd6 Ed6 => catV (xs := [.ref a1, .ref b1, .ref c1, .ref d1, .ref a2, .ref b2, .ref c2, .ref d2, .ref a3, .ref b3, .ref c3, .ref d3, .ref a4, .ref b4, .ref c4, .ref a5, .ref b5, .ref c5, .ref d5]) (ys := [.ref a6, .ref b6, .ref c6, .ref d6]) (Same.refl _) ((((sa6.trans sb6).trans sc6).trans sd6) _ _ hL5) (by show 4 ≤ sizeLine; decide) (by show 23 ≤ sizeLine; decide) fun H6 p6 t6 hL6 => ?_⟩
    have E6 : Errs K H6 [.ref a1, .ref b1, .ref c1, .ref d1, .ref a2, .ref b2, .ref c2, .ref d2, .ref a3, .ref b3, .ref c3, .ref d3, .ref a4, .ref b4, .ref c4, .ref a5, .ref b5, .ref c5, .ref d5, .ref a6, .ref b6, .ref c6, .ref d6] ["BadNet", "BadLabelling", "BadNames", "BadOrder", "BadState", "BadMarks", "BadPiece", "NotBending", "BadWindow", "BadMap", "BadKind", "NoProgram", "BadColouring", "BadDraft", "BadHouses", "BadDeed", "BadSession", "BadPhrase", "NotNow", "BadFront", "BadLetters", "BadBytes", "BadHouse"] := Errs.append (xs := ["BadNet", "BadLabelling", "BadNames", "BadOrder", "BadState", "BadMarks", "BadPiece", "NotBending", "BadWindow", "BadMap", "BadKind", "NoProgram", "BadColouring", "BadDraft", "BadHouses", "BadDeed", "BadSession", "BadPhrase", "NotNow"]) (ys := ["BadFront", "BadLetters", "BadBytes", "BadHouse"]) (E5.same ((((sa6.trans sb6).trans sc6).trans sd6).trans t6)) (Errs.same t6 (show Errs K hd6 [.ref a6, .ref b6, .ref c6, .ref d6] ["BadFront", "BadLetters", "BadBytes", "BadHouse"] from ⟨⟨_, rfl, (Ea6.same ((sb6.trans sc6).trans sd6))⟩, ⟨⟨_, rfl, (Eb6.same (sc6.trans sd6))⟩, ⟨⟨_, rfl, (Ec6.same sd6)⟩, ⟨⟨_, rfl, Ed6⟩, trivial⟩⟩⟩⟩))
    have s6 := s5.trans ((((sa6.trans sb6).trans sc6).trans sd6).trans t6)
    clear s5 hL5 E5 t6 sa6 Ea6 sb6 Eb6 sc6 Ec6 sd6 Ed6
    refine ⟨.ref p6, rfl, mkP rfl e_BadSpans fun ha7 a7 sa7 Ea7 => mkP rfl e_BadTree fun hb7 b7 sb7 Eb7 => mkP rfl e_BadLabels fun hc7 c7 sc7 Ec7 => catV (xs := [.ref a1, .ref b1, .ref c1, .ref d1, .ref a2, .ref b2, .ref c2, .ref d2, .ref a3, .ref b3, .ref c3, .ref d3, .ref a4, .ref b4, .ref c4, .ref a5, .ref b5, .ref c5, .ref d5, .ref a6, .ref b6, .ref c6, .ref d6]) (ys := [.ref a7, .ref b7, .ref c7]) (Same.refl _) (((sa7.trans sb7).trans sc7) _ _ hL6) (by show 3 ≤ sizeLine; decide) (by show 26 ≤ sizeLine; decide) fun H7 p7 t7 hL7 => ?_⟩
    have E7 : Errs K H7 [.ref a1, .ref b1, .ref c1, .ref d1, .ref a2, .ref b2, .ref c2, .ref d2, .ref a3, .ref b3, .ref c3, .ref d3, .ref a4, .ref b4, .ref c4, .ref a5, .ref b5, .ref c5, .ref d5, .ref a6, .ref b6, .ref c6, .ref d6, .ref a7, .ref b7, .ref c7] ["BadNet", "BadLabelling", "BadNames", "BadOrder", "BadState", "BadMarks", "BadPiece", "NotBending", "BadWindow", "BadMap", "BadKind", "NoProgram", "BadColouring", "BadDraft", "BadHouses", "BadDeed", "BadSession", "BadPhrase", "NotNow", "BadFront", "BadLetters", "BadBytes", "BadHouse", "BadSpans", "BadTree", "BadLabels"] := Errs.append (xs := ["BadNet", "BadLabelling", "BadNames", "BadOrder", "BadState", "BadMarks", "BadPiece", "NotBending", "BadWindow", "BadMap", "BadKind", "NoProgram", "BadColouring", "BadDraft", "BadHouses", "BadDeed", "BadSession", "BadPhrase", "NotNow", "BadFront", "BadLetters", "BadBytes", "BadHouse"]) (ys := ["BadSpans", "BadTree", "BadLabels"]) (E6.same (((sa7.trans sb7).trans sc7).trans t7)) (Errs.same t7 (show Errs K hc7 [.ref a7, .ref b7, .ref c7] ["BadSpans", "BadTree", "BadLabels"] from ⟨⟨_, rfl, (Ea7.same (sb7.trans sc7))⟩, ⟨⟨_, rfl, (Eb7.same sc7)⟩, ⟨⟨_, rfl, Ec7⟩, trivial⟩⟩⟩))
    have s7 := s6.trans (((sa7.trans sb7).trans sc7).trans t7)
    clear s6 hL6 E6 t7 sa7 Ea7 sb7 Eb7 sc7 Ec7
    exact ⟨.ref p7, rfl, q _ p7 _ s7 hL7 E7⟩
end
end K00

set_option maxHeartbeats 16000000
namespace K00
open PySem PySem.Spec PyProof.Rows L2
/-- the triples (error, value, value) -/
def Threes (K : PySem.W.Frag) (H : Hp) (v : V) : List V → List Str → Prop
  | [], [] => True
  | t :: ts, x :: xs => (∃ b a, t = .ref b ∧ H b = some (.tup [.ref a, v, v]) ∧ ErrAt K H a (He.ga K x) (mR K)) ∧ Threes K H v ts xs
  | _, _ => False
theorem Threes.app {K : PySem.W.Frag} {H : Hp} {v : V} : ∀ {ts us : List V} {xs ys : List Str}, Threes K H v ts xs → Threes K H v us ys → Threes K H v (ts ++ us) (xs ++ ys)
  | [], _, [], _, _, h => h
  | t :: ts, _, x :: xs, _, ⟨a, r⟩, h => ⟨a, Threes.app r h⟩
theorem ErrAt.put {K : PySem.W.Frag} {H : Hp} {a C p : Addr} {m : List Value} {xs ys : List V} (h : ErrAt K H a C m) (hp : H p = some (.lst xs)) : ErrAt K (upd H p (.lst ys)) a C m :=
  let ⟨⟨d, e, f⟩, c⟩ := h
  ⟨⟨d, (upd_ne (ne_of e hp (by intro z; unfold exo at z; cases z))).trans e, fun dd q => let ⟨fs, z⟩ := f dd q; ⟨fs, (upd_ne (ne_of z hp (by intro z; unfold exd at z; cases z))).trans z⟩⟩, c⟩
theorem Threes.put {K : PySem.W.Frag} {H : Hp} {v : V} {p : Addr} {zs ys : List V} (hp : H p = some (.lst zs)) : ∀ {ts : List V} {xs : List Str}, Threes K H v ts xs → Threes K (upd H p (.lst ys)) v ts xs
  | [], [], _ => trivial
  | t :: ts, x :: xs, ⟨⟨b, a, e, hb, h⟩, r⟩ => ⟨⟨b, a, e, (upd_ne (ne_of hb hp (by intro z; cases z))).trans hb, h.put hp⟩, Threes.put hp r⟩
theorem Threes.same {K : PySem.W.Frag} {H H' : Hp} {v : V} (s : Same H H') : ∀ {ts : List V} {xs : List Str}, Threes K H v ts xs → Threes K H' v ts xs
  | [], [], _ => trivial
  | t :: ts, x :: xs, ⟨⟨b, a, e, hb, h⟩, r⟩ => ⟨⟨b, a, e, s _ _ hb, h.same s⟩, Threes.same s r⟩
/-- between two appends: p the list, ts what is in it -/
structure OfAt (K : PySem.W.Frag) (H0 H : Hp) (p : Addr) (v : V) (ts : List V) (xs : List Str) : Prop where
  s : Same H0 H
  n : H0 p = none
  l : H p = some (.lst ts)
  t : Threes K H v ts xs
theorem ofStep {K : PySem.W.Frag} {H0 H H1 : Hp} {p a t : Addr} {v : V} {ts : List V} {xs : List Str} {x : Str} (h : OfAt K H0 H p v ts xs) (s : Same H H1) (e : ErrAt K H1 a (He.ga K x) (mR K)) (nt : H1 t = none) :
    (upd H1 t (.tup [.ref a, v, v])) p = some (.lst ts) ∧ OfAt K H0 (upd (upd H1 t (.tup [.ref a, v, v])) p (.lst (ts ++ [.ref t]))) p v (ts ++ [.ref t]) (xs ++ [x]) := by
  have s1 : Same H1 (upd H1 t (.tup [.ref a, v, v])) := same_new nt
  have hp : (upd H1 t (.tup [.ref a, v, v])) p = some (.lst ts) := s1 _ _ (s _ _ h.l)
  refine ⟨hp, fun b o z => ?_, h.n, upd_same, Threes.put hp (Threes.app (Threes.same (s.trans s1) h.t) ⟨⟨t, a, rfl, upd_same, e.same s1⟩, trivial⟩)⟩
  rw [upd_ne (ne_of_none z h.n)]
  exact s1 _ _ (s _ _ (h.s _ _ z))
structure Clss3 (P : Program) (w : World) (K : PySem.W.Frag) (mg : Str → Option Value) (base : Heap) (k : Nat) : Prop where
  c : Clss K mg
  no : ∀ x ∈ fieldE, PySem.W.findIn K (.ref (He.ga K x.1)) x.2 = some none
  fF : ∀ x ∈ fieldE, ∃ fI fd, PySem.W.findIn K (.ref (He.ga K x.1)) "__init__" = some (some (.ref fI)) ∧ PySem.W.typeIn K (.ref fI) = some (.type "function") ∧ FnOk P w K mg base CX0 k fI fd ["self", x.2] (spField K (He.ga K x.1) x.2) ∧ Binds K fd ["self", x.2] [] ∧ KBn K fd ["self", x.2] 1 [x.2] (fun us ws => us ++ ws) (fun vs zs => vs ++ zs)
def spOf (K : PySem.W.Frag) : Sp := fun vs H Q _ => ∃ (v : V) (d : PyData), vs = [v] ∧ Dq K H v d ∧ Short d ∧ ∀ H' p ts, Same H H' → H' p = some (.lst ts) → Threes K H' v ts ordF → Q (.ref p) H'
section
variable {P : Program} {w : World} {K : PySem.W.Frag} {mg : Str → Option Value} {base : Heap}
abbrev N_of : List Str := ["each", "found"]
theorem sc_of : FnScope N_of ["each"] (defScope s_law_errors_of) := ⟨rfl, rfl, rfl, by decide +kernel, rfl, by decide +kernel, by decide +kernel⟩
theorem ok_of {f : Addr} {fd : FuncData} {k : Nat} (F : FnP K "_law_errors_of" s_law_errors_of f fd) (Y : Clss3 P w K mg base k) : FnOk P w K mg base CX0 (k + 2) f fd ["each"] (spOf K) := by
  refine F.ok sc_of (fun vs H Q E h => ?_) (fun cdv A outer s H vs Q E hr h => ?_)
  · obtain ⟨v, d, rfl, _⟩ := h
    rfl
  · obtain ⟨v, d, rfl, hd, hs, q⟩ := h
    obtain ⟨g_BadNumber, e_BadNumber⟩ := Y.c.at_ "BadNumber" (by decide +kernel)
    have n_BadNumber := Y.no ("BadNumber", "part") (by decide +kernel)
    obtain ⟨f_BadNumber, d_BadNumber, i_BadNumber, t_BadNumber, G_BadNumber, b_BadNumber, k_BadNumber⟩ := Y.fF ("BadNumber", "part") (by decide +kernel)
    obtain ⟨g_BadProblem, e_BadProblem⟩ := Y.c.at_ "BadProblem" (by decide +kernel)
    have n_BadProblem := Y.no ("BadProblem", "part") (by decide +kernel)
    obtain ⟨f_BadProblem, d_BadProblem, i_BadProblem, t_BadProblem, G_BadProblem, b_BadProblem, k_BadProblem⟩ := Y.fF ("BadProblem", "part") (by decide +kernel)
    obtain ⟨g_BadTable, e_BadTable⟩ := Y.c.at_ "BadTable" (by decide +kernel)
    have n_BadTable := Y.no ("BadTable", "part") (by decide +kernel)
    obtain ⟨f_BadTable, d_BadTable, i_BadTable, t_BadTable, G_BadTable, b_BadTable, k_BadTable⟩ := Y.fF ("BadTable", "part") (by decide +kernel)
    obtain ⟨g_TooMany, e_TooMany⟩ := Y.c.at_ "TooMany" (by decide +kernel)
    have n_TooMany := Y.no ("TooMany", "most") (by decide +kernel)
    obtain ⟨f_TooMany, d_TooMany, i_TooMany, t_TooMany, G_TooMany, b_TooMany, k_TooMany⟩ := Y.fF ("TooMany", "most") (by decide +kernel)
    obtain ⟨g_BadText, e_BadText⟩ := Y.c.at_ "BadText" (by decide +kernel)
    have n_BadText := Y.no ("BadText", "at") (by decide +kernel)
    obtain ⟨f_BadText, d_BadText, i_BadText, t_BadText, G_BadText, b_BadText, k_BadText⟩ := Y.fF ("BadText", "at") (by decide +kernel)
    obtain ⟨g_BadLead, e_BadLead⟩ := Y.c.at_ "BadLead" (by decide +kernel)
    have n_BadLead := Y.no ("BadLead", "part") (by decide +kernel)
    obtain ⟨f_BadLead, d_BadLead, i_BadLead, t_BadLead, G_BadLead, b_BadLead, k_BadLead⟩ := Y.fF ("BadLead", "part") (by decide +kernel)
    obtain ⟨g_BadSizes, e_BadSizes⟩ := Y.c.at_ "BadSizes" (by decide +kernel)
    have n_BadSizes := Y.no ("BadSizes", "part") (by decide +kernel)
    obtain ⟨f_BadSizes, d_BadSizes, i_BadSizes, t_BadSizes, G_BadSizes, b_BadSizes, k_BadSizes⟩ := Y.fF ("BadSizes", "part") (by decide +kernel)
    obtain ⟨g_BadProgram, e_BadProgram⟩ := Y.c.at_ "BadProgram" (by decide +kernel)
    have n_BadProgram := Y.no ("BadProgram", "part") (by decide +kernel)
    obtain ⟨f_BadProgram, d_BadProgram, i_BadProgram, t_BadProgram, G_BadProgram, b_BadProgram, k_BadProgram⟩ := Y.fF ("BadProgram", "part") (by decide +kernel)
    obtain ⟨g_BadWeb, e_BadWeb⟩ := Y.c.at_ "BadWeb" (by decide +kernel)
    have n_BadWeb := Y.no ("BadWeb", "part") (by decide +kernel)
    obtain ⟨f_BadWeb, d_BadWeb, i_BadWeb, t_BadWeb, G_BadWeb, b_BadWeb, k_BadWeb⟩ := Y.fF ("BadWeb", "part") (by decide +kernel)
    obtain ⟨g_CannotCome, e_CannotCome⟩ := Y.c.at_ "CannotCome" (by decide +kernel)
    have n_CannotCome := Y.no ("CannotCome", "number") (by decide +kernel)
    obtain ⟨f_CannotCome, d_CannotCome, i_CannotCome, t_CannotCome, G_CannotCome, b_CannotCome, k_CannotCome⟩ := Y.fF ("CannotCome", "number") (by decide +kernel)
    obtain ⟨g_BadJournal, e_BadJournal⟩ := Y.c.at_ "BadJournal" (by decide +kernel)
    have n_BadJournal := Y.no ("BadJournal", "number") (by decide +kernel)
    obtain ⟨f_BadJournal, d_BadJournal, i_BadJournal, t_BadJournal, G_BadJournal, b_BadJournal, k_BadJournal⟩ := Y.fF ("BadJournal", "number") (by decide +kernel)
    obtain ⟨g_BadWork, e_BadWork⟩ := Y.c.at_ "BadWork" (by decide +kernel)
    have n_BadWork := Y.no ("BadWork", "part") (by decide +kernel)
    obtain ⟨f_BadWork, d_BadWork, i_BadWork, t_BadWork, G_BadWork, b_BadWork, k_BadWork⟩ := Y.fF ("BadWork", "part") (by decide +kernel)
    obtain ⟨g_BadDeeds, e_BadDeeds⟩ := Y.c.at_ "BadDeeds" (by decide +kernel)
    have n_BadDeeds := Y.no ("BadDeeds", "at") (by decide +kernel)
    obtain ⟨f_BadDeeds, d_BadDeeds, i_BadDeeds, t_BadDeeds, G_BadDeeds, b_BadDeeds, k_BadDeeds⟩ := Y.fF ("BadDeeds", "at") (by decide +kernel)
    obtain ⟨g_BadLog, e_BadLog⟩ := Y.c.at_ "BadLog" (by decide +kernel)
    have n_BadLog := Y.no ("BadLog", "at") (by decide +kernel)
    obtain ⟨f_BadLog, d_BadLog, i_BadLog, t_BadLog, G_BadLog, b_BadLog, k_BadLog⟩ := Y.fF ("BadLog", "at") (by decide +kernel)
    refine ⟨_, PSs.nox <| (pss_cons (ps_set (i := 1) sc_of.nd rfl (Or.inl rfl) (pe_lst pa_nil))
      (pss_cons (ps_expr (pe_bm PySem.F.plainAttrs_list PySem.F.slot_list_append PySem.F.type_list_append mt_append (pv 1) (pa_cons (pe_tup (pa_cons (PE.bx (pe_mkE e_BadNumber.ox i_BadNumber t_BadNumber G_BadNumber hr b_BadNumber .nil pass0 (by rfl) g_BadNumber (pa_cons (pv 0) pa_nil))) (pa_cons (PE.bx (pe_exf (PE.bx (pe_mkE e_BadNumber.ox i_BadNumber t_BadNumber G_BadNumber hr b_BadNumber .nil pass0 (by rfl) g_BadNumber (pa_cons (pv 0) pa_nil))))) (pa_cons (PE.bx (pe_exf (pe_mkEk e_BadNumber.ox i_BadNumber t_BadNumber G_BadNumber hr k_BadNumber pass0 (by rfl) g_BadNumber (pk_cons (pv 0) pk_nil)))) pa_nil)))) pa_nil)))
      (pss_cons (ps_expr (pe_bm PySem.F.plainAttrs_list PySem.F.slot_list_append PySem.F.type_list_append mt_append (pv 1) (pa_cons (pe_tup (pa_cons (PE.bx (pe_mkE e_BadProblem.ox i_BadProblem t_BadProblem G_BadProblem hr b_BadProblem .nil pass0 (by rfl) g_BadProblem (pa_cons (pv 0) pa_nil))) (pa_cons (PE.bx (pe_exf (PE.bx (pe_mkE e_BadProblem.ox i_BadProblem t_BadProblem G_BadProblem hr b_BadProblem .nil pass0 (by rfl) g_BadProblem (pa_cons (pv 0) pa_nil))))) (pa_cons (PE.bx (pe_exf (pe_mkEk e_BadProblem.ox i_BadProblem t_BadProblem G_BadProblem hr k_BadProblem pass0 (by rfl) g_BadProblem (pk_cons (pv 0) pk_nil)))) pa_nil)))) pa_nil)))
      (pss_cons (ps_expr (pe_bm PySem.F.plainAttrs_list PySem.F.slot_list_append PySem.F.type_list_append mt_append (pv 1) (pa_cons (pe_tup (pa_cons (PE.bx (pe_mkE e_BadTable.ox i_BadTable t_BadTable G_BadTable hr b_BadTable .nil pass0 (by rfl) g_BadTable (pa_cons (pv 0) pa_nil))) (pa_cons (PE.bx (pe_exf (PE.bx (pe_mkE e_BadTable.ox i_BadTable t_BadTable G_BadTable hr b_BadTable .nil pass0 (by rfl) g_BadTable (pa_cons (pv 0) pa_nil))))) (pa_cons (PE.bx (pe_exf (pe_mkEk e_BadTable.ox i_BadTable t_BadTable G_BadTable hr k_BadTable pass0 (by rfl) g_BadTable (pk_cons (pv 0) pk_nil)))) pa_nil)))) pa_nil)))
      (pss_cons (ps_expr (pe_bm PySem.F.plainAttrs_list PySem.F.slot_list_append PySem.F.type_list_append mt_append (pv 1) (pa_cons (pe_tup (pa_cons (PE.bx (pe_mkE e_TooMany.ox i_TooMany t_TooMany G_TooMany hr b_TooMany .nil pass0 (by rfl) g_TooMany (pa_cons (pv 0) pa_nil))) (pa_cons (PE.bx (pe_exf (PE.bx (pe_mkE e_TooMany.ox i_TooMany t_TooMany G_TooMany hr b_TooMany .nil pass0 (by rfl) g_TooMany (pa_cons (pv 0) pa_nil))))) (pa_cons (PE.bx (pe_exf (pe_mkEk e_TooMany.ox i_TooMany t_TooMany G_TooMany hr k_TooMany pass0 (by rfl) g_TooMany (pk_cons (pv 0) pk_nil)))) pa_nil)))) pa_nil)))
      (pss_cons (ps_expr (pe_bm PySem.F.plainAttrs_list PySem.F.slot_list_append PySem.F.type_list_append mt_append (pv 1) (pa_cons (pe_tup (pa_cons (PE.bx (pe_mkE e_BadText.ox i_BadText t_BadText G_BadText hr b_BadText .nil pass0 (by rfl) g_BadText (pa_cons (pv 0) pa_nil))) (pa_cons (PE.bx (pe_exf (PE.bx (pe_mkE e_BadText.ox i_BadText t_BadText G_BadText hr b_BadText .nil pass0 (by rfl) g_BadText (pa_cons (pv 0) pa_nil))))) (pa_cons (PE.bx (pe_exf (pe_mkEk e_BadText.ox i_BadText t_BadText G_BadText hr k_BadText pass0 (by rfl) g_BadText (pk_cons (pv 0) pk_nil)))) pa_nil)))) pa_nil)))
      (pss_cons (ps_expr (pe_bm PySem.F.plainAttrs_list PySem.F.slot_list_append PySem.F.type_list_append mt_append (pv 1) (pa_cons (pe_tup (pa_cons (PE.bx (pe_mkE e_BadLead.ox i_BadLead t_BadLead G_BadLead hr b_BadLead .nil pass0 (by rfl) g_BadLead (pa_cons (pv 0) pa_nil))) (pa_cons (PE.bx (pe_exf (PE.bx (pe_mkE e_BadLead.ox i_BadLead t_BadLead G_BadLead hr b_BadLead .nil pass0 (by rfl) g_BadLead (pa_cons (pv 0) pa_nil))))) (pa_cons (PE.bx (pe_exf (pe_mkEk e_BadLead.ox i_BadLead t_BadLead G_BadLead hr k_BadLead pass0 (by rfl) g_BadLead (pk_cons (pv 0) pk_nil)))) pa_nil)))) pa_nil)))
      (pss_cons (ps_expr (pe_bm PySem.F.plainAttrs_list PySem.F.slot_list_append PySem.F.type_list_append mt_append (pv 1) (pa_cons (pe_tup (pa_cons (PE.bx (pe_mkE e_BadSizes.ox i_BadSizes t_BadSizes G_BadSizes hr b_BadSizes .nil pass0 (by rfl) g_BadSizes (pa_cons (pv 0) pa_nil))) (pa_cons (PE.bx (pe_exf (PE.bx (pe_mkE e_BadSizes.ox i_BadSizes t_BadSizes G_BadSizes hr b_BadSizes .nil pass0 (by rfl) g_BadSizes (pa_cons (pv 0) pa_nil))))) (pa_cons (PE.bx (pe_exf (pe_mkEk e_BadSizes.ox i_BadSizes t_BadSizes G_BadSizes hr k_BadSizes pass0 (by rfl) g_BadSizes (pk_cons (pv 0) pk_nil)))) pa_nil)))) pa_nil)))
      (pss_cons (ps_expr (pe_bm PySem.F.plainAttrs_list PySem.F.slot_list_append PySem.F.type_list_append mt_append (pv 1) (pa_cons (pe_tup (pa_cons (PE.bx (pe_mkE e_BadProgram.ox i_BadProgram t_BadProgram G_BadProgram hr b_BadProgram .nil pass0 (by rfl) g_BadProgram (pa_cons (pv 0) pa_nil))) (pa_cons (PE.bx (pe_exf (PE.bx (pe_mkE e_BadProgram.ox i_BadProgram t_BadProgram G_BadProgram hr b_BadProgram .nil pass0 (by rfl) g_BadProgram (pa_cons (pv 0) pa_nil))))) (pa_cons (PE.bx (pe_exf (pe_mkEk e_BadProgram.ox i_BadProgram t_BadProgram G_BadProgram hr k_BadProgram pass0 (by rfl) g_BadProgram (pk_cons (pv 0) pk_nil)))) pa_nil)))) pa_nil)))
      (pss_cons (ps_expr (pe_bm PySem.F.plainAttrs_list PySem.F.slot_list_append PySem.F.type_list_append mt_append (pv 1) (pa_cons (pe_tup (pa_cons (PE.bx (pe_mkE e_BadWeb.ox i_BadWeb t_BadWeb G_BadWeb hr b_BadWeb .nil pass0 (by rfl) g_BadWeb (pa_cons (pv 0) pa_nil))) (pa_cons (PE.bx (pe_exf (PE.bx (pe_mkE e_BadWeb.ox i_BadWeb t_BadWeb G_BadWeb hr b_BadWeb .nil pass0 (by rfl) g_BadWeb (pa_cons (pv 0) pa_nil))))) (pa_cons (PE.bx (pe_exf (pe_mkEk e_BadWeb.ox i_BadWeb t_BadWeb G_BadWeb hr k_BadWeb pass0 (by rfl) g_BadWeb (pk_cons (pv 0) pk_nil)))) pa_nil)))) pa_nil)))
      (pss_cons (ps_expr (pe_bm PySem.F.plainAttrs_list PySem.F.slot_list_append PySem.F.type_list_append mt_append (pv 1) (pa_cons (pe_tup (pa_cons (PE.bx (pe_mkE e_CannotCome.ox i_CannotCome t_CannotCome G_CannotCome hr b_CannotCome .nil pass0 (by rfl) g_CannotCome (pa_cons (pv 0) pa_nil))) (pa_cons (PE.bx (pe_exf (PE.bx (pe_mkE e_CannotCome.ox i_CannotCome t_CannotCome G_CannotCome hr b_CannotCome .nil pass0 (by rfl) g_CannotCome (pa_cons (pv 0) pa_nil))))) (pa_cons (PE.bx (pe_exf (pe_mkEk e_CannotCome.ox i_CannotCome t_CannotCome G_CannotCome hr k_CannotCome pass0 (by rfl) g_CannotCome (pk_cons (pv 0) pk_nil)))) pa_nil)))) pa_nil)))
      (pss_cons (ps_expr (pe_bm PySem.F.plainAttrs_list PySem.F.slot_list_append PySem.F.type_list_append mt_append (pv 1) (pa_cons (pe_tup (pa_cons (PE.bx (pe_mkE e_BadJournal.ox i_BadJournal t_BadJournal G_BadJournal hr b_BadJournal .nil pass0 (by rfl) g_BadJournal (pa_cons (pv 0) pa_nil))) (pa_cons (PE.bx (pe_exf (PE.bx (pe_mkE e_BadJournal.ox i_BadJournal t_BadJournal G_BadJournal hr b_BadJournal .nil pass0 (by rfl) g_BadJournal (pa_cons (pv 0) pa_nil))))) (pa_cons (PE.bx (pe_exf (pe_mkEk e_BadJournal.ox i_BadJournal t_BadJournal G_BadJournal hr k_BadJournal pass0 (by rfl) g_BadJournal (pk_cons (pv 0) pk_nil)))) pa_nil)))) pa_nil)))
      (pss_cons (ps_expr (pe_bm PySem.F.plainAttrs_list PySem.F.slot_list_append PySem.F.type_list_append mt_append (pv 1) (pa_cons (pe_tup (pa_cons (PE.bx (pe_mkE e_BadWork.ox i_BadWork t_BadWork G_BadWork hr b_BadWork .nil pass0 (by rfl) g_BadWork (pa_cons (pv 0) pa_nil))) (pa_cons (PE.bx (pe_exf (PE.bx (pe_mkE e_BadWork.ox i_BadWork t_BadWork G_BadWork hr b_BadWork .nil pass0 (by rfl) g_BadWork (pa_cons (pv 0) pa_nil))))) (pa_cons (PE.bx (pe_exf (pe_mkEk e_BadWork.ox i_BadWork t_BadWork G_BadWork hr k_BadWork pass0 (by rfl) g_BadWork (pk_cons (pv 0) pk_nil)))) pa_nil)))) pa_nil)))
      (pss_cons (ps_expr (pe_bm PySem.F.plainAttrs_list PySem.F.slot_list_append PySem.F.type_list_append mt_append (pv 1) (pa_cons (pe_tup (pa_cons (PE.bx (pe_mkE e_BadDeeds.ox i_BadDeeds t_BadDeeds G_BadDeeds hr b_BadDeeds .nil pass0 (by rfl) g_BadDeeds (pa_cons (pv 0) pa_nil))) (pa_cons (PE.bx (pe_exf (PE.bx (pe_mkE e_BadDeeds.ox i_BadDeeds t_BadDeeds G_BadDeeds hr b_BadDeeds .nil pass0 (by rfl) g_BadDeeds (pa_cons (pv 0) pa_nil))))) (pa_cons (PE.bx (pe_exf (pe_mkEk e_BadDeeds.ox i_BadDeeds t_BadDeeds G_BadDeeds hr k_BadDeeds pass0 (by rfl) g_BadDeeds (pk_cons (pv 0) pk_nil)))) pa_nil)))) pa_nil)))
      (pss_cons (ps_expr (pe_bm PySem.F.plainAttrs_list PySem.F.slot_list_append PySem.F.type_list_append mt_append (pv 1) (pa_cons (pe_tup (pa_cons (PE.bx (pe_mkE e_BadLog.ox i_BadLog t_BadLog G_BadLog hr b_BadLog .nil pass0 (by rfl) g_BadLog (pa_cons (pv 0) pa_nil))) (pa_cons (PE.bx (pe_exf (PE.bx (pe_mkE e_BadLog.ox i_BadLog t_BadLog G_BadLog hr b_BadLog .nil pass0 (by rfl) g_BadLog (pa_cons (pv 0) pa_nil))))) (pa_cons (PE.bx (pe_exf (pe_mkEk e_BadLog.ox i_BadLog t_BadLog G_BadLog hr k_BadLog pass0 (by rfl) g_BadLog (pk_cons (pv 0) pk_nil)))) pa_nil)))) pa_nil)))
      (pss_one (ps_ret (pv 1)))))))))))))))))), ?_⟩
    refine ⟨Nat.zero_le _, fun p n0 => ?_⟩
    have O0 : OfAt K H (upd H p (.lst [])) p v [] [] := ⟨same_new n0, n0, upd_same, trivial⟩
    generalize upd H p (.lst []) = H0 at O0 ⊢
    refine ⟨.ref p, rfl, .inl ⟨rfl, _, SqL.of O0.l⟩, mkF rfl e_BadNumber n_BadNumber (hd.same O0.s) hs fun Ha a s1 A => rdF rfl e_BadNumber n_BadNumber (hd.same (O0.s.trans s1)) hs fun Hb s2 => rdK rfl e_BadNumber n_BadNumber (hd.same ((O0.s.trans s1).trans s2)) hs fun Hc s3 => ?_⟩
    refine ⟨(by show 3 ≤ sizeLine; decide), fun t1 nt => ?_⟩
    obtain ⟨l1, O1⟩ := ofStep (x := "BadNumber") O0 ((s1.trans s2).trans s3) (A.err.same (s2.trans s3)) nt
    refine ⟨p, _, _, rfl, rfl, l1, (by show 0 < sizeLine; decide), ?_⟩
    clear s1 s2 s3 A nt l1 O0
    generalize (upd (upd Hc t1 (.tup [.ref a, v, v])) p (.lst ([] ++ [.ref t1]))) = H1 at O1 ⊢
    clear Hc Hb Ha a
    replace O1 : OfAt K H H1 p v [.ref t1] ["BadNumber"] := O1
    refine ⟨.ref p, rfl, .inl ⟨rfl, _, SqL.of O1.l⟩, mkF rfl e_BadProblem n_BadProblem (hd.same O1.s) hs fun Ha a s1 A => rdF rfl e_BadProblem n_BadProblem (hd.same (O1.s.trans s1)) hs fun Hb s2 => rdK rfl e_BadProblem n_BadProblem (hd.same ((O1.s.trans s1).trans s2)) hs fun Hc s3 => ?_⟩
    refine ⟨(by show 3 ≤ sizeLine; decide), fun t2 nt => ?_⟩
    obtain ⟨l2, O2⟩ := ofStep (x := "BadProblem") O1 ((s1.trans s2).trans s3) (A.err.same (s2.trans s3)) nt
    refine ⟨p, _, _, rfl, rfl, l2, (by show 1 < sizeLine; decide), ?_⟩
    clear s1 s2 s3 A nt l2 O1
    generalize (upd (upd Hc t2 (.tup [.ref a, v, v])) p (.lst ([.ref t1] ++ [.ref t2]))) = H2 at O2 ⊢
    clear Hc Hb Ha a
    replace O2 : OfAt K H H2 p v [.ref t1, .ref t2] ["BadNumber", "BadProblem"] := O2
    refine ⟨.ref p, rfl, .inl ⟨rfl, _, SqL.of O2.l⟩, mkF rfl e_BadTable n_BadTable (hd.same O2.s) hs fun Ha a s1 A => rdF rfl e_BadTable n_BadTable (hd.same (O2.s.trans s1)) hs fun Hb s2 => rdK rfl e_BadTable n_BadTable (hd.same ((O2.s.trans s1).trans s2)) hs fun Hc s3 => ?_⟩
    refine ⟨(by show 3 ≤ sizeLine; decide), fun t3 nt => ?_⟩
    obtain ⟨l3, O3⟩ := ofStep (x := "BadTable") O2 ((s1.trans s2).trans s3) (A.err.same (s2.trans s3)) nt
    refine ⟨p, _, _, rfl, rfl, l3, (by show 2 < sizeLine; decide), ?_⟩
    clear s1 s2 s3 A nt l3 O2
    generalize (upd (upd Hc t3 (.tup [.ref a, v, v])) p (.lst ([.ref t1, .ref t2] ++ [.ref t3]))) = H3 at O3 ⊢
    clear Hc Hb Ha a
    replace O3 : OfAt K H H3 p v [.ref t1, .ref t2, .ref t3] ["BadNumber", "BadProblem", "BadTable"] := O3
    refine ⟨.ref p, rfl, .inl ⟨rfl, _, SqL.of O3.l⟩, mkF rfl e_TooMany n_TooMany (hd.same O3.s) hs fun Ha a s1 A => rdF rfl e_TooMany n_TooMany (hd.same (O3.s.trans s1)) hs fun Hb s2 => rdK rfl e_TooMany n_TooMany (hd.same ((O3.s.trans s1).trans s2)) hs fun Hc s3 => ?_⟩
    refine ⟨(by show 3 ≤ sizeLine; decide), fun t4 nt => ?_⟩
    obtain ⟨l4, O4⟩ := ofStep (x := "TooMany") O3 ((s1.trans s2).trans s3) (A.err.same (s2.trans s3)) nt
    refine ⟨p, _, _, rfl, rfl, l4, (by show 3 < sizeLine; decide), ?_⟩
    clear s1 s2 s3 A nt l4 O3
    generalize (upd (upd Hc t4 (.tup [.ref a, v, v])) p (.lst ([.ref t1, .ref t2, .ref t3] ++ [.ref t4]))) = H4 at O4 ⊢
    clear Hc Hb Ha a
    replace O4 : OfAt K H H4 p v [.ref t1, .ref t2, .ref t3, .ref t4] ["BadNumber", "BadProblem", "BadTable", "TooMany"] := O4
    refine ⟨.ref p, rfl, .inl ⟨rfl, _, SqL.of O4.l⟩, mkF rfl e_BadText n_BadText (hd.same O4.s) hs fun Ha a s1 A => rdF rfl e_BadText n_BadText (hd.same (O4.s.trans s1)) hs fun Hb s2 => rdK rfl e_BadText n_BadText (hd.same ((O4.s.trans s1).trans s2)) hs fun Hc s3 => ?_⟩
    refine ⟨(by show 3 ≤ sizeLine; decide), fun t5 nt => ?_⟩
    obtain ⟨l5, O5⟩ := ofStep (x := "BadText") O4 ((s1.trans s2).trans s3) (A.err.same (s2.trans s3)) nt
    refine ⟨p, _, _, rfl, rfl, l5, (by show 4 < sizeLine; decide), ?_⟩
    clear s1 s2 s3 A nt l5 O4
    generalize (upd (upd Hc t5 (.tup [.ref a, v, v])) p (.lst ([.ref t1, .ref t2, .ref t3, .ref t4] ++ [.ref t5]))) = H5 at O5 ⊢
    clear Hc Hb Ha a
    replace O5 : OfAt K H H5 p v [.ref t1, .ref t2, .ref t3, .ref t4, .ref t5] ["BadNumber", "BadProblem", "BadTable", "TooMany", "BadText"] := O5
    refine ⟨.ref p, rfl, .inl ⟨rfl, _, SqL.of O5.l⟩, mkF rfl e_BadLead n_BadLead (hd.same O5.s) hs fun Ha a s1 A => rdF rfl e_BadLead n_BadLead (hd.same (O5.s.trans s1)) hs fun Hb s2 => rdK rfl e_BadLead n_BadLead (hd.same ((O5.s.trans s1).trans s2)) hs fun Hc s3 => ?_⟩
    refine ⟨(by show 3 ≤ sizeLine; decide), fun t6 nt => ?_⟩
    obtain ⟨l6, O6⟩ := ofStep (x := "BadLead") O5 ((s1.trans s2).trans s3) (A.err.same (s2.trans s3)) nt
    refine ⟨p, _, _, rfl, rfl, l6, (by show 5 < sizeLine; decide), ?_⟩
    clear s1 s2 s3 A nt l6 O5
    generalize (upd (upd Hc t6 (.tup [.ref a, v, v])) p (.lst ([.ref t1, .ref t2, .ref t3, .ref t4, .ref t5] ++ [.ref t6]))) = H6 at O6 ⊢
    clear Hc Hb Ha a
    replace O6 : OfAt K H H6 p v [.ref t1, .ref t2, .ref t3, .ref t4, .ref t5, .ref t6] ["BadNumber", "BadProblem", "BadTable", "TooMany", "BadText", "BadLead"] := O6
    refine ⟨.ref p, rfl, .inl ⟨rfl, _, SqL.of O6.l⟩, mkF rfl e_BadSizes n_BadSizes (hd.same O6.s) hs fun Ha a s1 A => rdF rfl e_BadSizes n_BadSizes (hd.same (O6.s.trans s1)) hs fun Hb s2 => rdK rfl e_BadSizes n_BadSizes (hd.same ((O6.s.trans s1).trans s2)) hs fun Hc s3 => ?_⟩
    refine ⟨(by show 3 ≤ sizeLine; decide), fun t7 nt => ?_⟩
    obtain ⟨l7, O7⟩ := ofStep (x := "BadSizes") O6 ((s1.trans s2).trans s3) (A.err.same (s2.trans s3)) nt
    refine ⟨p, _, _, rfl, rfl, l7, (by show 6 < sizeLine; decide), ?_⟩
    clear s1 s2 s3 A nt l7 O6
    generalize (upd (upd Hc t7 (.tup [.ref a, v, v])) p (.lst ([.ref t1, .ref t2, .ref t3, .ref t4, .ref t5, .ref t6] ++ [.ref t7]))) = H7 at O7 ⊢
    clear Hc Hb Ha a
    replace O7 : OfAt K H H7 p v [.ref t1, .ref t2, .ref t3, .ref t4, .ref t5, .ref t6, .ref t7] ["BadNumber", "BadProblem", "BadTable", "TooMany", "BadText", "BadLead", "BadSizes"] := O7
    refine ⟨.ref p, rfl, .inl ⟨rfl, _, SqL.of O7.l⟩, mkF rfl e_BadProgram n_BadProgram (hd.same O7.s) hs fun Ha a s1 A => rdF rfl e_BadProgram n_BadProgram (hd.same (O7.s.trans s1)) hs fun Hb s2 => rdK rfl e_BadProgram n_BadProgram (hd.same ((O7.s.trans s1).trans s2)) hs fun Hc s3 => ?_⟩
    refine ⟨(by show 3 ≤ sizeLine; decide), fun t8 nt => ?_⟩
    obtain ⟨l8, O8⟩ := ofStep (x := "BadProgram") O7 ((s1.trans s2).trans s3) (A.err.same (s2.trans s3)) nt
    refine ⟨p, _, _, rfl, rfl, l8, (by show 7 < sizeLine; decide), ?_⟩
    clear s1 s2 s3 A nt l8 O7
    generalize (upd (upd Hc t8 (.tup [.ref a, v, v])) p (.lst ([.ref t1, .ref t2, .ref t3, .ref t4, .ref t5, .ref t6, .ref t7] ++ [.ref t8]))) = H8 at O8 ⊢
    clear Hc Hb Ha a
    replace O8 : OfAt K H H8 p v [.ref t1, .ref t2, .ref t3, .ref t4, .ref t5, .ref t6, .ref t7, .ref t8] ["BadNumber", "BadProblem", "BadTable", "TooMany", "BadText", "BadLead", "BadSizes", "BadProgram"] := O8
    refine ⟨.ref p, rfl, .inl ⟨rfl, _, SqL.of O8.l⟩, mkF rfl e_BadWeb n_BadWeb (hd.same O8.s) hs fun Ha a s1 A => rdF rfl e_BadWeb n_BadWeb (hd.same (O8.s.trans s1)) hs fun Hb s2 => rdK rfl e_BadWeb n_BadWeb (hd.same ((O8.s.trans s1).trans s2)) hs fun Hc s3 => ?_⟩
    refine ⟨(by show 3 ≤ sizeLine; decide), fun t9 nt => ?_⟩
    obtain ⟨l9, O9⟩ := ofStep (x := "BadWeb") O8 ((s1.trans s2).trans s3) (A.err.same (s2.trans s3)) nt
    refine ⟨p, _, _, rfl, rfl, l9, (by show 8 < sizeLine; decide), ?_⟩
    clear s1 s2 s3 A nt l9 O8
    generalize (upd (upd Hc t9 (.tup [.ref a, v, v])) p (.lst ([.ref t1, .ref t2, .ref t3, .ref t4, .ref t5, .ref t6, .ref t7, .ref t8] ++ [.ref t9]))) = H9 at O9 ⊢
    clear Hc Hb Ha a
    replace O9 : OfAt K H H9 p v [.ref t1, .ref t2, .ref t3, .ref t4, .ref t5, .ref t6, .ref t7, .ref t8, .ref t9] ["BadNumber", "BadProblem", "BadTable", "TooMany", "BadText", "BadLead", "BadSizes", "BadProgram", "BadWeb"] := O9
    refine ⟨.ref p, rfl, .inl ⟨rfl, _, SqL.of O9.l⟩, mkF rfl e_CannotCome n_CannotCome (hd.same O9.s) hs fun Ha a s1 A => rdF rfl e_CannotCome n_CannotCome (hd.same (O9.s.trans s1)) hs fun Hb s2 => rdK rfl e_CannotCome n_CannotCome (hd.same ((O9.s.trans s1).trans s2)) hs fun Hc s3 => ?_⟩
    refine ⟨(by show 3 ≤ sizeLine; decide), fun t10 nt => ?_⟩
    obtain ⟨l10, O10⟩ := ofStep (x := "CannotCome") O9 ((s1.trans s2).trans s3) (A.err.same (s2.trans s3)) nt
    refine ⟨p, _, _, rfl, rfl, l10, (by show 9 < sizeLine; decide), ?_⟩
    clear s1 s2 s3 A nt l10 O9
    generalize (upd (upd Hc t10 (.tup [.ref a, v, v])) p (.lst ([.ref t1, .ref t2, .ref t3, .ref t4, .ref t5, .ref t6, .ref t7, .ref t8, .ref t9] ++ [.ref t10]))) = H10 at O10 ⊢
    clear Hc Hb Ha a
    replace O10 : OfAt K H H10 p v [.ref t1, .ref t2, .ref t3, .ref t4, .ref t5, .ref t6, .ref t7, .ref t8, .ref t9, .ref t10] ["BadNumber", "BadProblem", "BadTable", "TooMany", "BadText", "BadLead", "BadSizes", "BadProgram", "BadWeb", "CannotCome"] := O10
    refine ⟨.ref p, rfl, .inl ⟨rfl, _, SqL.of O10.l⟩, mkF rfl e_BadJournal n_BadJournal (hd.same O10.s) hs fun Ha a s1 A => rdF rfl e_BadJournal n_BadJournal (hd.same (O10.s.trans s1)) hs fun Hb s2 => rdK rfl e_BadJournal n_BadJournal (hd.same ((O10.s.trans s1).trans s2)) hs fun Hc s3 => ?_⟩
    refine ⟨(by show 3 ≤ sizeLine; decide), fun t11 nt => ?_⟩
    obtain ⟨l11, O11⟩ := ofStep (x := "BadJournal") O10 ((s1.trans s2).trans s3) (A.err.same (s2.trans s3)) nt
    refine ⟨p, _, _, rfl, rfl, l11, (by show 10 < sizeLine; decide), ?_⟩
    clear s1 s2 s3 A nt l11 O10
    generalize (upd (upd Hc t11 (.tup [.ref a, v, v])) p (.lst ([.ref t1, .ref t2, .ref t3, .ref t4, .ref t5, .ref t6, .ref t7, .ref t8, .ref t9, .ref t10] ++ [.ref t11]))) = H11 at O11 ⊢
    clear Hc Hb Ha a
    replace O11 : OfAt K H H11 p v [.ref t1, .ref t2, .ref t3, .ref t4, .ref t5, .ref t6, .ref t7, .ref t8, .ref t9, .ref t10, .ref t11] ["BadNumber", "BadProblem", "BadTable", "TooMany", "BadText", "BadLead", "BadSizes", "BadProgram", "BadWeb", "CannotCome", "BadJournal"] := O11
    refine ⟨.ref p, rfl, .inl ⟨rfl, _, SqL.of O11.l⟩, mkF rfl e_BadWork n_BadWork (hd.same O11.s) hs fun Ha a s1 A => rdF rfl e_BadWork n_BadWork (hd.same (O11.s.trans s1)) hs fun Hb s2 => rdK rfl e_BadWork n_BadWork (hd.same ((O11.s.trans s1).trans s2)) hs fun Hc s3 => ?_⟩
    refine ⟨(by show 3 ≤ sizeLine; decide), fun t12 nt => ?_⟩
    obtain ⟨l12, O12⟩ := ofStep (x := "BadWork") O11 ((s1.trans s2).trans s3) (A.err.same (s2.trans s3)) nt
    refine ⟨p, _, _, rfl, rfl, l12, (by show 11 < sizeLine; decide), ?_⟩
    clear s1 s2 s3 A nt l12 O11
    generalize (upd (upd Hc t12 (.tup [.ref a, v, v])) p (.lst ([.ref t1, .ref t2, .ref t3, .ref t4, .ref t5, .ref t6, .ref t7, .ref t8, .ref t9, .ref t10, .ref t11] ++ [.ref t12]))) = H12 at O12 ⊢
    clear Hc Hb Ha a
    replace O12 : OfAt K H H12 p v [.ref t1, .ref t2, .ref t3, .ref t4, .ref t5, .ref t6, .ref t7, .ref t8, .ref t9, .ref t10, .ref t11, .ref t12] ["BadNumber", "BadProblem", "BadTable", "TooMany", "BadText", "BadLead", "BadSizes", "BadProgram", "BadWeb", "CannotCome", "BadJournal", "BadWork"] := O12
    refine ⟨.ref p, rfl, .inl ⟨rfl, _, SqL.of O12.l⟩, mkF rfl e_BadDeeds n_BadDeeds (hd.same O12.s) hs fun Ha a s1 A => rdF rfl e_BadDeeds n_BadDeeds (hd.same (O12.s.trans s1)) hs fun Hb s2 => rdK rfl e_BadDeeds n_BadDeeds (hd.same ((O12.s.trans s1).trans s2)) hs fun Hc s3 => ?_⟩
    refine ⟨(by show 3 ≤ sizeLine; decide), fun t13 nt => ?_⟩
    obtain ⟨l13, O13⟩ := ofStep (x := "BadDeeds") O12 ((s1.trans s2).trans s3) (A.err.same (s2.trans s3)) nt
    refine ⟨p, _, _, rfl, rfl, l13, (by show 12 < sizeLine; decide), ?_⟩
    clear s1 s2 s3 A nt l13 O12
    generalize (upd (upd Hc t13 (.tup [.ref a, v, v])) p (.lst ([.ref t1, .ref t2, .ref t3, .ref t4, .ref t5, .ref t6, .ref t7, .ref t8, .ref t9, .ref t10, .ref t11, .ref t12] ++ [.ref t13]))) = H13 at O13 ⊢
    clear Hc Hb Ha a
    replace O13 : OfAt K H H13 p v [.ref t1, .ref t2, .ref t3, .ref t4, .ref t5, .ref t6, .ref t7, .ref t8, .ref t9, .ref t10, .ref t11, .ref t12, .ref t13] ["BadNumber", "BadProblem", "BadTable", "TooMany", "BadText", "BadLead", "BadSizes", "BadProgram", "BadWeb", "CannotCome", "BadJournal", "BadWork", "BadDeeds"] := O13
    refine ⟨.ref p, rfl, .inl ⟨rfl, _, SqL.of O13.l⟩, mkF rfl e_BadLog n_BadLog (hd.same O13.s) hs fun Ha a s1 A => rdF rfl e_BadLog n_BadLog (hd.same (O13.s.trans s1)) hs fun Hb s2 => rdK rfl e_BadLog n_BadLog (hd.same ((O13.s.trans s1).trans s2)) hs fun Hc s3 => ?_⟩
    refine ⟨(by show 3 ≤ sizeLine; decide), fun t14 nt => ?_⟩
    obtain ⟨l14, O14⟩ := ofStep (x := "BadLog") O13 ((s1.trans s2).trans s3) (A.err.same (s2.trans s3)) nt
    refine ⟨p, _, _, rfl, rfl, l14, (by show 13 < sizeLine; decide), ?_⟩
    clear s1 s2 s3 A nt l14 O13
    generalize (upd (upd Hc t14 (.tup [.ref a, v, v])) p (.lst ([.ref t1, .ref t2, .ref t3, .ref t4, .ref t5, .ref t6, .ref t7, .ref t8, .ref t9, .ref t10, .ref t11, .ref t12, .ref t13] ++ [.ref t14]))) = H14 at O14 ⊢
    clear Hc Hb Ha a
    replace O14 : OfAt K H H14 p v [.ref t1, .ref t2, .ref t3, .ref t4, .ref t5, .ref t6, .ref t7, .ref t8, .ref t9, .ref t10, .ref t11, .ref t12, .ref t13, .ref t14] ["BadNumber", "BadProblem", "BadTable", "TooMany", "BadText", "BadLead", "BadSizes", "BadProgram", "BadWeb", "CannotCome", "BadJournal", "BadWork", "BadDeeds", "BadLog"] := O14
    exact ⟨.ref p, rfl, q _ p _ O14.s O14.l O14.t⟩
end
end K00

set_option maxHeartbeats 16000000
namespace L2
open PySem PySem.Spec PyProof.Rows
/-- over a list that the body leaves as it is, with the turn's number -/
theorem for_enum {K : PySem.W.Frag} {a : Addr} {xs : List V} {g : TG} {tb : TS} {D : Ends} {σ1 : L2.St} {H1 : Hp} (Pv : Nat → L2.St → Hp → Prop) (h0 : Pv 0 σ1 H1) (hl : ∀ i σ H, i ≤ xs.length → Pv i σ H → SqL K H a xs)
    (hs : ∀ i x T σ H, xs[i]? = some x → H T = none → Pv i σ H → g (.ref T) σ (upd H T (.tup [.int (i : Nat), x])) fun σ2 H2 => tb { D with nx := Pv (i + 1), ct := Pv (i + 1), bk := D.nx } σ2 H2) (hd : ∀ σ H, Pv xs.length σ H → D.nx σ H) :
    ∃ W : Nat → Nat → L2.St → Hp → Prop, (∃ m, W 0 m σ1 H1) ∧ ∀ i m σ H, W i m σ H →
      ((Ite K a).stop i H ∧ D.nx σ H) ∨ ((Ite K a).go i H ∧ ∃ N : L2.St → Hp → Prop, (∀ σ' H', N σ' H' → ∃ m', m' < m ∧ W (i + 1) m' σ' H') ∧ ∀ x H', (Ite K a).yld i H x H' → g x σ H' fun σ2 H2 => tb { D with nx := N, ct := N, bk := D.nx } σ2 H2) := by
  refine ⟨fun i m σ H => m = xs.length - i ∧ i ≤ xs.length ∧ Pv i σ H, ⟨xs.length, by simp, Nat.zero_le _, h0⟩, ?_⟩
  rintro i m σ H ⟨rfl, hi, p⟩
  have q := hl i σ H hi p
  by_cases hlt : i < xs.length
  · refine .inr ⟨⟨xs, xs[i], q, List.getElem?_eq_getElem hlt⟩, Pv (i + 1), fun σ' H' p' => ⟨xs.length - (i + 1), by omega, rfl, hlt, p'⟩, fun v H' y => ?_⟩
    obtain ⟨T, x, rfl, hT, rfl, hx⟩ := y
    exact hs i x T σ H (hx xs q) hT p
  · have e : i = xs.length := by omega
    subst e
    exact .inl ⟨⟨xs, q, Nat.le_refl _⟩, hd σ H p⟩
end L2
namespace K00
open PySem PySem.Spec PyProof.Rows L2
/-! ### the mathematics -/
theorem ordE_len : ordE.length = 40 := by decide +kernel
theorem kinds_at {K : PySem.W.Frag} {mg : Str → Option Value} (Y : Clss K mg) {j : Nat} {x : Str} (h : ordE[j]? = some x) : kindsOf K (He.ga K x) (mR K) = (List.range 40).map fun k => decide (k = j) := by
  have hj : j < ordE.length := (List.getElem?_eq_some_iff.mp h).1
  have hx : ordE[j] = x := (List.getElem?_eq_some_iff.mp h).2
  have nd := Y.nd
  rw [List.nodup_cons] at nd
  obtain ⟨n1, n2⟩ := nd
  have l40 := ordE_len
  unfold kindsOf
  apply List.ext_getElem
  · rw [List.length_map, List.length_map, List.length_range, l40]
  · intro k h1 h2
    have hk : k < ordE.length := by rw [List.length_map] at h1; exact h1
    rw [List.getElem_map, List.getElem_map, List.getElem_range]
    have nr : He.ga K ordE[k] ≠ He.ga K "RoundError" := fun z => n1 (by rw [← z]; exact List.mem_map_of_mem (List.getElem_mem hk))
    have inj : He.ga K ordE[k] = He.ga K x ↔ k = j := by
      constructor
      · intro z
        have p := List.pairwise_iff_getElem.mp n2
        rcases Nat.lt_trichotomy k j with q | q | q
        · exact absurd (by rw [List.getElem_map, List.getElem_map, hx]; exact z) (p k j (by rw [List.length_map]; exact hk) (by rw [List.length_map]; exact hj) q)
        · exact q
        · exact absurd (by rw [List.getElem_map, List.getElem_map, hx]; exact z.symm) (p j k (by rw [List.length_map]; exact hj) (by rw [List.length_map]; exact hk) q)
      · intro z
        subst z
        rw [hx]
    unfold mR
    by_cases e : k = j
    · rw [decide_eq_true e, inj.mpr e]
      simp
    · have e2 : ¬ He.ga K ordE[k] = He.ga K x := fun z => e (inj.mp z)
      rw [decide_eq_false e]
      simp only [List.contains_cons, Bool.or_eq_false_iff]
      refine ⟨by simpa using e2, by simpa using nr, by simp, by simp, by simp, by simp, by simp⟩
theorem kinds_base {K : PySem.W.Frag} {mg : Str → Option Value} (Y : Clss K mg) : kindsOf K (He.ga K "RoundError") PySem.HandSPX.veTail = ordE.map fun _ => false := by
  have nd := Y.nd
  rw [List.nodup_cons] at nd
  unfold kindsOf
  apply List.map_congr_left
  intro x hx
  have nr : He.ga K x ≠ He.ga K "RoundError" := fun z => nd.1 (by rw [← z]; exact List.mem_map_of_mem hx)
  simp only [List.contains_cons, Bool.or_eq_false_iff]
  exact ⟨by simpa using nr, by simp, by simp, by simp, by simp, by simp⟩
theorem any_short : ∀ d ∈ anyD, Short d := by
  intro d hd y e
  subst e
  simp only [anyD, List.mem_cons, List.not_mem_nil, or_false, PyData.str.injEq, reduceCtorEq, false_or] at hd
  rcases hd with rfl | rfl | rfl <;> decide +kernel
theorem any_two : ∀ d ∈ anyD, (PyData.list [d, d]).showable = true ∧ (PyData.list [d, d]).depth ≤ 60 ∧ (PyData.list [d, d]).shown.length ≤ sizeLine := by decide +kernel
theorem dp_bools {K : PySem.W.Frag} {H : Hp} : ∀ ls : List Bool, DpAll K H (ls.map V.bl) (ls.map PyData.bool)
  | [] => .nil
  | x :: r => .cons (.bl x) (dp_bools r)
theorem sh_bools (ls : List Bool) : SeqAt.shaped (.list (ls.map PyData.bool)) = true := by
  have h : ∀ ls : List Bool, PyData.canLayAll0 (ls.map PyData.bool) = true ∧ PyData.depthAll (ls.map PyData.bool) ≤ 1 := fun ls => by
    induction ls with
    | nil => exact ⟨rfl, by simp [PyData.depthAll]⟩
    | cons x r ih =>
      refine ⟨?_, ?_⟩
      · simp [PyData.canLayAll0, PyData.canLay0, ih.1]
      · simp [PyData.depthAll, PyData.depth, ih.2]
  obtain ⟨h1, h2⟩ := h ls
  unfold SeqAt.shaped
  simp only [PyData.canLay0, PyData.depth, h1, Bool.true_and]
  exact decide_eq_true (by omega)
theorem Errs.length {K : PySem.W.Frag} {H : Hp} : ∀ {vs : List V} {xs : List Str}, Errs K H vs xs → vs.length = xs.length
  | [], [], _ => rfl
  | _ :: _, _ :: _, ⟨_, t⟩ => congrArg Nat.succ (Errs.length t)
theorem Errs.get {K : PySem.W.Frag} {H : Hp} : ∀ {vs : List V} {xs : List Str} {i : Nat} {v : V}, Errs K H vs xs → vs[i]? = some v → ∃ a x, v = .ref a ∧ xs[i]? = some x ∧ ErrAt K H a (He.ga K x) (mR K)
  | [], [], _, _, _, h => by simp at h
  | v :: vs, x :: xs, 0, u, ⟨⟨a, e, h⟩, _⟩, hi => by
    simp at hi
    subst hi
    exact ⟨a, x, e, rfl, h⟩
  | v :: vs, x :: xs, i + 1, u, ⟨_, t⟩, hi => by
    obtain ⟨a, y, e, hy, h⟩ := Errs.get (i := i) t (by simpa using hi)
    exact ⟨a, y, e, by simpa using hy, h⟩
theorem Threes.split {K : PySem.W.Frag} {H : Hp} {v : V} : ∀ {ts : List V} {xs : List Str}, Threes K H v ts xs → ∃ as : List V, Errs K H as xs ∧ as.length = ts.length ∧ ∀ (i : Nat) (t : V), ts[i]? = some t → ∃ b a, t = .ref b ∧ as[i]? = some a ∧ H b = some (.tup [a, v, v])
  | [], [], _ => ⟨[], trivial, rfl, fun i t h => by simp at h⟩
  | t :: ts, x :: xs, ⟨⟨b, a, e, hb, h⟩, r⟩ => by
    obtain ⟨as, h1, h2, h3⟩ := Threes.split r
    refine ⟨.ref a :: as, ⟨⟨a, rfl, h⟩, h1⟩, congrArg Nat.succ h2, fun i u hi => ?_⟩
    cases i with
    | zero =>
      simp at hi
      subst hi
      exact ⟨b, .ref a, e, rfl, hb⟩
    | succ i =>
      obtain ⟨b', a', q1, q2, q3⟩ := h3 i u (by simpa using hi)
      exact ⟨b', a', q1, by simpa using q2, q3⟩
end K00

set_option maxHeartbeats 16000000
namespace K00
open PySem PySem.Spec PyProof.Rows L2
def spLaw (K : PySem.W.Frag) : Sp := fun vs H Q _ => ∃ (a : Addr) (ns : List Int), vs = [.ref a] ∧ SqL K H a (ns.map V.int) ∧ ns.length ≤ 63 ∧ ∀ H', Q (.bl true) H'
theorem repr_in {X : Cx} {K : PySem.W.Frag} {A' : Around} (e : X.K = K) (ea : X.A = A') (hS : SysIn K) (hg : A'.guards = some []) (hu : A'.units + 64 < cLine) : CallR X (.builtin "repr") (rRepr K) := by
  subst e ea
  exact call_repr hS hg hu
theorem ix_in {X : Cx} {K : PySem.W.Frag} (e : X.K = K) : IxR X (rIxT K) := by
  subst e
  exact ix_tup
theorem if_no {c : Bool} {A B : Prop} (h : c = false) (q : B) : if c = true then A else B := by rw [h]; exact iteF q
theorem if_yes {c : Bool} {A B : Prop} (h : c = true) (q : A) : if c = true then A else B := by rw [h]; exact iteT q
theorem mR_ok {K : PySem.W.Frag} : PySem.HandSPX.refsVE (mR K) = true := by
  show PySem.HandSPX.refsVE PySem.HandSPX.veTail = true
  decide +kernel
theorem eqv_bools (l : List Bool) : PyData.eqv (.list (l.map PyData.bool)) (.list (l.map PyData.bool)) = true := SeqAt.eqv_refl _ (SeqAt.canLay_of_shaped (sh_bools l))
theorem inV_false : ∀ l : List Str, inV (.bl true) ((l.map fun _ => false).map V.bl) = false
  | [] => rfl
  | _ :: r => by
    show (eqV (.bl false) (.bl true) || inV (.bl true) ((r.map fun _ => false).map V.bl)) = false
    rw [inV_false r]
    rfl
theorem flat_bools : ∀ l : List Bool, (l.map V.bl).all flatV = true
  | [] => rfl
  | _ :: r => by
    show (true && (r.map V.bl).all flatV) = true
    rw [flat_bools r]
    rfl
/-- a def of one's own, called by its name -/
structure Ca (P : Program) (w : World) (K : PySem.W.Frag) (mg : Str → Option Value) (base : Heap) (k : Nat) (x : Str) (ps : List Str) (sp : Sp) : Prop where
  ex : ∃ f fd, mg x = some (.ref f) ∧ PySem.W.keepIn K (.ref f) = true ∧ FnOk P w K mg base CX0 k f fd ps sp ∧ Binds K fd ps []
section
variable {P : Program} {w : World} {K : PySem.W.Frag} {mg : Str → Option Value} {base : Heap}
abbrev N_law : List Str := ["script", "draw", "words_here", "each", "threes_here", "errors_here", "spot", "error", "base_here", "item", "k"]
theorem sc_law : FnScope N_law ["script"] (defScope s_law) := ⟨rfl, rfl, rfl, by decide +kernel, rfl, by decide +kernel, by decide +kernel⟩
theorem ok_law {f : Addr} {fd : FuncData} {k : Nat} (F : FnP K "law" s_law f fd) (T : Bl mg) (Y : Clss K mg) (Z : Clss2 P w K mg base k) (iR : PySem.W.findIn K (.ref (He.ga K "RoundError")) "__init__" = some (some (.ref (He.ma K (He.ga K "RoundError") "__init__"))))
    (c1 : Ca P w K mg base k "_law_begun" ["script"] (spBegun K)) (c2 : Ca P w K mg base k "_law_pick" ["draw", "some"] (spPick K)) (c3 : Ca P w K mg base k "_law_any" ["draw"] (spAny K)) (c4 : Ca P w K mg base k "_law_errors_of" ["each"] (spOf K))
    (c5 : Ca P w K mg base k "_law_plain_errors" ["words_here"] (spPlain K)) (c6 : Ca P w K mg base k "_law_kinds" ["error"] (spKinds K)) : FnOkG P w K mg base CX0 (k + 2) f fd ["script"] (spLaw K) := by
  obtain ⟨f1, d1, g1, k1, G1, b1⟩ := c1
  obtain ⟨f2, d2, g2, k2, G2, b2⟩ := c2
  obtain ⟨f3, d3, g3, k3, G3, b3⟩ := c3
  obtain ⟨f4, d4, g4, k4, G4, b4⟩ := c4
  obtain ⟨f5, d5, g5, k5, G5, b5⟩ := c5
  obtain ⟨f6, d6, g6, k6, G6, b6⟩ := c6
  obtain ⟨fdR, GR, bR, tR⟩ := Z.fR
  refine F.okG sc_law (fun vs H Q E h => ?_) (fun cdv A outer s H vs Q E hgd hr h => ?_)
  · obtain ⟨a, ns, rfl, _⟩ := h
    rfl
  · obtain ⟨a, ns, rfl, hS, hlen, q⟩ := h
    have hr1 := hr.mono (Nat.le_succ k)
    have hun : (A.deeper (envOfC "law" (defScope s_law) s.heap.objs.size f cdv)).units + 64 < cLine := by have := hr.un; omega
    refine ⟨_, PSs.nox <| pss_cons (ps_set (i := 1) sc_law.nd rfl (Or.inl rfl) (PE.bx (pe_call G1 hr1 rfl g1 k1 b1 .nil pass0 (pa_cons (pv 0) pa_nil))))
      (pss_cons (ps_asg (pe_tup (pa_cons (PE.bx (pe_call G2 hr1 rfl g2 k2 b2 .nil pass0 (pa_cons (pv 1) (pa_cons (pe_lst (pa_cons pe_str (pa_cons pe_str (pa_cons pe_str pa_nil)))) pa_nil)))) (pa_cons (PE.bx (pe_call G3 hr1 rfl g3 k3 b3 .nil pass0 (pa_cons (pv 1) pa_nil))) pa_nil)))
          (pg_tup rfl (pgs_cons (pg_name (i := 2) sc_law.nd rfl (Or.inl rfl)) (pgs_cons (pg_name (i := 3) sc_law.nd rfl (Or.inr rfl)) pgs_nil))))
      (pss_cons (ps_set (i := 4) sc_law.nd rfl (Or.inl rfl) (PE.bx (pe_call G4 hr1 rfl g4 k4 b4 .nil pass0 (pa_cons (pv 3) pa_nil))))
      (pss_cons (ps_set (i := 5) sc_law.nd rfl (Or.inl rfl) (pe_op op_cat (PE.bx (pe_call G5 hr1 rfl g5 k5 b5 .nil pass0 (pa_cons (pv 2) pa_nil)))
          (PE.bx (pe_lc (own := [("item", 9)]) (g := gName 9) (tt := tYes) rfl sc_law.nd (pi_list (pv 4)) (blkOk_by (N := N_law) (sc := defScope s_law) (by decide +kernel)) (fun _ _ _ _ _ => pg_name (i := 9) sc_law.nd rfl (Or.inl rfl)) (fun _ _ _ _ _ => pts_nil)
            (fun _ _ _ _ _ => pe_ix (ix_in rfl) (pv 9) pe_int (fun _ _ => rfl))))))
      (pss_cons (ps_for PassesOwn.never rfl (pi_enum (by rfl) T.enum (pa_cons (pv 5) pa_nil)) (pg_tup rfl (pgs_cons (pg_name (i := 6) sc_law.nd rfl (Or.inr rfl)) (pgs_cons (pg_name (i := 7) sc_law.nd rfl (Or.inl rfl)) pgs_nil)))
        (pss_cons (ps_if (pt_cmpR (op_neD hun) (PE.bx (pe_call G6 hr1 rfl g6 k6 b6 .nil pass0 (pa_cons (pv 7) pa_nil)))
            (PE.bx (pe_lc (own := [("k", 10)]) (g := gName 10) (tt := tYes) rfl sc_law.nd (pi_range1 rfl T.range (pa_cons pe_int pa_nil)) (blkOk_by (N := N_law) (sc := defScope s_law) (by decide +kernel)) (fun _ _ _ _ _ => pg_name (i := 10) sc_law.nd rfl (Or.inl rfl)) (fun _ _ _ _ _ => pts_nil)
              (fun _ _ _ _ _ => pe_cmpR op_eq (pv 10) (pv 6) (nomark _)))) (nomark _)) (pss_one (ps_ret pe_bl)) pss_nil)
        (pss_one (ps_if (PW.pt (pw_or (pt_not (pt_val (pe_callB call_isV (by rfl) T.isi (by decide +kernel) (pa_cons (pv 7) (pa_cons (pe_glob (v := .ref _) (by rfl) Y.gR rfl) pa_nil)))))
            (pw_or1 (pt_not (pt_val (pe_callB call_isV (by rfl) T.isi (by decide +kernel) (pa_cons (pv 7) (pa_cons (pe_bltn (v := .ty "ValueError") (by rfl) T.ve (by decide +kernel) rfl) pa_nil)))))))) (pss_one (ps_ret pe_bl)) pss_nil))))
      (pss_cons (ps_if (pt_cmpR (op_neD hun) (PE.bx (pe_lc (own := [("item", 9)]) (g := gName 9) rfl sc_law.nd (pi_list (pv 4)) (blkOk_by (N := N_law) (sc := defScope s_law) (by decide +kernel)) (fun _ _ _ _ _ => pg_name (i := 9) sc_law.nd rfl (Or.inl rfl))
          (fun _ _ _ _ _ => pts_one (pt_cmpR op_ne (pe_callB (repr_in rfl rfl Y.sys hgd hun) (by rfl) T.repr (by decide +kernel) (pa_cons (pe_lst (pa_cons (pe_ix (ix_in rfl) (pv 9) pe_int (fun _ _ => rfl)) (pa_cons (pe_ix (ix_in rfl) (pv 9) pe_int (fun _ _ => rfl)) pa_nil))) pa_nil))
            (pe_callB (repr_in rfl rfl Y.sys hgd hun) (by rfl) T.repr (by decide +kernel) (pa_cons (pe_lst (pa_cons (pv 3) (pa_cons (pv 3) pa_nil))) pa_nil)) (nomark _)))
          (fun _ _ _ _ _ => pe_int))) (pe_lst pa_nil) (nomark _)) (pss_one (ps_ret pe_bl)) pss_nil)
      (pss_cons (ps_set (i := 8) sc_law.nd rfl (Or.inl rfl) (PE.bx (pe_mkE Y.eR.ox iR tR GR hr bR .nil pass0 (by rfl) Y.gR (pa_cons pe_str pa_nil))))
      (pss_one (ps_ret (pe_and (pe_cmpR op_notIn_seq pe_bl (PE.bx (pe_call G6 hr1 rfl g6 k6 b6 .nil pass0 (pa_cons (pv 8) pa_nil))) (by rfl))
        (pe_one (pe_callB call_isV (by rfl) T.isi (by decide +kernel) (pa_cons (pv 8) (pa_cons (pe_bltn (v := .ty "ValueError") (by rfl) T.ve (by decide +kernel) rfl) pa_nil))))))))))))), ?_⟩
    -- draw
    refine Bx.mk ⟨.ref a, rfl, a, ns, rfl, hS, hlen, fun H1 d D => ?_⟩
    -- words_here, each
    refine Bx.mk ⟨.ref d, rfl, (by show 3 ≤ sizeLine; decide), fun p np => ?_⟩
    obtain ⟨D1, s1⟩ := D.keepS (o := .lst [.str "", .str "w", .str "nothing of the kind"]) np
    refine ⟨d, p, _, _, rfl, D1, SqL.of upd_same, (by show 0 < 3; decide), (by show 3 < 1073741824; decide), fun H2 i x D2 hx => ?_⟩
    refine Bx.mk ⟨.ref d, rfl, d, _, rfl, D2, fun H3 B2 v dd s3 D3 hq hm => ?_⟩
    refine ⟨two_fits, fun t nt => ?_⟩
    refine ⟨t, [x, v], rfl, .inl (.inl upd_same), rfl, x, [v], rfl, v, [], rfl, rfl, ?_⟩
    have hq4 : Dq K (upd H3 t (.tup [x, v])) v dd := (hq.same D3.same).same (same_new nt)
    have hsh := any_short dd hm
    generalize upd H3 t (.tup [x, v]) = H4 at hq4 ⊢
    clear D D1 D2 D3 hq s1 s3 np nt hx
    -- threes_here
    refine Bx.mk ⟨v, rfl, v, dd, rfl, hq4, hsh, fun H5 p5 ts s5 l5 t5 => ?_⟩
    obtain ⟨as, ea, la, ga⟩ := t5.split
    have hq5 := hq4.same s5
    -- errors_here
    refine Bx.mk ⟨x, rfl, x, rfl, fun H6 p6 us s6 l6 e6 => ?_⟩
    have l5' := s6 _ _ l5
    refine Bx.mk ⟨.ref p5, rfl, p5, rfl, ⟨_, SqL.of l5'⟩, fun L hL => ?_⟩
    have lts : ts.length = 14 := la.symm.trans (ea.length.trans (by decide +kernel))
    have lus : us.length = 26 := e6.length.trans (by decide +kernel)
    refine lc_list (K := K) (xs := ts) (fun i H' => Same H6 H' ∧ H' L = some (.lst (as.take i))) ⟨same_new hL, upd_same⟩ (fun i H' _ ⟨sm, _⟩ => SqL.of (sm _ _ l5')) ?_ ?_
    · rintro i y H' hi ⟨sm, hl⟩
      obtain ⟨b, a', rfl, ha', hb⟩ := ga i y hi
      refine ⟨rfl, ?_⟩
      dsimp only [tYes]
      rw [if_pos rfl]
      refine ⟨.ref b, rfl, b, _, 0, a', rfl, rfl, .inl (.inl (sm _ _ (s6 _ _ hb))), atI_nat (j := 0) rfl, as.take i, hl, ?_, ?_, ?_⟩
      · rw [List.length_take]
        exact Nat.lt_of_le_of_lt (Nat.min_le_right _ _) (by rw [la, lts]; decide)
      · intro c o e
        rw [upd_ne (ne_of_none e hL)]
        exact sm _ _ e
      · rw [upd_same, List.take_add_one, ha']
        rfl
    rintro H7 ⟨s7, l7⟩
    have e7 : as.take ts.length = as := by rw [← la]; exact List.take_length
    rw [e7] at l7
    refine ⟨p6, L, us, as, rfl, rfl, s7 _ _ l6, l7, (by rw [lus, la, lts]; decide), fun p8 n8 => ?_⟩
    have E8 : Errs K (upd H7 p8 (.lst (us ++ as))) (us ++ as) ordE := Errs.append (Errs.same (s7.trans (same_new n8)) e6) (Errs.same (s6.trans (s7.trans (same_new n8))) ea)
    have l8 : (upd H7 p8 (.lst (us ++ as))) p8 = some (.lst (us ++ as)) := upd_same
    have s58 : Same H5 (upd H7 p8 (.lst (us ++ as))) := s6.trans (s7.trans (same_new n8))
    generalize upd H7 p8 (.lst (us ++ as)) = H8 at E8 l8 s58 ⊢
    generalize us ++ as = es at E8 l8 ⊢
    clear e6 e7 l7 s7 l6 hL l5' s6 n8 lus
    -- the loop
    refine ⟨.ref p8, rfl, p8, _, rfl, SqL.of l8, for_enum (K := K) (a := p8) (xs := es) (fun i σ H' => Same H8 H' ∧ ∃ y6 y7 : Option V, σ = [some (.ref a), some (.ref d), some x, some v, some (.ref p5), some (.ref p8), y6, y7, none, none, none]) ⟨Same.refl _, none, none, rfl⟩
      (fun i σ H' _ ⟨sm, _⟩ => SqL.of (sm _ _ l8)) ?_ ?_⟩
    · rintro i y T' σ H' hi hT ⟨sm, y6, y7, rfl⟩
      obtain ⟨e, cx, rfl, hcx, hE⟩ := E8.get hi
      refine ⟨T', _, rfl, .inl (.inl upd_same), rfl, .int i, [_], rfl, .ref e, [], rfl, rfl, ?_⟩
      have hE1 : ErrAt K (upd H' T' (.tup [.int (i : Nat), .ref e])) e (He.ga K cx) (mR K) := (hE.same sm).same (same_new hT)
      have sm1 := sm.trans (same_new (o := .tup [.int (i : Nat), .ref e]) hT)
      generalize upd H' T' (.tup [.int (i : Nat), .ref e]) = H9 at hE1 sm1 ⊢
      refine Bx.mk ⟨.ref e, rfl, e, _, _, rfl, hE1, fun H10 p10 s10 n10 l10 => ?_⟩
      refine Bx.mk ⟨40, rfl, by decide, by decide, fun D hD => ?_⟩
      refine lc_range (lo := 0) (n := 40) (fun m H' => Same H10 H' ∧ H' D = some (.lst (((List.range m).map fun (k : Nat) => decide (V.int (0 + (k : Int)) = V.int (i : Int))).map V.bl))) ⟨same_new hD, upd_same⟩ ?_ ?_
      · rintro m H' hm ⟨sm2, hl⟩
        refine ⟨rfl, ?_⟩
        dsimp only [tYes]
        rw [if_pos rfl]
        refine ⟨.int (0 + (m : Int)), rfl, .int (i : Int), rfl, rfl, _, hl, ?_, ?_, ?_⟩
        · rw [List.length_map, List.length_map, List.length_range]
          exact Nat.lt_of_lt_of_le hm (by decide)
        · intro c o z
          rw [upd_ne (ne_of_none z hD)]
          exact sm2 _ _ z
        · rw [upd_same, List.range_succ, List.map_append, List.map_append]
          rfl
      rintro H11 ⟨s11, l11⟩
      have eqb : ((List.range 40).map fun (k : Nat) => decide (V.int (0 + (k : Int)) = V.int (i : Int))) = (List.range 40).map fun k => decide (k = i) := by
        apply List.map_congr_left
        intro k _
        by_cases z : k = i
        · rw [decide_eq_true z, decide_eq_true (by rw [z]; simp)]
        · rw [decide_eq_false z, decide_eq_false (fun w => z (by have := V.int.inj w; omega))]
      rw [eqb] at l11
      rw [kinds_at Y hcx] at l10
      refine ⟨.list _, .list _, .lst (SqL.of (s11 _ _ l10)) (dp_bools _), .lst (SqL.of l11) (dp_bools _), sh_bools _, sh_bools _, _, rfl, if_no (by rw [eqv_bools]; rfl) ?_⟩
      have hE2 := hE1.same (s10.trans s11)
      obtain ⟨⟨dx, o1, o2⟩, ec⟩ := id hE2
      have kR : PySem.W.kitOne K (.ref (He.ga K cx)) (.ref (He.ga K "RoundError")) = some true := by
        rw [ec.kit Y.eR]
        unfold mR
        simp
      have kV : PySem.W.kitOne K (.ref (He.ga K cx)) (.type "ValueError") = some true := by
        rw [ec.kitT mR_ok (by decide +kernel)]
        decide +kernel
      refine ⟨.ref e, rfl, e, _, dx, .ref _, .ref _, true, rfl, o1, o2, ec.ec, .own _, kR, _, rfl, if_no rfl ?_⟩
      refine ⟨.ref e, rfl, e, _, dx, .ty "ValueError", .type "ValueError", true, rfl, o1, o2, ec.ec, .ty _, kV, _, rfl, if_no rfl ?_⟩
      exact ⟨sm1.trans (s10.trans s11), _, _, rfl⟩
    · rintro σ H9 ⟨sm, y6, y7, rfl⟩
      have l5' := sm _ _ (s58 _ _ l5)
      refine Bx.mk ⟨.ref p5, rfl, p5, rfl, ⟨_, SqL.of l5'⟩, fun D hD => ?_⟩
      obtain ⟨r1, r2, r3⟩ := any_two dd hm
      refine lc_list (K := K) (xs := ts) (fun i H' => Same H9 H' ∧ H' D = some (.lst [])) ⟨same_new hD, upd_same⟩ (fun i H' _ ⟨sm2, _⟩ => SqL.of (sm2 _ _ l5')) ?_ ?_
      · rintro i y H' hi ⟨sm2, hl⟩
        obtain ⟨b, a', rfl, ha', hb⟩ := ga i y hi
        have hb' : SqT K H' b [a', v, v] := .inl (.inl (sm2 _ _ (sm _ _ (s58 _ _ hb))))
        have hq' : Dq K H' v dd := hq5.same (s58.trans (sm.trans sm2))
        refine ⟨rfl, ?_⟩
        refine ⟨.ref b, rfl, b, _, 1, v, rfl, rfl, hb', atI_nat (j := 1) rfl, .ref b, rfl, b, _, 2, v, rfl, rfl, hb', atI_nat (j := 2) rfl, two_fits, fun q1 nq1 => ?_⟩
        have hqa := hq'.same (same_new (o := .lst [v, v]) nq1)
        refine ⟨q1, .list [dd, dd], rfl, .lst (SqL.of upd_same) (.cons hqa (.cons hqa .nil)), r1, r2, r3, ?_⟩
        refine ⟨v, rfl, v, rfl, two_fits, fun q2 nq2 => ?_⟩
        have hqb := hqa.same (same_new (o := .lst [v, v]) nq2)
        refine ⟨q2, .list [dd, dd], rfl, .lst (SqL.of upd_same) (.cons hqb (.cons hqb .nil)), r1, r2, r3, rfl, _, rfl, if_no (by simp) ?_⟩
        refine ⟨sm2.trans ((same_new nq1).trans (same_new nq2)), ?_⟩
        exact (same_new nq2) _ _ ((same_new nq1) _ _ hl)
      rintro H10 ⟨s10, l10⟩
      refine ⟨Nat.zero_le _, fun p np => ?_⟩
      refine ⟨.list [], .list [], .lst (SqL.of ((same_new np) _ _ l10)) .nil, .lst (SqL.of upd_same) .nil, sh_bools [], sh_bools [], _, rfl, if_no rfl ?_⟩
      -- the base
      refine Bx.mk ⟨(by show 1 ≤ 1000; decide), fun e ne => ⟨e, _, _, rfl, Y.eR.ox, upd_same, rfl, ?_⟩⟩
      have hE : ErrAt K (upd (upd H10 p (.lst [])) e (exo e (He.ga K "RoundError") none)) e (He.ga K "RoundError") PySem.HandSPX.veTail := ⟨⟨none, upd_same, fun dd z => by cases z⟩, Y.eR⟩
      generalize upd (upd H10 p (.lst [])) e (exo e (He.ga K "RoundError") none) = H11 at hE ⊢
      refine Bx.mk ⟨.ref e, rfl, e, _, _, rfl, hE, fun H12 p12 s12 n12 l12 => ?_⟩
      rw [kinds_base Y] at l12
      obtain ⟨⟨dx, o1, o2⟩, ec⟩ := hE.same s12
      refine ⟨p12, _, rfl, .inl (SqL.of l12), rfl, flat_bools _, _, rfl, if_yes (by rw [if_pos rfl, inV_false]; rfl) ?_⟩
      have kV : PySem.W.kitOne K (.ref (He.ga K "RoundError")) (.type "ValueError") = some true := by
        rw [ec.kitT (by decide +kernel) (by decide +kernel)]
        decide +kernel
      exact ⟨.ref e, rfl, e, _, dx, .ty "ValueError", .type "ValueError", true, rfl, o1, o2, ec.ec, .ty _, kV, q _⟩
end
end K00

set_option maxHeartbeats 16000000
namespace K00
open PySem PySem.Spec PyProof.Rows L2
theorem ord_in : ∀ x ∈ ordE, x ∈ plainE ∨ x ∈ fieldE.map (·.1) := by decide +kernel
theorem ordP_in : ∀ x ∈ ordP, x ∈ plainE := by decide +kernel
theorem ord_perm : (plainE ++ fieldE.map (·.1)).Perm ordE := by decide +kernel
theorem facts {P : Program} {w : World} {K : PySem.W.Frag} {h : Heap} {mg : Str → Option Value} {f : Addr} (X : K.In h) (G : h.Ns mainGlobals mg) (hfa : mg ("law" : Str) = some (.ref f)) (c1 : He.SaysS fa fn [] sd file ex h K) (hP : SupP P file) :
    ∃ fd : FuncData, (∀ (s : Shared) (v : Value), BindsTo s fd ⟨[v], []⟩ [("script", v)]) ∧ ∀ base : Heap, K.In base → base.Ns mainGlobals mg → FnOkG P w K mg base CX0 6 f fd ["script"] (spLaw K) := by
  have c := c1.y.d
  have e := c1.y.more
  unfold ex at e
  rw [Bool.and_eq_true, Bool.and_eq_true, Bool.and_eq_true, Bool.and_eq_true, Bool.and_eq_true] at e
  obtain ⟨e1, e2, e3, e5, e6, e7⟩ := e
  have e5 := List.all_eq_true.mp e5
  have e6 := List.all_eq_true.mp e6
  have e7 := of_decide_eq_true e7
  have pl : ∀ x ∈ plainE, mg x = some (.ref (He.ga K x)) ∧ He.ErrC K (mR K) (He.ga K x) ∧ PySem.W.findIn K (.ref (He.ga K x)) "__init__" = some (some (.ref (He.ma K (He.ga K "RoundError") "__init__"))) := fun x hx => by
    have z := e5 x hx
    rw [Bool.and_eq_true, Bool.and_eq_true] at z
    exact ⟨He.glo_ok X G z.1, He.errB_ok mR_ok z.2.1, (He.initB_ok z.2.2).1⟩
  have fl : ∀ x ∈ fieldE, mg x.1 = some (.ref (He.ga K x.1)) ∧ He.ErrC K (mR K) (He.ga K x.1) ∧ PySem.W.findIn K (.ref (He.ga K x.1)) "__init__" = some (some (.ref (He.ma K (He.ga K x.1) "__init__"))) ∧ PySem.W.typeIn K (.ref (He.ma K (He.ga K x.1) "__init__")) = some (.type "function") ∧ PySem.W.findIn K (.ref (He.ga K x.1)) x.2 = some none ∧ SupC K (He.ga K x.1) "__init__" (He.ma K (He.ga K "RoundError") "__init__") := fun x hx => by
    have z := e6 x hx
    rw [Bool.and_eq_true, Bool.and_eq_true, Bool.and_eq_true, Bool.and_eq_true] at z
    exact ⟨He.glo_ok X G z.1, He.errB_ok mR_ok z.2.1, (He.initB_ok z.2.2.1).1, (He.initB_ok z.2.2.1).2, of_decide_eq_true z.2.2.2.1, He.supCB_ok z.2.2.2.2⟩
  have T : Bl mg := ⟨He.free_ok X G (c.fact 10 (f := .free "isinstance") rfl), He.free_ok X G (c.fact 11 (f := .free "abs") rfl), He.free_ok X G (c.fact 12 (f := .free "int") rfl), He.free_ok X G (c.fact 13 (f := .free "len") rfl), He.free_ok X G (c.fact 14 (f := .free "range") rfl), He.free_ok X G (c.fact 15 (f := .free "enumerate") rfl), He.free_ok X G (c.fact 16 (f := .free "repr") rfl), He.free_ok X G (c.fact 17 (f := .free "str") rfl), He.free_ok X G (c.fact 18 (f := .free "ValueError") rfl), He.free_ok X G (c.fact 19 (f := .free "super") rfl)⟩
  have gR := He.glo_ok X G (c.fact 20 (f := .glo "RoundError") rfl)
  have Y : Clss K mg := {
    at_ := fun x hx => by
      rcases ord_in x hx with z | z
      · exact ⟨(pl x z).1, (pl x z).2.1⟩
      · obtain ⟨y, hy, rfl⟩ := List.mem_map.mp z
        exact ⟨(fl y hy).1, (fl y hy).2.1⟩
    gR := gR
    eR := He.errB_ok (by decide +kernel) e2
    nd := by
      rw [List.nodup_cons] at e7 ⊢
      have pm : (plainE.map (He.ga K) ++ fieldE.map (fun x => He.ga K x.1)).Perm (ordE.map (He.ga K)) := by
        have q := ord_perm.map (He.ga K)
        rw [List.map_append, List.map_map] at q
        exact q
      exact ⟨fun z => e7.1 (pm.mem_iff.mpr z), pm.nodup_iff.mp e7.2⟩
    sys := He.sysB_ok e1 }
  have iR := He.initB_ok e3
  obtain ⟨d__words, F__words⟩ := c.def_ 0 (d := ds_words) rfl
  obtain ⟨d__law_begun, F__law_begun⟩ := c.def_ 1 (d := ds_law_begun) rfl
  obtain ⟨d__law_mixed, F__law_mixed⟩ := c.def_ 2 (d := ds_law_mixed) rfl
  obtain ⟨d__law_take, F__law_take⟩ := c.def_ 3 (d := ds_law_take) rfl
  obtain ⟨d__law_pick, F__law_pick⟩ := c.def_ 4 (d := ds_law_pick) rfl
  obtain ⟨d__law_any, F__law_any⟩ := c.def_ 5 (d := ds_law_any) rfl
  obtain ⟨d__law_kinds, F__law_kinds⟩ := c.def_ 6 (d := ds_law_kinds) rfl
  obtain ⟨d__law_plain_errors, F__law_plain_errors⟩ := c.def_ 7 (d := ds_law_plain_errors) rfl
  obtain ⟨d__law_errors_of, F__law_errors_of⟩ := c.def_ 8 (d := ds_law_errors_of) rfl
  obtain ⟨d_law, F_law⟩ := c.def_ 9 (d := ds_law) rfl
  obtain ⟨d_RoundError, F_RoundError⟩ := c.def_ 10 (d := di_RoundError) rfl
  obtain ⟨cc_BadDeeds, cda_BadDeeds, d_BadDeeds, F_BadDeeds⟩ := c1.sup 0 (d := q_BadDeeds) rfl
  obtain ⟨cc_BadJournal, cda_BadJournal, d_BadJournal, F_BadJournal⟩ := c1.sup 1 (d := q_BadJournal) rfl
  obtain ⟨cc_BadLead, cda_BadLead, d_BadLead, F_BadLead⟩ := c1.sup 2 (d := q_BadLead) rfl
  obtain ⟨cc_BadLog, cda_BadLog, d_BadLog, F_BadLog⟩ := c1.sup 3 (d := q_BadLog) rfl
  obtain ⟨cc_BadNumber, cda_BadNumber, d_BadNumber, F_BadNumber⟩ := c1.sup 4 (d := q_BadNumber) rfl
  obtain ⟨cc_BadProblem, cda_BadProblem, d_BadProblem, F_BadProblem⟩ := c1.sup 5 (d := q_BadProblem) rfl
  obtain ⟨cc_BadProgram, cda_BadProgram, d_BadProgram, F_BadProgram⟩ := c1.sup 6 (d := q_BadProgram) rfl
  obtain ⟨cc_BadSizes, cda_BadSizes, d_BadSizes, F_BadSizes⟩ := c1.sup 7 (d := q_BadSizes) rfl
  obtain ⟨cc_BadTable, cda_BadTable, d_BadTable, F_BadTable⟩ := c1.sup 8 (d := q_BadTable) rfl
  obtain ⟨cc_BadText, cda_BadText, d_BadText, F_BadText⟩ := c1.sup 9 (d := q_BadText) rfl
  obtain ⟨cc_BadWeb, cda_BadWeb, d_BadWeb, F_BadWeb⟩ := c1.sup 10 (d := q_BadWeb) rfl
  obtain ⟨cc_BadWork, cda_BadWork, d_BadWork, F_BadWork⟩ := c1.sup 11 (d := q_BadWork) rfl
  obtain ⟨cc_CannotCome, cda_CannotCome, d_CannotCome, F_CannotCome⟩ := c1.sup 12 (d := q_CannotCome) rfl
  obtain ⟨cc_TooMany, cda_TooMany, d_TooMany, F_TooMany⟩ := c1.sup 13 (d := q_TooMany) rfl
  have g__words := He.glo_ok X G (c.fact 0 (f := .glo "_words") rfl)
  have g__law_begun := He.glo_ok X G (c.fact 1 (f := .glo "_law_begun") rfl)
  have g__law_mixed := He.glo_ok X G (c.fact 2 (f := .glo "_law_mixed") rfl)
  have g__law_take := He.glo_ok X G (c.fact 3 (f := .glo "_law_take") rfl)
  have g__law_pick := He.glo_ok X G (c.fact 4 (f := .glo "_law_pick") rfl)
  have g__law_any := He.glo_ok X G (c.fact 5 (f := .glo "_law_any") rfl)
  have g__law_kinds := He.glo_ok X G (c.fact 6 (f := .glo "_law_kinds") rfl)
  have g__law_plain_errors := He.glo_ok X G (c.fact 7 (f := .glo "_law_plain_errors") rfl)
  have g__law_errors_of := He.glo_ok X G (c.fact 8 (f := .glo "_law_errors_of") rfl)
  have g_law := He.glo_ok X G (c.fact 9 (f := .glo "law") rfl)
  have el := hfa.symm.trans g_law
  cases el
  have bs := FunD.bindsA (ps := ["script"]) F_law fun _ _ _ _ _ _ us hl => match us, hl with | [_], _ => rfl
  refine ⟨d_law, fun s v => bs s [v] rfl, fun base _ _ => ?_⟩
  have b__words : Binds K d__words ["words", "told"] [] := FunD.bindsN F__words fun _ _ _ _ _ _ us hl => match us, hl with | [_, _], _ => rfl
  have b__law_begun : Binds K d__law_begun ["script"] [] := FunD.bindsN F__law_begun fun _ _ _ _ _ _ us hl => match us, hl with | [_], _ => rfl
  have b__law_mixed : Binds K d__law_mixed ["draw"] [] := FunD.bindsN F__law_mixed fun _ _ _ _ _ _ us hl => match us, hl with | [_], _ => rfl
  have b__law_take : Binds K d__law_take ["draw", "amount"] [] := FunD.bindsN F__law_take fun _ _ _ _ _ _ us hl => match us, hl with | [_, _], _ => rfl
  have b__law_pick : Binds K d__law_pick ["draw", "some"] [] := FunD.bindsN F__law_pick fun _ _ _ _ _ _ us hl => match us, hl with | [_, _], _ => rfl
  have b__law_any : Binds K d__law_any ["draw"] [] := FunD.bindsN F__law_any fun _ _ _ _ _ _ us hl => match us, hl with | [_], _ => rfl
  have b__law_kinds : Binds K d__law_kinds ["error"] [] := FunD.bindsN F__law_kinds fun _ _ _ _ _ _ us hl => match us, hl with | [_], _ => rfl
  have b__law_plain_errors : Binds K d__law_plain_errors ["words_here"] [] := FunD.bindsN F__law_plain_errors fun _ _ _ _ _ _ us hl => match us, hl with | [_], _ => rfl
  have b__law_errors_of : Binds K d__law_errors_of ["each"] [] := FunD.bindsN F__law_errors_of fun _ _ _ _ _ _ us hl => match us, hl with | [_], _ => rfl
  have b_RoundError : Binds K d_RoundError ["self", "message"] [] := by
    obtain ⟨ds, r, b⟩ := FunD.binds1 (ps := ["self", "message"]) F_RoundError 2 1 (by intro z; cases z) rfl (fun T kV doc pm an cdv ct us its l1 l2 => match us, its, l1, l2 with | [_, _], [_], _, _ => ⟨_, rfl, rfl⟩)
    have z : ds = [] := List.eq_nil_of_length_eq_zero r.length.symm
    rw [z] at b
    exact b
  have G_words : FnOk P w K mg base CX0 1 _ d__words ["words", "told"] (spWords K) := ok_words F__words T
  have G_RoundError : FnOk P w K mg base CX0 1 _ d_RoundError ["self", "message"] (spRound K) := ok_round F_RoundError T
  let Hl : Hlp P w K mg base 1 := ⟨_, _, _, _, G_RoundError, b_RoundError, g__words, F__words.kp, G_words, b__words, T.sup⟩
  have Z : ∀ k, Clss2 P w K mg base (k + 1) := fun k => ⟨Y, ⟨_, G_RoundError.mono (by omega), b_RoundError, iR.2⟩, fun x hx => (pl x (ordP_in x hx)).2.2⟩
  have W3 : Clss3 P w K mg base 2 := {
    c := Y
    no := fun x hx => (fl x hx).2.2.2.2.1
    fF := fun x hx => by
      have h5 := fl x hx
      simp only [fieldE, List.mem_cons, List.not_mem_nil, or_false] at hx
      rcases hx with rfl | rfl | rfl | rfl | rfl | rfl | rfl | rfl | rfl | rfl | rfl | rfl | rfl | rfl
      · exact ⟨_, _, h5.2.2.1, h5.2.2.2.1, ok_BadDeeds F_BadDeeds Hl hP h5.2.2.2.2.2 h5.2.1.ox h5.2.2.2.2.1, F_BadDeeds.binds fun _ _ _ _ us hl => match us, hl with | [_, _], _ => rfl, kbS F_BadDeeds fun _ _ _ _ _ _ => rfl⟩
      · exact ⟨_, _, h5.2.2.1, h5.2.2.2.1, ok_BadJournal F_BadJournal Hl hP h5.2.2.2.2.2 h5.2.1.ox h5.2.2.2.2.1, F_BadJournal.binds fun _ _ _ _ us hl => match us, hl with | [_, _], _ => rfl, kbS F_BadJournal fun _ _ _ _ _ _ => rfl⟩
      · exact ⟨_, _, h5.2.2.1, h5.2.2.2.1, ok_BadLead F_BadLead Hl hP h5.2.2.2.2.2 h5.2.1.ox h5.2.2.2.2.1, F_BadLead.binds fun _ _ _ _ us hl => match us, hl with | [_, _], _ => rfl, kbS F_BadLead fun _ _ _ _ _ _ => rfl⟩
      · exact ⟨_, _, h5.2.2.1, h5.2.2.2.1, ok_BadLog F_BadLog Hl hP h5.2.2.2.2.2 h5.2.1.ox h5.2.2.2.2.1, F_BadLog.binds fun _ _ _ _ us hl => match us, hl with | [_, _], _ => rfl, kbS F_BadLog fun _ _ _ _ _ _ => rfl⟩
      · exact ⟨_, _, h5.2.2.1, h5.2.2.2.1, ok_BadNumber F_BadNumber Hl hP h5.2.2.2.2.2 h5.2.1.ox h5.2.2.2.2.1, F_BadNumber.binds fun _ _ _ _ us hl => match us, hl with | [_, _], _ => rfl, kbS F_BadNumber fun _ _ _ _ _ _ => rfl⟩
      · exact ⟨_, _, h5.2.2.1, h5.2.2.2.1, ok_BadProblem F_BadProblem Hl hP h5.2.2.2.2.2 h5.2.1.ox h5.2.2.2.2.1, F_BadProblem.binds fun _ _ _ _ us hl => match us, hl with | [_, _], _ => rfl, kbS F_BadProblem fun _ _ _ _ _ _ => rfl⟩
      · exact ⟨_, _, h5.2.2.1, h5.2.2.2.1, ok_BadProgram F_BadProgram Hl hP h5.2.2.2.2.2 h5.2.1.ox h5.2.2.2.2.1, F_BadProgram.binds fun _ _ _ _ us hl => match us, hl with | [_, _], _ => rfl, kbS F_BadProgram fun _ _ _ _ _ _ => rfl⟩
      · exact ⟨_, _, h5.2.2.1, h5.2.2.2.1, ok_BadSizes F_BadSizes Hl hP h5.2.2.2.2.2 h5.2.1.ox h5.2.2.2.2.1, F_BadSizes.binds fun _ _ _ _ us hl => match us, hl with | [_, _], _ => rfl, kbS F_BadSizes fun _ _ _ _ _ _ => rfl⟩
      · exact ⟨_, _, h5.2.2.1, h5.2.2.2.1, ok_BadTable F_BadTable Hl hP h5.2.2.2.2.2 h5.2.1.ox h5.2.2.2.2.1, F_BadTable.binds fun _ _ _ _ us hl => match us, hl with | [_, _], _ => rfl, kbS F_BadTable fun _ _ _ _ _ _ => rfl⟩
      · exact ⟨_, _, h5.2.2.1, h5.2.2.2.1, ok_BadText F_BadText Hl hP h5.2.2.2.2.2 h5.2.1.ox h5.2.2.2.2.1, F_BadText.binds fun _ _ _ _ us hl => match us, hl with | [_, _], _ => rfl, kbS F_BadText fun _ _ _ _ _ _ => rfl⟩
      · exact ⟨_, _, h5.2.2.1, h5.2.2.2.1, ok_BadWeb F_BadWeb Hl hP h5.2.2.2.2.2 h5.2.1.ox h5.2.2.2.2.1, F_BadWeb.binds fun _ _ _ _ us hl => match us, hl with | [_, _], _ => rfl, kbS F_BadWeb fun _ _ _ _ _ _ => rfl⟩
      · exact ⟨_, _, h5.2.2.1, h5.2.2.2.1, ok_BadWork F_BadWork Hl hP h5.2.2.2.2.2 h5.2.1.ox h5.2.2.2.2.1, F_BadWork.binds fun _ _ _ _ us hl => match us, hl with | [_, _], _ => rfl, kbS F_BadWork fun _ _ _ _ _ _ => rfl⟩
      · exact ⟨_, _, h5.2.2.1, h5.2.2.2.1, ok_CannotCome F_CannotCome Hl hP h5.2.2.2.2.2 h5.2.1.ox h5.2.2.2.2.1, F_CannotCome.binds fun _ _ _ _ us hl => match us, hl with | [_, _], _ => rfl, kbS F_CannotCome fun _ _ _ _ _ _ => rfl⟩
      · exact ⟨_, _, h5.2.2.1, h5.2.2.2.1, ok_TooMany F_TooMany Hl hP h5.2.2.2.2.2 h5.2.1.ox h5.2.2.2.2.1, F_TooMany.binds fun _ _ _ _ us hl => match us, hl with | [_, _], _ => rfl, kbS F_TooMany fun _ _ _ _ _ _ => rfl⟩
    }
  have G_begun : FnOk P w K mg base CX0 1 _ d__law_begun ["script"] (spBegun K) := ok_begun F__law_begun T
  have G_mixed : FnOk P w K mg base CX0 1 _ d__law_mixed ["draw"] spMixed := ok_mixed F__law_mixed T
  have G_take : FnOk P w K mg base CX0 2 _ d__law_take ["draw", "amount"] spTake := ok_take F__law_take T G_mixed g__law_mixed F__law_mixed.kp b__law_mixed
  have G_pick : FnOk P w K mg base CX0 3 _ d__law_pick ["draw", "some"] (spPick K) := ok_pick F__law_pick T G_take g__law_take F__law_take.kp b__law_take
  have G_any : FnOk P w K mg base CX0 4 _ d__law_any ["draw"] (spAny K) := ok_any F__law_any G_pick g__law_pick F__law_pick.kp b__law_pick
  have G_kinds : FnOk P w K mg base CX0 1 _ d__law_kinds ["error"] (spKinds K) := ok_kinds F__law_kinds T Y
  have G_plain : FnOk P w K mg base CX0 3 _ d__law_plain_errors ["words_here"] (spPlain K) := ok_plain F__law_plain_errors (Z 0)
  have G_of : FnOk P w K mg base CX0 4 _ d__law_errors_of ["each"] (spOf K) := ok_of F__law_errors_of W3
  exact ok_law F_law T Y (Z 3) iR.1 ⟨_, _, g__law_begun, F__law_begun.kp, G_begun.mono (by decide), b__law_begun⟩ ⟨_, _, g__law_pick, F__law_pick.kp, G_pick.mono (by decide), b__law_pick⟩ ⟨_, _, g__law_any, F__law_any.kp, G_any, b__law_any⟩
    ⟨_, _, g__law_errors_of, F__law_errors_of.kp, G_of, b__law_errors_of⟩ ⟨_, _, g__law_plain_errors, F__law_plain_errors.kp, G_plain.mono (by decide), b__law_plain_errors⟩ ⟨_, _, g__law_kinds, F__law_kinds.kp, G_kinds.mono (by decide), b__law_kinds⟩
end K00
open PySem PySem.W PySem.Calls PyProof.Rows
theorem PySem.Challenge.cw_roundwright_k00_errors_of_all_parts_holds : PySem.Challenge.rw_roundwright_k00_errors_of_all_parts.Holds := by
  w_on; o_law
  refine HandSHeadRun.head_any (r := OpenLaw.row PySem.Challenge.rw_roundwright_k00_errors_of_all_parts) (q := view (OpenLaw.row PySem.Challenge.rw_roundwright_k00_errors_of_all_parts).prog [52]) (H := K00.hk) (ob := K00.ob) (M := 20000) (loose := K00.loose1 ++ K00.loose2) (d := HandSHeadRun.topDef (OpenLaw.row PySem.Challenge.rw_roundwright_k00_errors_of_all_parts).prog 52) (kwd := []) K00.ob_eq
    (by kernel_rfl) (fun s => by kernel_rfl) K00.run (by kernel_rfl) (by kernel_rfl) (by kernel_rfl) (by rfl) (by first | assumption | decide +kernel) (by decide +kernel) ⟨rfl, rfl, rfl, rfl, rfl, by decide +kernel⟩ ?hw ?hc
  case hw => w_witness2
  case hc =>
    refine L2.walk_ofG (l := PySem.Challenge.rw_roundwright_k00_errors_of_all_parts) (n := 63) (k := 6) (x := "script") (CX := L2.CX0) rfl (by decide) (by kernel_rfl) ⟨rfl, by decide, by decide⟩ ?F (fun _ _ _ _ z => z)
    intro w mg fa h Y G hmg0
    obtain ⟨K, KX, c⟩ := Y
    have hmg : mg ("law" : PySem.Str) = some (.ref fa) := by
      have e : (HandSHeadRun.topDef (OpenLaw.row PySem.Challenge.rw_roundwright_k00_errors_of_all_parts).prog 52).name = ("law" : PySem.Str) := by kernel_rfl
      rw [← e]
      exact hmg0
    obtain ⟨fd, hb, hF⟩ := K00.facts (P := (PySem.Challenge.rw_roundwright_k00_errors_of_all_parts).prog) (w := w) KX G hmg c ⟨by kernel_rfl, by kernel_rfl⟩
    exact ⟨K, fd, K00.spLaw K, KX, hb, fun H a ns hl _ hS => ⟨a, ns, rfl, hS, hl, fun _ => rfl⟩, hF⟩
#print axioms PySem.Challenge.cw_roundwright_k00_errors_of_all_parts_holds
