import PyProof.Rows.All
import Wide.All
import OpenK.AllK
import Wide.FinOn
import HandS.ForExc
import HandS.ExcInit
import HandS.ExcIs
import HandS.IsInst
import HandS.Defaults
import HandS.MakeKw
import HandS.ClsMeth
import HandS.HeadEnd
import PyProof.ReprRoads
import KE.KStateDown
import Lean
import HandS.Head0
import HandS.Head1
import HandS.Head2
import HandS.HeadHook1
import HandS.HeadHook2
import HandS.HeadHook4
import HandS.Lambda
import HandS.EndTab
import HandS.NestedK
import HandS.SetFor
import HandS.Zip
import HandS.FStr
import HandS.TupLe
import PyProof.ReprLen
import HandS.OwnEq
import HandS.Nested
import KE.KSuper
import HandS.TupAny
import PySem.Challenge.RW_roundwright_k04_nets_and_windows
import HandS.ForMost
import HandS.Conv
set_option Elab.async false
set_option linter.all false
set_option maxRecDepth 100000
set_option maxHeartbeats 4000000
namespace PySem
namespace EX1
open PySem.W PySem.Calls PyProof.Rows PySem.HandSPX
open Builtin Builtin.ObjectAttr
section
variable {M : Model} {A : Around} {E : Value → Shared → Prop} {h : Heap} {g : Array GenState} {d : Drawn} {t : Nat} {os : OsState}
variable {nm q : Str} {C N : Addr} {bs bm bmB : List Value} {hdct : Bool} {sn : List Str} {sub : List Value} {ab : Bool} {col : Option Bool} {dd : Option Addr} {k0 k1 k2 k3 k5 : Option Value} {B newId initId : String} {kw : List (Str × Value)}
theorem check_new_kw (F : ExcBaseFacts B newId initId bmB) (hT : ∀ X : String, bm.contains (.type X) = bmB.contains (.type X)) {rest : List Value} {Q : Unit → Shared → Prop}
    (hC : h.get? C = some (excClassObj nm q C N bs bm hdct sn sub ab col dd k0 k1 k2 k3 k5 newId)) (hq : Q () ⟨h, g, d, t, os⟩) : wpAny M A (checkBuiltinCall newId ⟨.ref C :: rest, kw⟩) Q E ⟨h, g, d, t, os⟩ := by
  have hcont : (Value.ref C :: bm).contains (.type B) = true := by rw [List.contains_cons, hT, F.hasB, Bool.or_true]
  have hstar := F.noStar
  simp only [checkBuiltinCall, F.newKind, F.newSplit, F.newRow]
  repeat (first | refine wpAny_loadPart_at hC ?_ | (refine wpAny_isSubtype_exc hC ?_; rw [hcont]) | refine wpAny_staticBase_exc hC ?_ | refine wpAny_madeBy_exc hC ?_ | simp only [bne_self_eq_false, Bool.false_eq_true, if_false] | wp_step)
  exact hq
end
section
variable {prog : Program} {w : World} {A : Around} {E : Value → Shared → Prop} {R : Result → Shared → Prop} {h : Heap} {g : Array GenState} {d : Drawn} {t : Nat} {os : OsState}
variable {nm q : Str} {C N : Addr} {bs bm bmB : List Value} {hdct : Bool} {sn : List Str} {sub : List Value} {ab : Bool} {col : Option Bool} {dd : Option Addr} {k0 k1 k2 k3 k5 : Option Value} {B newId initId : String} {kw : List (Str × Value)}
theorem new_kw (F : ExcBaseFacts B newId initId bmB) (hT : ∀ X : String, bm.contains (.type X) = bmB.contains (.type X)) {rest : List Value}
    (hC : h.get? C = some (excClassObj nm q C N bs bm hdct sn sub ab col dd k0 k1 k2 k3 k5 newId))
    (hq : R (.ok (.ret (.ref (h.objs.size + 1)))) ⟨(h.push { cls := .type "tuple", data := .seq rest.toArray }).push
      { cls := .ref C, data := .fields #[.ref h.objs.size, .none, .none, .none, .bool false, .none] }, g, d, t, os⟩) (hrest : rest.length ≤ sizeLine) :
    codeAny (model prog w) A (.builtin newId ⟨.ref C :: rest, kw⟩) R ⟨h, g, d, t, os⟩ := by
  have hends := F.ends
  have hcB : (Value.ref C :: bm).contains (.type B) = true := by rw [List.contains_cons, hT, F.hasB, Bool.or_true]
  have hcA : (Value.ref C :: bm).contains (.type "AttributeError") = false := by rw [List.contains_cons, hT, F.noAttr]; rfl
  have hcN : (Value.ref C :: bm).contains (.type "NameError") = false := by rw [List.contains_cons, hT, F.noName]; rfl
  refine codeAny_builtinAt F.entry ?_
  unfold Builtin.«BaseException.__new__»
  refine wpAt_bind ?_
  show wpAt _ _ _ (stack >>= _) _ _ _
  refine wpAt_bind (wpAt_stack fun p below => wpAt_of_wpAny ?_)
  wp_walk
  refine wpAt_of_wpAny ?_
  rw [F.owner]
  repeat (first | with_reducible refine wpAny_madeHere_exc F.canon hC ?_ | with_reducible refine wpAny_loadPart_at hC ?_ | (with_reducible refine wpAny_isSubtype_exc hC ?_; first | rw [hcB] | rw [hcA] | rw [hcN]) | wp_step)
  show R _ _
  rw [Heap.size_push]
  exact hq

theorem type_call_kw (F : ExcBaseFacts B newId initId bmB) (hT : ∀ X : String, bm.contains (.type X) = bmB.contains (.type X)) {rest : List Value} {fI : Addr} {Q : Fin → Shared → Prop}
    (hC : h.get? C = some (excClassObj nm q C N bs bm hdct sn sub ab col dd k0 k1 k2 k3 k5 newId))
    (hi : W.Looks (model prog w) h (typeLookup (.ref C) "__init__") (some (.ref fI))) (hb : ∀ self, W.Looks (model prog w) h (bindSpecial (.ref fI) self) (.ref fI, [self])) (hrest : rest.length ≤ sizeLine)
    (hq : codeAny (model prog w) A (.call (.ref fI) ⟨.ref (h.objs.size + 1) :: rest, kw⟩)
      (fun r s' => match r with | .ok (.ret v) => v = .none ∧ Q (.done (.ret (.ref (h.objs.size + 1)))) s' | .ok _ => False | .error e => E e s')
      ⟨(h.push (W.kdv_tup rest)).push (excO C h.objs.size), g, d, t, os⟩) :
    wpAny (model prog w) A (Builtin.«type.__call__» ⟨.ref C :: rest, kw⟩) Q E ⟨h, g, d, t, os⟩ := by
  repeat (first | with_reducible refine wpAny_loadPart_at hC ?_ | with_reducible refine wpAny_madeBy_exc hC ?_ | wp_step)
  refine codeAny_call_builtin_code (Code.quiet_builtin _ F.quiet) (check_new_kw F hT hC ?_)
  refine new_kw F hT hC ?_ hrest
  show wpAny _ _ _ _ _ _
  have k : ∀ b o, h.get? b = some o → ((h.push (W.kdv_tup rest)).push (excO C h.objs.size)).get? b = some o := fun b o e => Heap.get?_push_of_some _ (Heap.get?_push_of_some _ e)
  have hC₁ := k _ _ hC
  have hget : ((h.push (W.kdv_tup rest)).push (excO C h.objs.size)).get? (h.objs.size + 1) = some (excO C h.objs.size) := by heap_get
  have hcC : (Value.ref C :: bm).contains (.ref C) = true := by simp
  have i1 := hi.keeps k
  have b1 := (hb (.ref (h.objs.size + 1))).keeps k
  unfold isInstance
  repeat (first | with_reducible refine wpAny_loadPart_at hget ?_ | (with_reducible refine wpAny_isSubtype_exc hC₁ ?_; rw [hcC]) | wp_step)
  show wpAny _ _ (typeLookup (.ref C) _) _ _ _
  refine i1.at ?_
  refine wpAny_holding (wpAny_bind (b1.at ?_))
  refine wpAny_bind (wpAny_call (codeAny_mono hq fun r s' z => ?_))
  rcases r with e | (v | _ | _ | _) <;> first | exact z | exact z.elim | skip
  obtain ⟨rfl, z⟩ := z
  first
    | exact wpAny_pure (wpAny_pure z)
    | (wp_walk; exact z)

theorem call_kw (F : ExcBaseFacts B newId initId bmB) (hT : ∀ X : String, bm.contains (.type X) = bmB.contains (.type X)) {rest : List Value} {fI : Addr}
    (hC : h.get? C = some (excClassObj nm q C N bs bm hdct sn sub ab col dd k0 k1 k2 k3 k5 newId))
    (hi : W.Looks (model prog w) h (typeLookup (.ref C) "__init__") (some (.ref fI))) (hb : ∀ self, W.Looks (model prog w) h (bindSpecial (.ref fI) self) (.ref fI, [self])) (hrest : rest.length ≤ sizeLine)
    (hq : codeAny (model prog w) (A.under (.builtin "type.__call__" ⟨.ref C :: rest, kw⟩)) (.call (.ref fI) ⟨.ref (h.objs.size + 1) :: rest, kw⟩) (W.InitBack (h.objs.size + 1) R)
      ⟨(h.push (W.kdv_tup rest)).push (excO C h.objs.size), g, d, t, os⟩) :
    codeAny (model prog w) A (.call (.ref C) ⟨rest, kw⟩) R ⟨h, g, d, t, os⟩ := by
  have f1 := tc_lookup
  have f2 := tc_bind (.ref C)
  have hTy : (⟨h, g, d, t, os⟩ : Shared).TypeIs (.ref C) "type" := ⟨_, hC, rfl⟩
  refine codeAny_of_tree ?_
  show wpAny _ _ (callAny (.ref C) _) _ _ _
  repeat (any_goals (first | assumption | with_reducible refine wpAny_loadPart_at hC ?_ | wp_step))
  refine ⟨rfl, ?_⟩
  refine codeAny_call_builtin_at (Code.quiet_builtin _ (by decide +kernel)) entry_typeCall (wpAny_check_type_call_sub hC (type_call_kw F hT hC hi hb hrest ?_))
  refine codeAny_mono hq fun r s' z => ?_
  rcases r with e | (v | _ | _ | _) <;> exact z
end
end EX1
end PySem

namespace L2
open PySem PySem.Spec PyProof.Rows
/-! ### an own exception as a value -/
/-- C(e, .., k = v, ..), C's own (or inherited) __init__ keeping sp: what stands at a is an exception of C -/
def tMkE (C : Addr) (sp : Sp) (gV : List V → List V → List V) (ta tk : TA) : TE := fun σ H Q => ta σ H fun vs H1 => tk σ H1 fun zs H2 => vs.length ≤ 1000 ∧ ∀ a, H2 a = none → sp (gV (.ref a :: vs) zs) (upd H2 a (exo a C none)) (fun v H3 => v = .non ∧ Q (.ref a) H3) (fun _ _ _ => False)
section
variable {X : Cx} {CX : CXT} {C fI : Addr} {k : Nat} {fd : FuncData} {ps : List Str} {sp : Sp} {x : Str} {p pos : Pos} {e : Expr} {es : List Expr} {kws : List Keyword} {ta tk : TA}
theorem run_mkE {pins : List (Addr × Obj)} {σ : St} {H : Hp} {s : Shared} {Q : VK} {us ws : List Value} {vs zs : List V} {ks : List Str} {g : List Value → List Value → List Value} {gV : List V → List V → List V}
    (T : OexC X.K C) (iC : PySem.W.findIn X.K (.ref C) "__init__" = some (some (.ref fI))) (tI : PySem.W.typeIn X.K (.ref fI) = some (.type "function"))
    (F1 : FnOk X.prog X.w X.K X.mg X.base CX k fI fd ps sp) (hr : Room (k + 1) X.A) (hx : Passes CX X (fun _ _ _ => False))
    (hbt : ∀ (s : Shared) (a : Addr), X.K.In s.heap → BindsTo s fd ⟨.ref a :: us, ks.zip ws⟩ (ps.zip (g (.ref a :: us) ws)))
    (hrel : ∀ a : Addr, Vals (gV (.ref a :: vs) zs) (g (.ref a :: us) ws))
    (I : Inv X pins σ H s) (r : Vals vs us) (hz : vs.length ≤ 1000)
    (h : ∀ a, H a = none → sp (gV (.ref a :: vs) zs) (upd H a (exo a C none)) (fun v H2 => v = .non ∧ Q (.ref a) H2) (fun _ _ _ => False)) :
    wpAny (model X.prog X.w) X.A (call (.ref C) us (ks.zip ws)) (EP X pins σ Q) X.xe s := by
  obtain ⟨nm, q, N, bs, bm, sn, sub, ab, col, dd, k0, k1, k2, k3, k5, hC, hbm⟩ := T.cls
  obtain ⟨hp, gg, dr, tk, os⟩ := s
  have hsz : hp.objs.size ≤ hp.objs.size + 1 := Nat.le_succ _
  have hn : H (hp.objs.size + 1) = none := I.hok.fresh hsz
  have hq := h (hp.objs.size + 1) hn
  have kk : ∀ b o, hp.get? b = some o → ((hp.push (PySem.W.kdv_tup us)).push (PySem.HandSPX.excO C hp.objs.size)).get? b = some o := fun b o e => Heap.get?_push_of_some _ (Heap.get?_push_of_some _ e)
  have hget : ((hp.push (PySem.W.kdv_tup us)).push (PySem.HandSPX.excO C hp.objs.size)).get? (hp.objs.size + 1) = some (PySem.HandSPX.excO C hp.objs.size) := by heap_get
  have I2 : Inv X pins σ (upd H (hp.objs.size + 1) (exo (hp.objs.size + 1) C none)) ⟨(hp.push (PySem.W.kdv_tup us)).push (PySem.HandSPX.excO C hp.objs.size), gg, dr, tk, os⟩ :=
    I.laid (t' := tk) (a := hp.objs.size + 1) (o := exo (hp.objs.size + 1) C none) (h' := (hp.push (PySem.W.kdv_tup us)).push (PySem.HandSPX.excO C hp.objs.size)) kk hsz (exo_ok hget)
  have r2 := hrel (hp.objs.size + 1)
  have hus : us.length ≤ sizeLine := by
    rw [← Paired.length r, sizeLine_eq]
    omega
  refine wpAny_call (PySem.EX1.call_kw F.excBase_ValueError (fun Y => PySem.HandSPX.refsVE_contains Y bm hbm) (I.kIn _ _ hC) (PySem.W.looks_findIn I.kIn iC) (fun self => PySem.W.bind_fn I.kIn self tI) hus
    (codeAny_mono (F1.run _ X.stack _ _ ⟨Value.ref (hp.objs.size + 1) :: us, ks.zip ws⟩ (g (Value.ref (hp.objs.size + 1) :: us) ws) _ _ (fun _ _ _ => False) (hr.make C us (ks.zip ws)) (I2.env0.make C us (ks.zip ws)) (hbt _ _ I2.kIn) r2 hq) fun r s' hq' => ?_))
  cases r with
  | error er => exact hx pins σ _ _ er s' I2 hq'
  | ok fl =>
    cases fl with
    | ret u =>
      obtain ⟨v, H', I3, rv, ev, q3⟩ := I2.after hq'
      subst ev
      exact ⟨rv, ⟨V.ref (hp.objs.size + 1), H', I3, rfl, q3⟩⟩
    | next => exact False.elim hq'
    | brk => exact False.elim hq'
    | cont => exact False.elim hq'
/-- C(e, ..) -/
theorem pe_mkE {ds : List Value} {dvs : List V} (T : OexC X.K C) (iC : PySem.W.findIn X.K (.ref C) "__init__" = some (some (.ref fI))) (tI : PySem.W.typeIn X.K (.ref fI) = some (.type "function"))
    (F1 : FnOk X.prog X.w X.K X.mg X.base CX k fI fd ps sp) (hr : Room (k + 1) X.A) (hb : Binds X.K fd ps ds) (hd : Vals dvs ds) (hx : Passes CX X (fun _ _ _ => False)) (hg : Gl X x) (hm : X.mg x = some (.ref C)) (ha : PA X (e :: es) ta)
    (hdb : (x == ("__debug__" : Str)) = false := by decide) (he : starEach (e :: es) X.env = (false, eval e X.env) :: starEach es X.env := by rfl) (hpl : (backTo pos (starEach es X.env)).any (·.1) = false := by rfl) :
    PE X (.Call (.Name x p) (e :: es) [] pos) (tMkE C sp (fun vs _ => vs ++ dvs) ta tNil) := by
  refine ⟨fun pins s σ H Q I h => ?_⟩
  refine wpAny_Call_Name_kw (ld_glob I hg hm ?_ hdb)
  refine PySem.W.callWith_K (h₀ := X.base) I.ok.mod.kin T.kC (thn (ha.run pos pins s σ H _ I h) fun us s1 ⟨vs, H1, I1, r1, hz, q1⟩ => ⟨I1.kIn, ?_⟩) he hpl
  have lz : ∀ a : Addr, (Value.ref a :: us ++ ds).length = ps.length := fun a => by
    have hn : H1 (s1.heap.objs.size) = none := I1.hok.fresh (Nat.le_refl _)
    have e := F1.len _ _ _ _ (q1 _ hn)
    have e2 : ((V.ref (s1.heap.objs.size) :: vs) ++ dvs).length = (Value.ref a :: us ++ ds).length := by
      simp only [List.cons_append, List.length_cons, List.length_append]
      rw [r1.length, hd.length]
    rw [← e2]
    exact e
  exact run_mkE (ks := []) (ws := []) (zs := []) (g := fun us _ => us ++ ds) (gV := fun vs _ => vs ++ dvs) T iC tI F1 hr hx
    (fun s a X => hb s (.ref a :: us) X (lz a)) (fun a => Vals.append (.cons rfl r1) hd) I1 r1 hz q1
/-- C(k = e) -/
theorem pe_mkEk {ks : List Str} {g : List Value → List Value → List Value} {gV : List V → List V → List V} (T : OexC X.K C) (iC : PySem.W.findIn X.K (.ref C) "__init__" = some (some (.ref fI))) (tI : PySem.W.typeIn X.K (.ref fI) = some (.type "function"))
    (F1 : FnOk X.prog X.w X.K X.mg X.base CX k fI fd ps sp) (hr : Room (k + 1) X.A) (hb : KBn X.K fd ps 1 ks g gV) (hx : Passes CX X (fun _ _ _ => False)) (hg : Gl X x) (hm : X.mg x = some (.ref C)) (hkw : PK X kws tk)
    (hall : (backToKw pos (keywordEach kws X.env)).all (·.1.isSome) = true := by rfl) (hks : (backToKw pos (keywordEach kws X.env)).filterMap (·.1) = ks := by rfl) (hdb : (x == ("__debug__" : Str)) = false := by decide)
    (hpl : ((backTo pos (starEach [] X.env)).any (·.1) || (backToKw pos (keywordEach kws X.env)).any (·.1.isNone)) = false := by rfl) (hkl : kws.length = ks.length := by rfl) :
    PE X (.Call (.Name x p) [] kws pos) (fun σ H Q => tk σ H fun zs H2 => zs.length = ks.length ∧ ∀ a, H2 a = none → sp (gV [.ref a] zs) (upd H2 a (exo a C none)) (fun v H3 => v = .non ∧ Q (.ref a) H3) (fun _ _ _ => False)) := by
  refine ⟨fun pins s σ H Q I h => ?_⟩
  refine wpAny_Call_Name_kw (ld_glob I hg hm ?_ hdb)
  refine PySem.W.callWith_KW0 (h₀ := X.base) I.ok.mod.kin T.kC hall ?_ hpl
  refine thn (hkw.run pos pins s σ H _ I h) fun ws s2 ⟨zs, H2, I2, rz, l2, q2⟩ => ⟨I2.kIn, ?_⟩
  rw [hks]
  exact run_mkE (us := []) (vs := []) (g := g) (gV := gV) T iC tI F1 hr hx (fun s a X => hb.to s [.ref a] ws X rfl (rz.length.symm.trans l2)) (fun a => hb.rel (.cons rfl .nil) rz) I2 .nil (by decide) q2
end
end L2

set_option maxHeartbeats 4000000
namespace PySem.W
open PySem PySem.Spec PySem.Calls PyProof.Rows
section
variable {prog : Program} {w : World} {A : Around} {E : Value → Shared → Prop} {s : Shared} {K : Frag} {x D : Addr} {ox : Obj} {od : Option Obj}
theorem findObj_dataO {C : Addr} {name : Str} {a g : Value} (hc : (clsIn K C).isSome = true) (ha : findIn K (.ref C) name = some (some a)) (hg : specialIn K a "__get__" = some (some g)) (ht : takesIn K a = some true) : findObj K C od name = some (.bind g a) := by
  obtain ⟨cd, hc⟩ := Option.isSome_iff_exists.mp hc
  unfold findObj
  rw [hc, Option.bind_some, ha, Option.bind_some]
  simp [hg, ht]
theorem kin_classO {Q : Option Value → Shared → Prop} (hga : findIn K (.ref D) "__getattribute__" = some (some (.builtin "BaseException.__getattribute__"))) (hgt : findIn K (.ref D) "__getattr__" = some none) (hsub : subIn K (.ref D) (.type "BaseException") = some true)
    (hdct : hasDictIn K D = true) (ha : findIn K (.ref D) "__class__" = some (some (.builtin "object.__class__")))
    (hn : specialIn K (.builtin "object.__class__") "__get__" = some (some (.builtin "getset_descriptor.__get__"))) (htk : takesIn K (.builtin "object.__class__") = some true) (hm : mroIn K D (.type "object") = some true)
    (X : K.In s.heap) (I : InstAt s.heap x ox D od) (h : Q (some (.ref D)) { s with toks := s.toks + 1 }) : wpAny (model prog w) A (getAttr? (.ref x) "__class__") Q E s := by
  have hf : findObj K D od "__class__" = some (.bind (.builtin "getset_descriptor.__get__") (.builtin "object.__class__")) := findObj_dataO (by obtain ⟨cd, hc, _⟩ := any_some hdct; rw [hc]; rfl) ha hn htk
  obtain ⟨hp, g, d, t, os⟩ := s
  have L0 := I.type (M := model prog w)
  have L1 := looks_findIn (M := model prog w) X hga
  have L2 := looks_findIn (M := model prog w) X hgt
  have L3 := looks_find (M := model prog w) X I hf
  have sub : Looks (model prog w) hp (isInstance (.ref x) (.type "BaseException")) true := L0.andThen (looks_subIn X hsub)
  have hx0 : (false && onTheHeap (Value.builtin "BaseException.__getattribute__")) = false := rfl
  have hx2 : (Value.builtin "BaseException.__getattribute__" == Value.builtin "object.__getattribute__") = false := by decide +kernel
  have hx1 : (onTheHeap (Value.ref D) && Value.builtin "BaseException.__getattribute__" == Value.builtin "object.__getattribute__") = false := by rw [hx2]; rfl
  unfold getAttr? getAttrBy? getAttrBy
  refine wpAny_bind (wpAny_mkText (wpAny_bind (wpAny_attempt (wpAny_holding (wpAny_bind (L0.at (wpAny_bind (L1.at ?_))))))))
  show wpAny _ _ (if (onTheHeap (Value.ref D) && Value.builtin "BaseException.__getattribute__" == Value.builtin "object.__getattribute__") = true then _ else _) _ _ _
  rw [hx1, if_neg Bool.false_ne_true]
  unfold getAttrByItsOwn hookBefore
  refine wpAny_bind ?_
  rw [if_pos (show onTheHeap (Value.ref D) = true from rfl)]
  refine L2.at ?_
  refine wpAny_bind (wpAny_attempt (wpAny_holding ?_))
  unfold callGetattribute
  rw [hx0, if_neg Bool.false_ne_true]
  unfold boundAndCalled
  rw [PySem.F.excAttr_ValueError.ga.bind (.ref x)]
  refine wpAny_bind (wpAny_pure ?_)
  show wpAny _ _ (call (.builtin "BaseException.__getattribute__") [.ref x, .str "__class__" t]) _ _ _
  refine wpAny_call (codeAny_call_builtin PySem.F.excAttr_ValueError.ga.plain PySem.F.entry_bexc_ga ?_)
  refine @check_slot (model prog w) _ _ ⟨hp, g, d, t + 1, os⟩ "BaseException.__getattribute__" "BaseException" "__getattribute__" (.ref x) [.str "__class__" t] [] _ (by decide +kernel) (by decide +kernel) sub (PySem.F.args_bexc_ga (.ref x) (.str "__class__" t)) ?_
  unfold Builtin.«object.__getattribute__»
  refine wpAny_bind (wpAny_of_eq (a := ((Value.ref x : Value), [Value.str "__class__" t])) (by first | rfl | (simp only [slotArgs]; rfl)) ?_)
  refine wpAny_bind (wpAny_pure (wpAny_bind (L0.at (wpAny_bind (L3.at ?_)))))
  show wpAny _ _ (holding [Value.builtin "object.__class__"] (call (.builtin "getset_descriptor.__get__") [.builtin "object.__class__", .ref x, .ref D]) >>= ret) _ _ _
  refine wpAny_bind (wpAny_holding (wpAny_call (class_get (s := ⟨hp, g, d, t + 1, os⟩) (ox := ox) (od := od) X I hm ?_)))
  refine wpAny_pure ?_
  show wpAny _ _ (handedOut (.ref D)) _ _ _
  rw [handedOut_of (v := .ref D) rfl]
  first
    | exact wpAny_pure (wpAny_pure h)
    | exact wpAny_pure h
    | exact wpAny_pure (wpAny_bind (wpAny_pure (wpAny_pure h)))
theorem kitx_excO (hga : findIn K (.ref D) "__getattribute__" = some (some (.builtin "BaseException.__getattribute__"))) (hgt : findIn K (.ref D) "__getattr__" = some none) (hsub : subIn K (.ref D) (.type "BaseException") = some true) (hdct : hasDictIn K D = true) (ha : findIn K (.ref D) "__class__" = some (some (.builtin "object.__class__")))
    (hn : specialIn K (.builtin "object.__class__") "__get__" = some (some (.builtin "getset_descriptor.__get__"))) (htk : takesIn K (.builtin "object.__class__") = some true) (hm : mroIn K D (.type "object") = some true) :
    KitX K (.ref x) (.ref D) (fun h => InstAt h x ox D od) where
  ty := fun _ _ _ I => I.type
  it := fun _ _ X _ => by
    obtain ⟨cdD, hcD, _⟩ := any_some hdct
    unfold clsIn at hcD
    split at hcD
    · rename_i c' d' cd' sl' ho
      intro A' Q' E' s' k q
      unfold isType loadHead
      exact wpAny_bind (wpAny_loadPart (k _ _ (X _ _ ho)) (wpAny_pure q))
    · cases hcD
  ne := fun h tp dd its n sl X htp => by
    obtain ⟨cdD, hcD, _⟩ := any_some hdct
    refine Bool.eq_false_iff.mpr fun q => ?_
    have e : D = tp := Value.ref.inj (beq_iff_eq.mp q)
    subst e
    unfold clsIn at hcD
    split at hcD
    · rename_i c' d' cd' sl' ho
      have z := (X _ _ ho).symm.trans htp
      cases z
    · cases hcD
  ca := fun X I k => kin_classO hga hgt hsub hdct ha hn htk hm X I k
end
end PySem.W
namespace L2
open PySem PySem.Spec PyProof.Rows
/-- isinstance(e, c), e an exception that is held as a value -/
def rIsV (K : PySem.W.Frag) : List V → Hp → VK → Prop := fun xs H Q => ∃ (a C : Addr) (d : Option Addr) (c : V) (u : Value) (b : Bool), xs = [.ref a, c] ∧ H a = some (exo a C d) ∧ (∀ dd, d = some dd → ∃ fs, H dd = some (exd dd fs)) ∧ ExcC K C ∧ ClsV c u ∧ PySem.W.kitOne K (.ref C) u = some b ∧ Q (.bl b) H
section
variable {X : Cx} {pins : List (Addr × Obj)} {σ : St} {H : Hp} {s : Shared} {a C : Addr} {d : Option Addr}
theorem exo_inst (I : Inv X pins σ H s) (e : H a = some (exo a C d)) (hd : ∀ dd, d = some dd → ∃ fs, H dd = some (exd dd fs)) : ∃ ox od, PySem.W.InstAt s.heap a ox C od := by
  obtain ⟨t1, ho⟩ := exo_at I.hok e
  cases d with
  | none => exact ⟨_, none, ho, rfl, rfl, trivial⟩
  | some dd =>
    obtain ⟨fs, ed⟩ := hd dd rfl
    obtain ⟨mA, ⟨od, _, _, hoD, _⟩, _⟩ := exd_at I.hok ed
    exact ⟨_, some od, ho, rfl, rfl, hoD⟩
theorem call_isV : CallR X (.builtin "isinstance") (rIsV X.K) := by
  intro pins s σ H xs us Q I r h
  obtain ⟨a, C, d, c, u, b, rfl, ha, hd, T, k, e, q⟩ := h
  obtain ⟨u1, u2, rfl, r1, r2⟩ := vals2 r
  cases (show u1 = Value.ref a from r1)
  have e2 := k.eq r2
  subst e2
  obtain ⟨ox, od, J⟩ := exo_inst I ha hd
  exact PySem.W.kia_one (PySem.W.kitx_excO T.hg T.hk T.hs T.hd T.ha T.hn T.ht T.hm) I.kIn J e (fun z => nomatch z) fun tk => ⟨.bl b, H, I.tok tk, rfl, q⟩
end
/-- e.n, e an exception that is held as a value, with its dict -/
def tExf (K : PySem.W.Frag) (n : Str) (te : TE) : TE := fun σ H Q => te σ H fun x H1 => ∃ (a C d : Addr) (fs : List (Str × V)) (v : V), x = .ref a ∧ ExcC K C ∧ PySem.W.findIn K (.ref C) n = some none ∧ H1 a = some (exo a C (some d)) ∧ H1 d = some (exd d fs) ∧ fs.lookup n = some v ∧ Q v H1
section
variable {X : Cx} {e : Expr} {n : Str} {te : TE} {pos : Pos}
theorem pe_exf (he : PE X e te) (hb : attributeBase e n X.env (eval e X.env) = eval e X.env := by rfl) : PE X (.Attribute e n pos) (tExf X.K n te) := by
  refine ⟨fun pins s σ H Q I h => ?_⟩
  refine attr_of hb (thn (he.run pins s σ H _ I h) fun u s1 hh => ?_)
  obtain ⟨x, H1, I1, rx, a, C, d, fs, v, ex, T, hno, ea, ed, hv, q⟩ := hh
  subst ex
  obtain rfl : u = Value.ref a := rx
  obtain ⟨t1, ho⟩ := exo_at I1.hok ea
  obtain ⟨mA, hns, hr⟩ := exd_at I1.hok ed
  obtain ⟨od, hod, hl⟩ := lookIn_ns hns
  obtain ⟨u, hu, ru⟩ := RelO.some_of (v := v) (o := mA n) (by rw [← hv]; exact hr n)
  have J : PySem.W.InstAt s1.heap a _ C (some od) := ⟨ho, rfl, rfl, hod⟩
  exact HandSPX.exc_get I1.kIn J T.hg T.hk T.hs (PySem.W.findObj_own T.hd hno rfl (by rw [hl, hu])) (handed_of ru) ⟨v, H1, I1.tok _, ru, q⟩
end
/-- C.m(e, ..), C a class of one's own, m a plain def of it: called as it stands -/
structure CDef (K : PySem.W.Frag) (C : Addr) (mc : Value) (m : Str) (f : Addr) : Prop where
  rd : ClX.CRead K C mc
  at_ : PySem.W.findCls K (.ref C) mc m = some (.val (.ref f))
  kp : PySem.W.keepIn K (.ref f) = true
section
variable {X : Cx} {CX : CXT} {k : Nat} {C f : Addr} {mc : Value} {fd : FuncData} {ps : List Str} {sp : Sp} {E : XK} {o e : Expr} {es : List Expr} {m : Str} {pos apos : Pos} {t : TA} {pl : Sem Bool} {ds : List Value} {dvs : List V}
theorem pe_cdef (he : PE X o (tC (.ref C))) (c : CDef X.K C mc m f) (F : FnOk X.prog X.w X.K X.mg X.base CX k f fd ps sp) (hr : Room k X.A) (hb : Binds X.K fd ps ds) (hd : Vals dvs ds) (hx : Passes CX X E) (ha : PA X (e :: es) t)
    (hst : starEach (e :: es) X.env = (false, eval e X.env) :: starEach es X.env := by rfl) (hpl : (backTo pos (starEach es X.env)).any (·.1) = false := by rfl)
    (ht : eval (.Call (.Attribute o m apos) (e :: es) [] pos) X.env = (do
      let ov ← eval o X.env
      standAt apos.atName
      let (f, first) ← holding [ov] (getMethod ov m pl)
      callWith pos f first (backTo pos (starEach (e :: es) X.env)) (backToKw pos (keywordEach [] X.env))) := by rfl) :
    PE X (.Call (.Attribute o m apos) (e :: es) [] pos) (tCall sp dvs E t) := by
  refine ⟨fun pins s σ H Q I h => ?_⟩
  refine PySem.W.methodCall_KW (pl := pl) (thn (he.run pins s σ H (fun v H1 => v = .ref C ∧ H1 = H) I ⟨rfl, rfl⟩) fun u s1 ⟨x, H1, I1, rx, ex, eh⟩ => ?_) ht
  subst ex eh
  obtain rfl : u = Value.ref C := rx
  refine PySem.W.method_cls I1.kIn c.rd.ga (PySem.W.cls_value I1.kIn c.rd.rd c.at_ rfl ?_)
  refine PySem.W.callWith_K (h₀ := X.base) (first := []) I1.ok.mod.kin c.kp (thn (ha.run pos pins _ σ H1 _ (I1.tok _) h) fun us s3 ⟨vs, H2, I3, rv, q2⟩ => ⟨I3.kIn, ?_⟩) hst hpl
  exact run_fn F hr hb hd hx I3 rv q2
end
end L2
#print axioms L2.pe_cdef
#print axioms L2.call_isV
#print axioms L2.pe_exf

set_option maxHeartbeats 4000000
namespace L2
open PySem PySem.Spec PyProof.Rows
/-! ### data with dicts, and repr of it -/
def SysIn (K : PySem.W.Frag) : Prop := ∃ c d es n sl, K.lookup sysModules = some ⟨c, d, .dict es n, sl⟩
def keyD : Key → PyData
  | .inl i => .int i
  | .inr x => .str x
mutual
inductive Dq (K : PySem.W.Frag) (H : Hp) : V → PyData → Prop
  | non : Dq K H .non .none
  | bl (b : Bool) : Dq K H (.bl b) (.bool b)
  | int (i : Int) : Dq K H (.int i) (.int i)
  | str (x : Str) : Dq K H (.str x) (.str x)
  | lst {a : Addr} {xs : List V} {ds : List PyData} : SqL K H a xs → DqAll K H xs ds → Dq K H (.ref a) (.list ds)
  | tup {a : Addr} {xs : List V} {ds : List PyData} : SqT K H a xs → DqAll K H xs ds → Dq K H (.ref a) (.tuple ds)
  | dic {a : Addr} {kvs : List (Key × V)} {ds : List PyData} : H a = some (.dK kvs) → DqAll K H (kvs.map (·.2)) ds → Dq K H (.ref a) (.dict ((kvs.map fun p => keyD p.1).zip ds))
inductive DqAll (K : PySem.W.Frag) (H : Hp) : List V → List PyData → Prop
  | nil : DqAll K H [] []
  | cons {v : V} {vs : List V} {d : PyData} {ds : List PyData} : Dq K H v d → DqAll K H vs ds → DqAll K H (v :: vs) (d :: ds)
end
theorem DqAll.length {K : PySem.W.Frag} {H : Hp} : ∀ {vs : List V} {ds : List PyData}, DqAll K H vs ds → vs.length = ds.length
  | _, _, .nil => rfl
  | _, _, .cons _ t => congrArg Nat.succ t.length
section
variable {X : Cx} {pins : List (Addr × Obj)} {σ : St} {H : Hp} {s : Shared}
theorem keys_reads {h : Heap} {P : Program} {w : World} : ∀ {es : List DictEntry} {vs : List (Key × Value)} {kvs : List (Key × V)}, Pairs (mixKind P w) es vs → KV kvs vs → ReadsAll h (es.map (·.key)) (kvs.map fun p => keyD p.1) []
  | _, _, _, .nil, .nil => .nil
  | _, _, _, .cons (e := e) (kv := kv) h1 h2 h3, .cons (a := p) r1 r2 => by
    obtain ⟨ek, _⟩ := r1
    have h1' : keyIs kv.1 e.key = true := h1
    rw [← ek] at h1'
    have t := keys_reads (h := h) h3 r2
    rcases keyIs_shape h1' with ⟨i, u, e1, e2⟩ | ⟨x, u, e1, e2⟩
    · show ReadsAll h (e.key :: _) (keyD p.1 :: _) ([] ++ [])
      rw [e1, e2]
      exact .cons (Reads.int i u) t
    · show ReadsAll h (e.key :: _) (keyD p.1 :: _) ([] ++ [])
      rw [e1, e2]
      exact .cons (Reads.str x u) t
theorem vals_of_pairs {P : Program} {w : World} : ∀ {es : List DictEntry} {vs : List (Key × Value)} {kvs : List (Key × V)}, Pairs (mixKind P w) es vs → KV kvs vs → Vals (kvs.map (·.2)) (es.map (·.val))
  | _, _, _, .nil, .nil => .nil
  | _, _, _, .cons (e := e) (kv := kv) h1 h2 h3, .cons (a := p) r1 r2 => by
    obtain ⟨_, rv⟩ := r1
    refine .cons ?_ (vals_of_pairs h3 r2)
    show RelV p.2 e.val
    rw [h2]
    exact rv
theorem ne_sys (hS : SysIn X.K) (I : Inv X pins σ H s) {a : Addr} {o : Obj} {its : Array Value} {n : Nat} (e : s.heap.get? a = some o) (d : o.data = .seq its n) : a ≠ sysModules := fun z => by
  obtain ⟨c, dd, es, m, sl, k⟩ := hS
  have q := I.kIn _ _ k
  rw [← z, e] at q
  cases q
  cases d
mutual
theorem Dq.reads (hS : SysIn X.K) (I : Inv X pins σ H s) : ∀ {d : PyData} {v : V} {u : Value}, Dq X.K H v d → RelV v u → ∃ as, Reads s.heap u d as ∧ sysModules ∉ as
  | _, _, _, .non, r => by
    cases r
    exact ⟨_, Reads.none, by simp⟩
  | _, _, _, .bl b, r => by
    cases r
    exact ⟨_, Reads.bool b, by simp⟩
  | _, _, _, .int i, r => by
    obtain ⟨t, rfl⟩ := r
    exact ⟨_, Reads.int i t, by simp⟩
  | _, _, _, .str x, r => by
    obtain ⟨t, rfl⟩ := r
    exact ⟨_, Reads.str x t, by simp⟩
  | _, _, _, .lst hs ha, r => by
    cases r
    obtain ⟨its, rv, ⟨o, n, ho, hc, _, hd⟩, _⟩ := I.list hs
    obtain ⟨as, hr, hn⟩ := DqAll.reads hS I ha rv
    exact ⟨_, Reads.list ho hc hd (by simpa using hr), fun z => (List.mem_cons.mp z).elim (fun q => ne_sys hS I ho hd q.symm) hn⟩
  | _, _, _, .tup hs ha, r => by
    cases r
    obtain ⟨its, rv, ⟨o, ho, hc, n, hd⟩, _⟩ := I.tuple hs
    obtain ⟨as, hr, hn⟩ := DqAll.reads hS I ha rv
    exact ⟨_, Reads.tuple ho hc hd (by simpa using hr), hn⟩
  | _, _, _, .dic (a := a) (kvs := kvs) (ds := ds) hs ha, r => by
    cases r
    obtain ⟨_, hm, vs, rk, o, es, ep, ho, hx, hd, _, hp, _⟩ := (show ObjOk X.prog X.w H s.heap a (.dK kvs) from I.hok a _ hs)
    obtain ⟨as, hr, hn⟩ := DqAll.reads hS I ha (vals_of_pairs hp rk)
    have hl : (kvs.map fun p => keyD p.1).length = ds.length := by rw [← ha.length, List.length_map, List.length_map]
    have e1 : (((kvs.map fun p => keyD p.1).zip ds).map (·.1)) = kvs.map fun p => keyD p.1 := List.map_fst_zip (Nat.le_of_eq hl)
    have e2 : (((kvs.map fun p => keyD p.1).zip ds).map (·.2)) = ds := List.map_snd_zip (Nat.le_of_eq hl.symm)
    refine ⟨_, Reads.dict ho hx.1 hd (as := []) (bs := as) (by rw [e1]; exact keys_reads hp rk) (by rw [e2]; exact hr), fun z => ?_⟩
    rcases List.mem_cons.mp z with q | q
    · exact (beq_eq_false_iff_ne.mp hm) q.symm
    · exact hn (by simpa using q)
theorem DqAll.reads (hS : SysIn X.K) (I : Inv X pins σ H s) : ∀ {ds : List PyData} {vs : List V} {us : List Value}, DqAll X.K H vs ds → Vals vs us → ∃ as, ReadsAll s.heap us ds as ∧ sysModules ∉ as
  | _, _, _, .nil, r => by
    cases r
    exact ⟨_, ReadsAll.nil, by simp⟩
  | _, _, _, .cons h1 h2, r => by
    cases r with
    | cons r1 r2 =>
      obtain ⟨as, q1, n1⟩ := Dq.reads hS I h1 r1
      obtain ⟨bs, q2, n2⟩ := DqAll.reads hS I h2 r2
      exact ⟨_, ReadsAll.cons q1 q2, fun z => (List.mem_append.mp z).elim n1 n2⟩
end
end
/-- repr(x), x a list, a tuple or a dict -/
def rRepr (K : PySem.W.Frag) : List V → Hp → VK → Prop := fun xs H Q => ∃ (a : Addr) (d : PyData), xs = [.ref a] ∧ Dq K H (.ref a) d ∧ d.showable = true ∧ d.depth ≤ 60 ∧ d.shown.length ≤ sizeLine ∧ Q (.str d.shown) H
theorem call_repr {X : Cx} (hS : SysIn X.K) (hg : X.A.guards = some []) (hu : X.A.units + 64 < cLine) : CallR X (.builtin "repr") (rRepr X.K) := by
  intro pins s σ H xs us Q I r h
  obtain ⟨a, d, rfl, hd, h1, h2, h3, q⟩ := h
  obtain ⟨u1, rfl, r1⟩ := vals1 r
  cases (show u1 = Value.ref a from r1)
  obtain ⟨as, hr, hn⟩ := Dq.reads hS I hd (rfl : RelV (.ref a) (Value.ref a))
  exact repr_of_reads' hr h1 (fun _ => hn) hg (by omega) (fun _ _ e => e) (fun h' u tk k => ⟨.str d.shown, H, I.kept k, ⟨u, rfl⟩, q⟩) h3
/-! ### a def that runs where no guard stands (the law's own) -/
structure FnOkG (P : Program) (w : World) (K : PySem.W.Frag) (mg : Str → Option Value) (base : Heap) (CX : CXT) (k : Nat) (f : Addr) (fd : FuncData) (ps : List Str) (sp : Sp) : Prop where
  len : ∀ vs H Q E, sp vs H Q E → vs.length = ps.length
  run : ∀ (A : Around) (outer : List Env) (s : Shared) (H : Hp) (args : Args) (us : List Value) (vs : List V) (Q : VK) (E : XK), A.guards = some [] → Room k A → Env0 P w K mg base A outer s H → BindsTo s fd args (ps.zip us) → Vals vs us → sp vs H Q E →
    codeAny (model P w) A (.call (.ref f) args) (CR CX outer P w H s Q E) s
/-- the same promise, of an Around that is known to be bare -/
theorem FnOk.toG {P : Program} {w : World} {K : PySem.W.Frag} {mg : Str → Option Value} {base : Heap} {CX : CXT} {k : Nat} {f : Addr} {fd : FuncData} {ps : List Str} {sp : Sp} (F : FnOk P w K mg base CX k f fd ps sp) : FnOkG P w K mg base CX k f fd ps sp :=
  ⟨F.len, fun A outer s H args us vs Q E _ hr he hb hv hs => F.run A outer s H args us vs Q E hr he hb hv hs⟩
/-- a run at ONE Around is a promise at all Arounds that are that one -/
theorem fn_ofG {CX : CXT} {P : Program} {w : World} {K : PySem.W.Frag} {mg : Str → Option Value} {base : Heap} {k : Nat} {f : Addr} {name qual : Str} {params : Arguments} {body : List Stmt} {scope : Scope} {dV kV doc pm cdv ct oc : Value} {an od : Option Addr}
    {osl : Array (Option Value)} {N ps : List Str} {sp : Sp} (lk : K.lookup f = some ⟨oc, od, .func (PySem.W.fnOf name qual params body scope dV kV doc pm an cdv ct), osl⟩) (hcd : PySem.W.codeIn K cdv qual = true) (S : FnScope N ps scope)
    (len : ∀ vs H Q E, sp vs H Q E → vs.length = ps.length)
    (hbody : ∀ (A : Around) (outer : List Env) (s : Shared) (H : Hp) (vs : List V) (Q : VK) (E : XK), (A.deeper (envOfC qual scope s.heap.objs.size f cdv)).guards = some [] → Room k (A.deeper (envOfC qual scope s.heap.objs.size f cdv)) → sp vs H Q E →
      ∃ t, PSs (cxOf CX P w K mg base N qual scope f cdv A outer s H E) body t ∧ t { nx := fun _ H' => Q .non H', rt := Q } (start N vs) H) :
    FnOkG P w K mg base CX (k + 1) f (PySem.W.fnOf name qual params body scope dV kV doc pm an cdv ct) ps sp := by
  refine ⟨len, fun A outer s H args us vs Q E hgd hr e0 hb r hsp => ?_⟩
  have hlen := len _ _ _ _ hsp
  have hin : K.In s.heap := e0.mod.kin.keeps fun b o e => (e0.bs b o e).1
  have hlim : s.heap.NoLimit := e0.mod.nolimit.keeps fun b o e => (e0.bs b o e).1
  have hnames : ∀ y ∈ ps.zip us, scope.names.lookup y.1 = some .local ∨ (scope.names.lookup y.1 = some .cell ∧ ((cellsFrom (s.heap.objs.size + 1) scope.names []).lookup y.1).isSome = true) := fun y hy =>
    (S.par y.1 (List.of_mem_zip (show (y.1, y.2) ∈ ps.zip us from hy)).1).elim .inl fun q => .inr ⟨q, PySem.W.cellsFrom_some _ _ _ (.inl q)⟩
  refine codeAny_call_function hr.depth (hin _ _ lk) rfl S.co S.gen rfl (PySem.W.codeRec_of hin hcd) (hb _ _ _ _ (wpAny_newFunctionEnv_cells S.kind hnames fun env henv s1 x => ?_))
  cases henv
  obtain ⟨t, ht, hq⟩ := hbody A outer s H vs Q E hgd (hr.deeper _) hsp
  have J0 : Inv (cxOf CX P w K mg base N qual scope f cdv A outer s H E) [] (start N vs) H s1 := inv_start S hr.hd e0 hlen r x
  refine ⟨hlim.keeps x.toInCall.keep, codeAny_func (wpAny_mono (ht.run [] s1 (start N vs) H _ J0 hq) (fun fl s' hs => ?_) fun _ _ hs => hs)⟩
  cases fl with
  | ret u =>
    obtain ⟨v, σ', H', J, rv, q⟩ := hs
    exact ⟨v, H', J.os, J.bare, J.base, J.hok, rv, q⟩
  | next =>
    obtain ⟨σ', H', J, q⟩ := hs
    exact ⟨V.non, H', J.os, J.bare, J.base, J.hok, rfl, q⟩
  | brk =>
    obtain ⟨_, _, _, q⟩ := hs
    cases q
  | cont =>
    obtain ⟨_, _, _, q⟩ := hs
    cases q
theorem FunD.okG {P : Program} {w : World} {K : PySem.W.Frag} {mg : Str → Option Value} {base : Heap} {x qual : Str} {params : Arguments} {body : List Stmt} {scope : Scope} {dvs : List V} {kws : List (Str × V)} {f : Addr} {fd : FuncData} {CX : CXT} {N ps : List Str} {k : Nat} {sp : Sp}
    (F : FunD K x qual params body scope dvs kws f fd) (S : FnScope N ps scope) (len : ∀ vs H Q E, sp vs H Q E → vs.length = ps.length)
    (hbody : ∀ (cdv : Value) (A : Around) (outer : List Env) (s : Shared) (H : Hp) (vs : List V) (Q : VK) (E : XK), (A.deeper (envOfC qual scope s.heap.objs.size f cdv)).guards = some [] → Room k (A.deeper (envOfC qual scope s.heap.objs.size f cdv)) → sp vs H Q E →
      ∃ t, PSs (cxOf CX P w K mg base N qual scope f cdv A outer s H E) body t ∧ t { nx := fun _ H' => Q .non H', rt := Q } (start N vs) H) : FnOkG P w K mg base CX (k + 1) f fd ps sp := by
  obtain ⟨oc, od, dV, kV, doc, pm, an, cdv, ct, osl, rfl, lk, hcd, _, _⟩ := F.ex
  exact fn_ofG lk hcd S len fun A outer s H vs Q E hg hr hsp => hbody cdv A outer s H vs Q E hg hr hsp
/-! ### a law's end -/
theorem law_callG {P : Program} {w : World} {K : PySem.W.Frag} {mg mb : Str → Option Value} {CX : CXT} {k : Nat} {fa a : Addr} {fd : FuncData} {x : Str} {sp : Sp} {s₁ : Shared} {vs : List Value} {ns : List Int}
    (KX : K.In s₁.heap) (hns : s₁.heap.Ns mainGlobals mg) (hb : s₁.heap.Ns builtinsNs mb) (hbb : ∀ x : Str, x ≠ "__name__" → mb x = bootBuiltins x) (hlim : s₁.heap.NoLimit) (hg : s₁.gens = #[])
    (ha : s₁.heap.get? a = some { cls := .type "list", data := .seq vs.toArray }) (hi : IntsAre vs ns) (hl : ns.length ≤ sizeLine) (hr : Room k callerA)
    (F : ∀ base : Heap, K.In base → base.Ns mainGlobals mg → FnOkG P w K mg base CX k fa fd [x] sp) (hbind : ∀ (s : Shared) (u : Value), BindsTo s fd ⟨[u], []⟩ [(x, u)])
    (hsp : ∀ H : Hp, Only H → SqL K H a (ns.map V.int) → sp [.ref a] H (fun v _ => v = .bl true) fun _ _ _ => False)
    (hCX : ∀ H e s', CX [] H s₁ (fun _ _ _ => False) e s' → False) :
    codeAny (model P w) callerA (.call (.ref fa) ⟨[.ref a], []⟩) (fun r s' => r = .ok (.ret (.bool true)) ∧ OldK s₁.heap s'.heap ∧ s'.os = s₁.os ∧ AllBare s'.gens) s₁ := by
  have rv := vals_ints hi
  have lenV := hi.length
  have main : ∀ H : Hp, Only H → SqL K H a (ns.map V.int) → HOk P w H s₁.heap → (∀ b, H b ≠ none → b = a) → (H a ≠ none → K.lookup a = none) →
      codeAny (model P w) callerA (.call (.ref fa) ⟨[.ref a], []⟩) (fun r s' => r = .ok (.ret (.bool true)) ∧ OldK s₁.heap s'.heap ∧ s'.os = s₁.os ∧ AllBare s'.gens) s₁ := by
    intro H hO hS hok hA hK
    have free_dict : ∀ {b : Addr} {o : Obj} {es : Array DictEntry} {ep : Nat}, s₁.heap.get? b = some o → o.data = .dict es ep → H b = none := fun {b o es ep} e dd => by
      by_cases hne : H b = none
      · exact hne
      · have z := hA b hne
        rw [z, ha] at e
        cases e
        cases dd
    have nsK : ∀ {b : Addr} {m : Str → Option Value}, s₁.heap.Ns b m → (hidT s₁.heap H).Ns b m := fun {b m} ⟨o, es, ep, e, dd, rr⟩ => ⟨o, es, ep, hidT_get e (free_dict e dd), dd, rr⟩
    have hKb : K.In (hidT s₁.heap H) := fun b o e => hidT_get (KX b o e) (by
      by_cases hne : H b = none
      · exact hne
      · have z := hA b hne
        rw [z] at hne e
        rw [hK hne] at e
        cases e)
    obtain ⟨mc, l1, l2⟩ := hlim
    have e0 : Env0 P w K mg (hidT s₁.heap H) callerA [] s₁ H := ⟨rfl, ⟨hKb, nsK hns, ⟨mb, nsK hb, hbb⟩, ⟨mc, nsK l1, l2⟩⟩, fun b o e => of_hidT e, Nat.le_of_eq (hidT_size _ _), trivial, fun b hb => absurd (show b ∈ ([] : List Addr) from hb) (by simp), hok, .of_eq hg⟩
    refine codeAny_mono ((F _ hKb (nsK hns)).run callerA [] s₁ H ⟨[.ref a], []⟩ [.ref a] [.ref a] _ _ rfl hr e0 (hbind s₁ (.ref a)) (.cons rfl .nil) (hsp H hO hS)) fun r s' h => ?_
    match r, h with
    | .error er, h => exact (hCX H er s' h).elim
    | .ok .next, h => exact False.elim h
    | .ok .brk, h => exact False.elim h
    | .ok .cont, h => exact False.elim h
    | .ok (.ret u), h =>
      obtain ⟨v, H', hos, bare, un, hok', r', q⟩ := h
      cases (show v = .bl true from q)
      cases (show u = Value.bool true from r')
      refine ⟨rfl, OldK.of_keep fun b o e => ?_, hos, bare⟩
      rcases hO b with z | ⟨ob, xs, z⟩
      · exact un.keep b o e z (fun y => absurd (show b ∈ ([] : List Addr) from y) (by simp)) (by simp)
      · obtain ⟨e1, _⟩ := hok b _ z
        obtain ⟨e2, _⟩ := hok' b _ (un.frzs b ob _ z)
        rw [e] at e1
        cases e1
        exact e2
  by_cases hk : K.lookup a = none
  · refine main (upd (fun _ => none) a (.frz { cls := .type "list", data := .seq vs.toArray } (.lst (ns.map V.int)))) (fun b => ?_) (.inl (.inr ⟨_, upd_same⟩)) (fun b u z => ?_) (fun b z => ?_) fun _ => hk
    · by_cases hb : b = a
      · exact .inr ⟨_, _, by rw [hb]; exact upd_same⟩
      · exact .inl (upd_ne hb)
    · by_cases hb : b = a
      · rw [hb, upd_same] at z
        cases z
        rw [hb]
        exact ⟨ha, by rw [List.length_map]; exact hl, vs, _, rv, ha⟩
      · rw [upd_ne hb] at z
        cases z
    · by_cases hb : b = a
      · exact hb
      · exact absurd (upd_ne hb) z
  · obtain ⟨o, ho⟩ := Option.ne_none_iff_exists'.mp hk
    have e := KX a o ho
    rw [ha] at e
    cases e
    exact main (fun _ => none) (fun _ => .inl rfl) (.inr ⟨_, vs.toArray, _, ho, rfl, rfl, rfl, by rw [List.size_toArray, lenV]; exact hl, by simpa using rv⟩) (fun b u z => by cases (show (none : Option HO) = some u from z)) (fun b z => absurd rfl z) fun z => absurd rfl z
theorem walk_ofG {l : PySem.W.OpenLaw} {n k : Nat} {q : Program} {loose : List Str} {XP : (Str → Option Value) → Heap → Prop} {YP : World → Heap → Prop} {d : DefRec} {CX : CXT} {x : Str}
    (hn : l.most = some n) (hn2 : n ≤ sizeLine) (hdf : d.params.defaults = []) (hr : Room k callerA)
    (F : ∀ (w : World) (mg : Str → Option Value) (fa : Addr) (h : Heap), YP w h → h.Ns mainGlobals mg → mg d.name = some (.ref fa) →
      ∃ (K : PySem.W.Frag) (fd : FuncData) (sp : Sp), K.In h ∧ (∀ (s : Shared) (u : Value), BindsTo s fd ⟨[u], []⟩ [(x, u)]) ∧
        (∀ (H : Hp) (a : Addr) (ns : List Int), ns.length ≤ n → Only H → SqL K H a (ns.map V.int) → sp [.ref a] H (fun v _ => v = .bl true) fun _ _ _ => False) ∧
        ∀ base : Heap, K.In base → base.Ns mainGlobals mg → FnOkG l.prog w K mg base CX k fa fd [x] sp)
    (hCX : ∀ (H : Hp) (s : Shared) (e : Value) (s' : Shared), CX [] H s (fun _ _ _ => False) e s' → False) :
    PySem.W.WalkO q loose XP YP l.row.toRowW d [] (fun f vs => PySem.call f vs) := by
  refine Att.attach_call hn hdf fun w s₀ s₁ mg mb fa o pm cd doc a vs ns G Y ho hd hcd hmg hobj hints hlen hg => ?_
  obtain ⟨K, fd, sp, KX, hb, hsp, hF⟩ := F w mg fa _ Y G.T.g hmg
  exact law_callG KX G.T.g G.T.b G.T.builtins G.T.nolimit hg hobj hints (Nat.le_trans hlen hn2) hr hF hb (fun H hO hS => hsp H a ns hlen hO hS) fun H e s' => hCX H s₁ e s'
end L2
#print axioms L2.walk_ofG
#print axioms L2.call_repr

set_option maxHeartbeats 4000000
/-! ### a head's facts: the defs, and whatever else a Bool over the written part tells -/
namespace He
open PySem PySem.Spec PyProof.Rows L2
abbrev AlZ : Type := AlD × Bool
def frZ (n : Nat) (g : Addr → Option Obj) : PySem.W.Frag := frG g (cStatics :: sysModules :: asD g n)
def obsZ (n : Nat) (fa : List Fa) (fn : List DefD) (ex : PySem.W.Frag → Bool) (g : Addr → Option Obj) : AlZ := (obsD fa fn (frZ n g), ex (frZ n g))
def valZ (fn : List DefD) : AlZ := (valD fn, true)
def hookZ (n : Nat) (fa : List Fa) (fn : List DefD) (ex : PySem.W.Frag → Bool) : PySem.W.Hook where
  α := AlZ
  obs := fun s => obsZ n fa fn ex s.heap.get?
  val := fun _ => valZ fn
  says := fun _ h => ∃ K : PySem.W.Frag, K.In h ∧ SaysD fa fn K ∧ ex K = true
  of := fun w s e => ⟨frZ n s.heap.get?, frG_in, congrArg (fun z : AlZ => z.1) e, congrArg (fun z : AlZ => z.2) e⟩
  keeps := fun _ _ _ ⟨K, hK, c⟩ k => ⟨K, PySem.W.Frag.In.keeps hK k, c⟩
theorem obsZ_eq {n : Nat} {fa : List Fa} {fn : List DefD} {ex : PySem.W.Frag → Bool} {g : Addr → Option Obj} {s : Shared} (h : ∀ a, g a = s.heap.get? a) : obsZ n fa fn ex g = (hookZ n fa fn ex).obs s := by
  have e : g = s.heap.get? := funext h
  rw [e] <;> rfl
/-- an own error class right below R, R right below ValueError -/
def errB (K : PySem.W.Frag) (m : List Value) (C : Addr) : Bool :=
  (match K.lookup C with
    | some ⟨.type "type", _, .cls cd, sl⟩ => cd.mro == .ref C :: m && (!cd.hasDel && (cd.hasDict && (match sl.toList with
      | [_, _, _, _, some (.builtin n), _] => n == "ValueError.__new__"
      | _ => false)))
    | _ => false) &&
  (decide (PySem.W.findIn K (.ref C) "__setattr__" = some (some (.builtin "object.__setattr__"))) && (PySem.W.keepIn K (.ref C) &&
  (decide (PySem.W.findIn K (.ref C) "__getattribute__" = some (some (.builtin "BaseException.__getattribute__"))) && (decide (PySem.W.findIn K (.ref C) "__getattr__" = some none) &&
   decide (PySem.W.findIn K (.ref C) "__class__" = some (some (.builtin "object.__class__")))))))
structure ErrC (K : PySem.W.Frag) (m : List Value) (C : Addr) : Prop where
  ox : OexC K C
  ec : ExcC K C
  cl : ∃ cd, PySem.W.clsIn K C = some cd ∧ cd.mro = .ref C :: m
  ty : PySem.W.typeIn K (.ref C) = some (.type "type")
theorem errB_ok {K : PySem.W.Frag} {m : List Value} {C : Addr} (hm : PySem.HandSPX.refsVE m = true) (h : errB K m C = true) : ErrC K m C := by
  unfold errB at h
  rw [Bool.and_eq_true, Bool.and_eq_true, Bool.and_eq_true, Bool.and_eq_true, Bool.and_eq_true] at h
  obtain ⟨h1, h2, h3, h4, h5, h6⟩ := h
  have h2 := of_decide_eq_true h2
  have h4 := of_decide_eq_true h4
  have h5 := of_decide_eq_true h5
  have h6 := of_decide_eq_true h6
  split at h1
  · rename_i dd cd sl hl
    rw [Bool.and_eq_true, Bool.and_eq_true, Bool.and_eq_true] at h1
    obtain ⟨a1, a2, a3, a4⟩ := h1
    have a1 : cd.mro = .ref C :: m := beq_iff_eq.mp a1
    split at a4
    · rename_i k0 k1 k2 k3 n k5 hs
      have hn : n = "ValueError.__new__" := beq_iff_eq.mp a4
      have hcl : PySem.W.clsIn K C = some cd := by unfold PySem.W.clsIn; rw [hl]
      have hty : PySem.W.typeIn K (.ref C) = some (.type "type") := by show (K.lookup C).map (·.cls) = _; rw [hl]; rfl
      have hdict : PySem.W.hasDictIn K C = true := by unfold PySem.W.hasDictIn; rw [hcl]; exact a3
      have ct : ∀ T : String, (Value.ref C :: m).contains (.type T) = PySem.HandSPX.veTail.contains (.type T) := fun T => by
        rw [List.contains_cons, PySem.HandSPX.refsVE_contains T m hm]; rfl
      have hsub : ∀ T : String, PySem.HandSPX.veTail.contains (.type T) = true → PySem.W.mroIn K C (.type T) = some true := fun T hT => by
        unfold PySem.W.mroIn
        rw [hcl, Option.bind_some, a1, if_neg (by simp), ct T, hT]
      refine ⟨⟨?_, h2, hsub "BaseException" (by decide +kernel), hty, h3⟩, ⟨h4, h5, hsub "BaseException" (by decide +kernel), hdict, h6, by kernel_rfl, by kernel_rfl, hsub "object" (by decide +kernel)⟩, ⟨cd, hcl, a1⟩, hty⟩
      obtain ⟨nm, bs, mro, ns, qn, hd, sn, sub, ab, col, del⟩ := cd
      dsimp only at a1 a2 a3
      subst a1 hn
      have e1 : hd = true := a3
      have e2 : del = false := by simpa using a2
      subst e1 e2
      have hsl : sl = #[k0, k1, k2, k3, some (.builtin "ValueError.__new__"), k5] := by
        obtain ⟨l⟩ := sl
        simp only at hs
        rw [hs]
      subst hsl
      exact ⟨nm, qn, ns, bs, m, sn, sub, ab, col, dd, k0, k1, k2, k3, k5, hl, hm⟩
    · cases a4
  · cases h1
/-- isinstance of an error of C, asked for the class D of the same kind -/
theorem ErrC.kit {K : PySem.W.Frag} {m m' : List Value} {C D : Addr} (c : ErrC K m C) (d : ErrC K m' D) : PySem.W.kitOne K (.ref C) (.ref D) = some ((Value.ref C :: m).contains (.ref D)) := by
  obtain ⟨cd, hc, em⟩ := c.cl
  obtain ⟨dd, hd, _⟩ := d.cl
  unfold PySem.W.kitOne
  by_cases h : C = D
  · subst h
    rw [if_pos (by simp)]
    simp
  · rw [if_neg (by simpa using h)]
    unfold PySem.W.kitCls
    dsimp only
    rw [if_pos (by rw [hd, d.ty]; rfl)]
    show PySem.W.mroIn K C (.ref D) = _
    unfold PySem.W.mroIn
    rw [hc, Option.bind_some, em, if_neg (by simp)]
theorem ErrC.kitT {K : PySem.W.Frag} {m : List Value} {C : Addr} {T : String} (c : ErrC K m C) (hm : PySem.HandSPX.refsVE m = true) (h : PySem.W.kitMeta T = true) : PySem.W.kitOne K (.ref C) (.type T) = some (PySem.HandSPX.veTail.contains (.type T)) := by
  obtain ⟨cd, hc, em⟩ := c.cl
  unfold PySem.W.kitOne
  rw [if_neg (by simp)]
  unfold PySem.W.kitCls
  dsimp only
  rw [if_pos h]
  show PySem.W.mroIn K C (.type T) = _
  unfold PySem.W.mroIn
  rw [hc, Option.bind_some, em, if_neg (by simp), List.contains_cons, PySem.HandSPX.refsVE_contains T m hm]
  rfl
/-- a def read off a class -/
def cdefB (K : PySem.W.Frag) (C : Addr) (m : Str) (f : Addr) : Bool :=
  PySem.W.readsIn K C (.type "type") && (decide (PySem.W.specialIn K (.ref C) "__getattribute__" = some (some (.builtin "type.__getattribute__"))) && (PySem.W.keepIn K (.ref f) && (match PySem.W.findCls K (.ref C) (.type "type") m with
    | some (.val (.ref g)) => g == f
    | _ => false)))
theorem cdefB_ok {K : PySem.W.Frag} {C f : Addr} {m : Str} (h : cdefB K C m f = true) : CDef K C (.type "type") m f := by
  unfold cdefB at h
  rw [Bool.and_eq_true, Bool.and_eq_true, Bool.and_eq_true] at h
  obtain ⟨h1, h2, h3, h4⟩ := h
  refine ⟨⟨h1, of_decide_eq_true h2⟩, ?_, h3⟩
  split at h4
  · rename_i g hg
    rw [hg, beq_iff_eq.mp h4]
  · cases h4
def initB (K : PySem.W.Frag) (C f : Addr) : Bool := decide (PySem.W.findIn K (.ref C) "__init__" = some (some (.ref f))) && decide (PySem.W.typeIn K (.ref f) = some (.type "function"))
theorem initB_ok {K : PySem.W.Frag} {C f : Addr} (h : initB K C f = true) : PySem.W.findIn K (.ref C) "__init__" = some (some (.ref f)) ∧ PySem.W.typeIn K (.ref f) = some (.type "function") :=
  let ⟨a, b⟩ := ba h
  ⟨of_decide_eq_true a, of_decide_eq_true b⟩
def sysB (K : PySem.W.Frag) : Bool := match K.lookup sysModules with
  | some ⟨_, _, .dict _ _, _⟩ => true
  | _ => false
theorem sysB_ok {K : PySem.W.Frag} (h : sysB K = true) : SysIn K := by
  unfold sysB at h
  split at h
  · rename_i c d es n sl hl
    exact ⟨c, d, es, n, sl, hl⟩
  · cases h
end He

set_option maxHeartbeats 4000000
/-! ### ways that meet: what holds behind is said once -/
namespace L2
open PySem PySem.Spec PyProof.Rows
def sJ (t : TS) : TS := fun D σ H => ∃ R : St → Hp → Prop, t { D with nx := R } σ H ∧ ∀ σ' H', R σ' H' → D.nx σ' H'
def eJ (t : TE) : TE := fun σ H Q => ∃ R : VK, t σ H R ∧ ∀ v H', R v H' → Q v H'
def cJ (t : TT) : TT := fun σ H Q => ∃ R : Bool → Hp → Prop, t σ H R ∧ ∀ b H', R b H' → Q b H'
variable {X : Cx}
theorem PS.J {st : Stmt} {t : TS} (h : PS X st t) : PS X st (sJ t) := ⟨fun pins s σ H D I ⟨R, h1, h2⟩ => thn (h.run pins s σ H _ I h1) fun f s' q => by
  cases f with
  | next =>
    obtain ⟨σ', H', J, z⟩ := q
    exact ⟨σ', H', J, h2 _ _ z⟩
  | brk => exact q
  | cont => exact q
  | ret u => exact q⟩
theorem PE.J {e : Expr} {t : TE} (h : PE X e t) : PE X e (eJ t) := ⟨fun pins s σ H Q I ⟨R, h1, h2⟩ => thn (h.run pins s σ H _ I h1) fun u s' ⟨v, H', J, r, z⟩ => ⟨v, H', J, r, h2 _ _ z⟩⟩
theorem PT.J {e : Expr} {t : TT} (h : PT X e t) : PT X e (cJ t) := ⟨fun pins s σ H Q I ⟨R, h1, h2⟩ => thn (h.run pins s σ H _ I h1) fun b s' ⟨H', J, z⟩ => ⟨H', J, h2 _ _ z⟩⟩
end L2

set_option maxHeartbeats 4000000
/-! ### an own error that is raised, caught and kept as a value -/
namespace L2
open PySem PySem.Spec PyProof.Rows
/-- at a: an exception of the class C, its dict d: how it came there is not told -/
def exv (a : Addr) (C : Value) (d : Option Addr) : HO := .ext fun h => ∃ oe : Obj, h.get? a = some oe ∧ oe.cls = C ∧ oe.dict = d ∧ ∃ vs, oe.data = .fields vs
theorem exv_ok {P : Program} {w : World} {H : Hp} {h : Heap} {a : Addr} {C : Value} {d : Option Addr} {oe : Obj} {vs : Array Value} (he : h.get? a = some oe) (hz : Zc C d oe) (hd : oe.data = .fields vs) : ObjOk P w H h a (exv a C d) :=
  ⟨⟨oe, he, hz.1, hz.2, vs, hd⟩, ⟨oe, he⟩, fun _ _ ⟨o, e, r⟩ k => ⟨o, k _ e, r⟩⟩
theorem exv_at {P : Program} {w : World} {H : Hp} {h : Heap} {a : Addr} {C : Value} {d : Option Addr} (hok : HOk P w H h) (e : H a = some (exv a C d)) : ∃ oe : Obj, h.get? a = some oe ∧ oe.cls = C ∧ oe.dict = d ∧ ∃ vs, oe.data = .fields vs := by
  have x : ObjOk P w H h a (.ext fun h => ∃ oe : Obj, h.get? a = some oe ∧ oe.cls = C ∧ oe.dict = d ∧ ∃ vs, oe.data = .fields vs) := hok a _ e
  exact x.1
section
variable {X : Cx} {pins : List (Addr × Obj)} {σ : St} {H : Hp} {s : Shared}
/-- what stands new beside the entry is tracked from now on -/
theorem Inv.track {a : Addr} {o : HO} {oa : Obj} (I : Inv X pins σ H s) (na : H a = none) (h0 : X.s_0.heap.get? a = none) (ha : s.heap.get? a = some oa) (hd : ∀ es ep, oa.data ≠ .dict es ep) (hd2 : ∀ v, oa.data ≠ .cell v) (hp : ∀ p ∈ X.pn ++ pins, p.1 ≠ a)
    (hok : ObjOk X.prog X.w (upd H a o) s.heap a o) : Inv X pins σ (upd H a o) s := by
  have ne0 : ∀ {b : Addr} {ob : Obj}, X.s_0.heap.get? b = some ob → b ≠ a := fun {b ob} e z => by
    rw [z, h0] at e
    cases e
  have nl : X.env.locals ≠ a := fun z => by
    obtain ⟨m, ⟨ob, es, ep, e, dd, _⟩, _⟩ := I.loc
    rw [z, ha] at e
    cases e
    exact hd _ _ dd
  have ncell : ∀ x c, X.env.cells.lookup x = some c → c ≠ a := fun x c e z => by
    obtain ⟨v, ob, e1, e2⟩ := I.cell x c e
    rw [z, ha] at e1
    cases e1
    exact hd2 _ e2
  refine ⟨I.ok, I.os, I.bare, ⟨I.base.keep, I.base.slot, fun b ob e n hx => ?_, I.base.there, fun b xs e => ?_, fun b ob u e => ?_, fun b ps e => ?_⟩, I.loc, I.cell, ?_, fun x c e => ?_, fun p hq => ?_, fun b u e => ?_, I.len⟩
  · rw [upd_ne (ne0 e)]
    exact I.base.free b ob e n hx
  · have z := I.base.tups b xs e
    rw [upd_ne (ne_of_none z na)]
    exact z
  · have z := I.base.frzs b ob u e
    rw [upd_ne (ne_of_none z na)]
    exact z
  · obtain ⟨more, z⟩ := I.base.tbls b ps e
    refine ⟨more, ?_⟩
    rw [upd_ne (ne_of_none z na)]
    exact z
  · rw [upd_ne nl]
    exact I.free
  · rw [upd_ne (ncell x c e)]
    exact I.freeC x c e
  · obtain ⟨q1, q2, q3⟩ := I.pin p hq
    exact ⟨q1, by rw [upd_ne (hp p hq)]; exact q2, q3⟩
  · by_cases hb : b = a
    · subst hb
      rw [upd_same] at e
      cases e
      exact hok
    · rw [upd_ne hb] at e
      exact (I.hok b u e).stay (fun _ _ _ r => r) (fun c r => by rw [upd_ne (ne_of_none r na)]; exact r) fun c xs r => by rw [upd_ne (ne_of_none r na)]; exact r
/-- the context of a suite that knows the exception by what is tracked -/
abbrev Cx.suiteV (X : Cx) (a : Addr) (pn : List (Addr × Obj)) : Cx := { X with A := X.A.mark (some (.ref a)), calm := false, pn := pn, xe := fun _ _ => False }
theorem Inv.suiteV (I : Inv X pins σ H s) (a : Addr) : Inv (X.suiteV a (X.pn ++ pins)) [] σ H s :=
  ⟨I.ok.suite a _, I.os, I.bare, I.base, I.loc, I.cell, I.free, I.freeC, fun p hp => I.pin p (by rw [List.append_nil] at hp; exact hp), I.hok, I.len⟩
theorem Inv.unsuiteV {a : Addr} {pn' : List (Addr × Obj)} (I : Inv (X.suiteV a (X.pn ++ pins)) pn' σ H s) (ok : X.Ok) : Inv X pins σ H s :=
  ⟨ok, I.os, I.bare, I.base, I.loc, I.cell, I.free, I.freeC, fun p hp => I.pin p (List.mem_append_left _ hp), I.hok, I.len⟩
end
/-- what the clause 'except x as n' wishes: the exception is tracked in the suite and behind it -/
def wVal (K : PySem.W.Frag) (c : Value) (i : Nat) (ts : Addr → TS) (Wout : WX) (D : Ends) : WX := fun cls d σ H =>
  ∃ b, PySem.W.exmOne K cls c = some b ∧ (b = true → ∀ a, H a = none → ts a { nx := fun σ' H' => D.nx (σ'.set i none) H', rt := D.rt, bk := fun σ' H' => D.bk (σ'.set i none) H', ct := fun σ' H' => D.ct (σ'.set i none) H' } (σ.set i (some (.ref a))) (upd H a (exv a cls d))) ∧
    (b = false → Wout cls d σ H)
section
variable {X : Cx} {x n : Str} {c : Value} {i : Nat} {body suite : List Stmt} {b₀ : Stmt} {np pos pos' : Pos} {tb : WX → TS} {ts : Addr → TS} {Wout : WX}
/-- try: body / except x as n: suite, the error being tracked from the suite on -/
theorem ps_try_val (hs : X.stack = X.env :: X.outer) (hf : X.env.frame = some X.env.locals) (hex : X.ex = []) (hN : X.N.Nodup) (hi : X.N[i]? = some n) (hln : X.env.kindOf n = some .local) (hc : Names X x c) (tk : Takes X Wout)
    (hb : ∀ (W : WX) (pn : List (Addr × Obj)) (xe : Value → Shared → Prop), Takes (X.tr pn xe) W → PassesOwn (model X.prog X.w) X.A X.env xe → PSs (X.tr pn xe) body (tb W))
    (hsu : ∀ (a : Addr) (pn : List (Addr × Obj)), PSs (X.suiteV a pn) (b₀ :: suite) (ts a)) :
    PS X (.Try body [.ExceptHandler (some (.Name x np)) (some n) (b₀ :: suite) pos'] [] [] pos) (fun D σ H => tb (wVal X.K c i ts Wout D) D σ H) := by
  refine ⟨fun pins s σ H D I h => ?_⟩
  have ok := I.ok
  have hfr : X.A.frames = some (X.env :: X.outer) := by rw [ok.frames, hs]
  refine wpAny_Try_except (wpAny_mono ((hb (wVal X.K c i ts Wout D) (X.pn ++ pins) (fun e s₁ => wpAny (model X.prog X.w) X.A (noteFrame e X.env) (fun _ s₂ => wpAny (model X.prog X.w) X.A (setFlight e none) (fun _ s₃ =>
    wpAny (model X.prog X.w) X.A (handleBy e X.env [.ExceptHandler (some (.Name x np)) (some n) (b₀ :: suite) pos']) (SP X pins D) X.xe s₃) X.xe s₂) X.xe s₁) (fun u s' xx => ?_) PassesOwn.looking).run [] s σ H D (I.toTry _) h) (fun f s1 hsp => ?_) (fun e s1 he => he))
  · obtain ⟨a, B, sI, pins', σ', H', cls, d, rfl, J', nb, up, sky, na, os, ag, b, hb1, hyes, hno⟩ := xx
    have J : Inv X pins σ' H' sI := J'.ofTry ok
    show wpAny (model X.prog X.w) X.A (noteFrame (.ref a) X.env) _ _ _
    refine Sky.land Zc.steady hfr hf (by rw [← hs]; exact sky) fun h3 fl3 up3 => ?_
    have J3 : Inv X pins σ' H' { s' with heap := h3 } := J.landed nb fl3.1 (up.trans up3) os ag
    obtain ⟨oe3, vs3, he3, hz3, hd3⟩ := fl3.there
    have nfr : a ∉ frs (X.env :: X.outer) := fun hm => by
      obtain ⟨_, o', e', hnf⟩ := fl3.2.2.1.mem hm
      rw [he3] at e'
      cases e'
      exact hnf _ hd3
    have Ba : B.get? a = none := fl3.2.1
    have n0 : X.s_0.heap.get? a = none := by
      cases q : X.s_0.heap.get? a with
      | none => rfl
      | some o =>
        obtain ⟨o', q'⟩ := J.base.there a o q (by rw [hex]; simp)
        have z := nb a o' q' (by rw [hs]; exact nfr)
        rw [Ba] at z
        cases z
    have np' : ∀ p ∈ X.pn ++ pins, p.1 ≠ a := fun p hp z => by
      obtain ⟨q1, _, q3, q4, _⟩ := J.pin p hp
      have y := nb p.1 p.2 q1 (by rw [hs, z]; exact nfr)
      rw [z, Ba] at y
      cases y
    have S3 : Inv (X.suiteV a (X.pn ++ pins)) [] σ' H' { s' with heap := h3 } := J3.suiteV a
    refine wpAny_handleBy_cons (codeAny_handlers_test ?_) (by intro q; cases q)
    have LT : PySem.W.Looks (model X.prog X.w) h3 (typeOf (.ref a)) cls := fun A Q E s k q => wpAny_typeOf_ref (k _ _ he3) (by rw [hz3.1]; exact q)
    have LM := PySem.W.exm_one (M := model X.prog X.w) (J3.kIn) LT hb1
    have test : ∀ {Q : Value → Shared → Prop} {E : Value → Shared → Prop}, Q c { s' with heap := h3 } → wpAny (model X.prog X.w) (X.A.mark (some (.ref a))) (eval (.Name x np) X.env) Q E { s' with heap := h3 } := fun {Q E} q => by
      obtain ⟨hg, hdbg, hm | ⟨hm, hv, hnn⟩⟩ := hc
      · exact ld_glob (X := X.suiteV a (X.pn ++ pins)) S3 hg hm q hdbg
      · exact ld_blt (X := X.suiteV a (X.pn ++ pins)) S3 hg hm hv q hnn hdbg
    refine test (LM.here ?_)
    cases b with
    | true =>
      refine codeAny_handlers_suite_as (HandSPX.lands_againZ fl3 fun h4 fl4 up4 => ?_)
      obtain ⟨oe4, vs4, he4, hz4, hd4⟩ := fl4.there
      have J4 : Inv X pins σ' (upd H' a (exv a cls d)) { s' with heap := h4 } :=
        (J.landed (s' := { s' with heap := h4 }) nb fl4.1 ((up.trans up3).trans up4) os ag).track na n0 he4 (fun _ _ z => by rw [hd4] at z; cases z) (fun _ z => by rw [hd4] at z; cases z) np' (exv_ok he4 hz4 hd4)
      have S4 := J4.suiteV a
      refine store_ok (X := X.suiteV a (X.pn ++ pins)) (v := .ref a) S4 hN hi (.inl hln) rfl (fun s5 S5 => ?_) (.inr hln)
      refine wpAny_mono ((hsu a (X.pn ++ pins)).run [] s5 _ _ _ S5 (hyes rfl a na)) (fun f s6 hsp => ?_) (fun _ _ z => False.elim z)
      have fin : ∀ {σ6 : St} {H6 : Hp} {Q : Shared → Prop}, Inv (X.suiteV a (X.pn ++ pins)) [] σ6 H6 s6 → (∀ s7, Inv X pins (σ6.set i none) H6 s7 → Q s7) →
          wpAny (model X.prog X.w) X.A (do bindName X.env n .none; unbindBehindTheSuite X.env n pos') (fun _ s7 => Q s7) X.xe s6 := fun {σ6 H6 Q} S6 hq => gone_ok (S6.unsuiteV ok) hN hi hln hq
      match f, hsp with
      | .next, ⟨σ6, H6, S6, q6⟩ => exact fin S6 fun s7 J7 => ⟨_, _, J7, q6⟩
      | .brk, ⟨σ6, H6, S6, q6⟩ => exact fin S6 fun s7 J7 => ⟨_, _, J7, q6⟩
      | .cont, ⟨σ6, H6, S6, q6⟩ => exact fin S6 fun s7 J7 => ⟨_, _, J7, q6⟩
      | .ret u, ⟨v6, σ6, H6, S6, r6, q6⟩ => exact fin S6 fun s7 J7 => ⟨_, _, _, J7, r6, q6⟩
    | false =>
      show wpAny _ X.A (handleBy (.ref a) X.env []) _ _ _
      refine wpAny_handleBy_nil ?_
      obtain ⟨k1, k2, k3, oe, vs, T, oT, ts', he, hz, hd, h1, hr⟩ := id fl3
      unfold PySem.passOn
      refine wpAny_bind (wpAny_field he hd h1 ?_)
      rw [if_neg (show ¬ ((Value.ref T == Value.none) = true) from by simp)]
      have go : wpAny (model X.prog X.w) X.A (setFlight (.ref a) X.env.frame) (fun _ s4 => wpAny (model X.prog X.w) X.A (throw (.ref a) : Sem Flow) (SP X pins D) X.xe s4) X.xe { s' with heap := h3 } := by
        rw [hf]
        exact HandSPX.setFlight_upZ fl3 fun h4 hh4 up4 => wpAny_throw (tk _ _ ⟨a, B, sI, pins, σ', H', cls, d, rfl, J, nb, (up.trans up3).trans up4, .inr (.inr (by rw [hs]; exact hh4)), na, os, ag, hno rfl⟩)
      first
        | exact wpAny_bind (wpAny_pure (wpAny_bind go))
        | exact wpAny_bind go
  · match f, hsp with
    | .next, ⟨σ', H', J', q⟩ => exact wpAny_execs_nil ⟨σ', H', J'.ofTry ok, q⟩
    | .brk, ⟨σ', H', J', q⟩ => exact ⟨σ', H', J'.ofTry ok, q⟩
    | .cont, ⟨σ', H', J', q⟩ => exact ⟨σ', H', J'.ofTry ok, q⟩
    | .ret u, ⟨v, σ', H', J', r, q⟩ => exact ⟨v, σ', H', J'.ofTry ok, r, q⟩
end
end L2

set_option maxHeartbeats 4000000
namespace L2
open PySem PySem.Spec PyProof.Rows
/-- C(e, ..) that is raised: the error is let go, its dict (if it has one) stays tracked as it is -/
def tMkR (C : Addr) (sp : Sp) (dvs : List V) (ta : TA) : St → Hp → XK → Prop := fun σ H Q => ta σ H fun vs H1 => vs.length ≤ 1000 ∧ ∀ a, H1 a = none → sp (.ref a :: (vs ++ dvs)) (upd H1 a (exo a C none))
  (fun v H2 => v = .non ∧ ∃ d : Option Addr, H2 a = some (exo a C d) ∧ Q (.ref C) d (del H2 a)) (fun _ _ _ => False)
section
variable {X : Cx} {e : Expr} {es : List Expr} {ta : TA} {p pos : Pos}
theorem pmk_err {CX : CXT} {x : Str} {C fI : Addr} {k : Nat} {fd : FuncData} {ps : List Str} {sp : Sp} {ds : List Value} {dvs : List V} (T : OexC X.K C) (iC : PySem.W.findIn X.K (.ref C) "__init__" = some (some (.ref fI))) (tI : PySem.W.typeIn X.K (.ref fI) = some (.type "function"))
    (F1 : FnOk X.prog X.w X.K X.mg X.base CX k fI fd ps sp) (hr : Room (k + 1) X.A) (hb : Binds X.K fd ps ds) (hd : Vals dvs ds) (hx : Passes CX X (fun _ _ _ => False)) (hg : Gl X x) (hm : X.mg x = some (.ref C)) (ha : PA X (e :: es) ta)
    (hdb : (x == ("__debug__" : Str)) = false := by decide) (he : starEach (e :: es) X.env = (false, eval e X.env) :: starEach es X.env := by rfl) (hpl : (backTo pos (starEach es X.env)).any (·.1) = false := by rfl) :
    PMk X (.Call (.Name x p) (e :: es) [] pos) (tMkR C sp dvs ta) := by
  intro pins s σ H Q I h
  obtain ⟨nm, q, N, bs, bm, sn, sub, ab, col, dd, k0, k1, k2, k3, k5, hC, hbm⟩ := T.cls
  refine wpAny_Call_Name_kw (ld_glob I hg hm ?_ hdb)
  refine PySem.W.callWith_K (h₀ := X.base) I.ok.mod.kin T.kC (thn (ha.run pos pins s σ H _ I h) fun us s1 ⟨vs, H1, I1, r1, hz, q1⟩ => ⟨I1.kIn, ?_⟩) he hpl
  show wpAny _ _ (call (.ref C) us) _ _ _
  obtain ⟨hp, g, dr, tk, os⟩ := s1
  have hsz : hp.objs.size ≤ hp.objs.size + 1 := Nat.le_succ _
  have hn : H1 (hp.objs.size + 1) = none := I1.hok.fresh hsz
  have hq := q1 (hp.objs.size + 1) hn
  have kk : ∀ b o, hp.get? b = some o → ((hp.push (PySem.W.kdv_tup us)).push (PySem.HandSPX.excO C hp.objs.size)).get? b = some o := fun b o e => Heap.get?_push_of_some _ (Heap.get?_push_of_some _ e)
  have hget : ((hp.push (PySem.W.kdv_tup us)).push (PySem.HandSPX.excO C hp.objs.size)).get? (hp.objs.size + 1) = some (PySem.HandSPX.excO C hp.objs.size) := by heap_get
  have I2 : Inv X pins σ (upd H1 (hp.objs.size + 1) (exo (hp.objs.size + 1) C none)) ⟨(hp.push (PySem.W.kdv_tup us)).push (PySem.HandSPX.excO C hp.objs.size), g, dr, tk, os⟩ :=
    I1.laid (t' := tk) (a := hp.objs.size + 1) (o := exo (hp.objs.size + 1) C none) (h' := (hp.push (PySem.W.kdv_tup us)).push (PySem.HandSPX.excO C hp.objs.size)) kk hsz (exo_ok hget)
  have r2 : Vals (V.ref (hp.objs.size + 1) :: (vs ++ dvs)) (Value.ref (hp.objs.size + 1) :: (us ++ ds)) := .cons rfl (r1.append hd)
  have hl : (Value.ref (hp.objs.size + 1) :: us ++ ds).length = ps.length := r2.length.symm.trans (F1.len _ _ _ _ hq)
  have hus : us.length ≤ sizeLine := by
    rw [← Paired.length r1, sizeLine_eq]
    omega
  refine wpAny_call (PySem.HandSPX.call_own F.excBase_ValueError (fun Y => PySem.HandSPX.refsVE_contains Y bm hbm) (I1.kIn _ _ hC) (PySem.W.looks_findIn I1.kIn iC) (fun self => PySem.W.bind_fn I1.kIn self tI) hus
    (codeAny_mono (F1.run _ X.stack _ _ ⟨Value.ref (hp.objs.size + 1) :: us, []⟩ (Value.ref (hp.objs.size + 1) :: (us ++ ds)) _ _ (fun _ _ _ => False) (hr.make C us []) (I2.env0.make C us []) (hb _ (Value.ref (hp.objs.size + 1) :: us) I2.kIn hl) r2 hq) fun r s' hq' => ?_))
  match r, hq' with
  | .error er, hq' => exact hx pins σ _ _ er s' I2 hq'
  | .ok .next, hq' => exact False.elim hq'
  | .ok .brk, hq' => exact False.elim hq'
  | .ok .cont, hq' => exact False.elim hq'
  | .ok (.ret u), ⟨v, H2, os2, bare2, un, hok2, rv, ev, d, ea, q2⟩ =>
    subst ev
    obtain ⟨h2, g2, d2, t2, os'⟩ := s'
    refine ⟨rv, ?_⟩
    generalize hA : hp.objs.size + 1 = a at *
    obtain ⟨t0, hoe⟩ := exo_at hok2 ea
    obtain ⟨G, g1', g2'⟩ := restrict h2 fun b => decide (b ≠ a)
    have gk : ∀ b, b ≠ a → G.get? b = h2.get? b := fun b hb => g1' b (decide_eq_true hb)
    have ge : G.get? a = none := g2' a (by simp)
    have nha : ∀ {b : Addr} {o : Obj}, hp.get? b = some o → b ≠ a := fun {b o} z => Nat.ne_of_lt (Nat.lt_of_lt_of_le (Heap.lt_size z) hsz)
    have up : ∀ {b : Addr}, b ≠ a → H1 b = none → upd H1 a (exo a C none) b = none := fun {b} hb n => by rw [upd_ne hb]; exact n
    have U : Un (frs X.stack) [] H1 (del H2 a) hp G := {
      keep := fun b o z n hf hx => by
        rw [gk b (nha z)]
        exact un.keep b o (kk b o z) (up (nha z) n) hf hx
      slot := fun b o z n hf hx => by
        rw [gk b (nha z)]
        exact un.slot b o (kk b o z) (up (nha z) n) hf hx
      free := fun b o z n hx => by
        rw [del_ne (nha z)]
        exact un.free b o (kk b o z) (up (nha z) n) hx
      there := fun b o z hx => by
        rw [gk b (nha z)]
        exact un.there b o (kk b o z) hx
      tups := fun b xs z => by
        rw [del_ne (ne_of_none z hn)]
        exact un.tups b xs (by rw [upd_ne (ne_of_none z hn)]; exact z)
      frzs := fun b o v z => by
        rw [del_ne (ne_of_none z hn)]
        exact un.frzs b o v (by rw [upd_ne (ne_of_none z hn)]; exact z)
      tbls := fun b ps z => by
        rw [del_ne (ne_of_none z hn)]
        exact un.tbls b ps (by rw [upd_ne (ne_of_none z hn)]; exact z) }
    have hok3 : HOk X.prog X.w (del H2 a) G := fun b o z => by
      have hba : b ≠ a := fun e => by
        rw [e, del_same] at z
        cases z
      rw [del_ne hba] at z
      have noa : ∀ {c : Addr}, H2 c = some (.own b) → c ≠ a := fun {c} hc => at_ne ea hc exo_own
      exact (hok2 b o z).stay (fun c v hc y => by
          have hca : c ≠ a := by
            rcases hc with hc | hc
            · rw [hc]
              exact hba
            · exact noa hc
          rw [gk c hca]
          exact y)
        (fun c hc => by rw [del_ne (noa hc)]; exact hc) (fun c xs hc => by rw [del_ne (at_ne ea hc exo_tup)]; exact hc)
    have J : Inv X pins σ (del H2 a) ⟨G, g2, d2, t2, os'⟩ := I1.call' (ch := []) os2 U hok3 bare2 (fun b z => absurd z (by simp))
    exact ⟨a, _, _, ⟨G, g2, d2, t2, os'⟩, _, .ref C, d, rfl, J, fun b o z => by
        by_cases hba : b = a
        · rw [hba, ge] at z
          cases z
        · exact (gk b hba).symm.trans z, ge, hoe, ⟨rfl, rfl⟩, rfl, rfl, del_same, rfl, bare2, raises_own T.exC T.tyC, q2⟩
end
/-! ### what is known of an error behind its catch -/
/-- isinstance of it -/
def rIsC (K : PySem.W.Frag) : List V → Hp → VK → Prop := fun xs H Q => ∃ (a C : Addr) (d : Option Addr) (c : V) (u : Value) (b : Bool), xs = [.ref a, c] ∧ H a = some (exv a (.ref C) d) ∧ (∀ dd, d = some dd → ∃ fs, H dd = some (exd dd fs)) ∧ ExcC K C ∧ ClsV c u ∧ PySem.W.kitOne K (.ref C) u = some b ∧ Q (.bl b) H
section
variable {X : Cx} {pins : List (Addr × Obj)} {σ : St} {H : Hp} {s : Shared} {a C : Addr} {d : Option Addr}
theorem exv_inst (I : Inv X pins σ H s) (e : H a = some (exv a (.ref C) d)) (hd : ∀ dd, d = some dd → ∃ fs, H dd = some (exd dd fs)) : ∃ ox od, PySem.W.InstAt s.heap a ox C od := by
  obtain ⟨oe, ho, h1, h2, vs, h3⟩ := exv_at I.hok e
  have hno : PySem.W.notCls oe = true := by unfold PySem.W.notCls; rw [h3]
  cases d with
  | none => exact ⟨oe, none, ho, h1, hno, by rw [h2]; trivial⟩
  | some dd =>
    obtain ⟨fs, ed⟩ := hd dd rfl
    obtain ⟨mA, ⟨od, _, _, hoD, _⟩, _⟩ := exd_at I.hok ed
    exact ⟨oe, some od, ho, h1, hno, by rw [h2]; exact hoD⟩
theorem call_isC : CallR X (.builtin "isinstance") (rIsC X.K) := by
  intro pins s σ H xs us Q I r h
  obtain ⟨a, C, d, c, u, b, rfl, ha, hd, T, k, e, q⟩ := h
  obtain ⟨u1, u2, rfl, r1, r2⟩ := vals2 r
  cases (show u1 = Value.ref a from r1)
  have e2 := k.eq r2
  subst e2
  obtain ⟨ox, od, J⟩ := exv_inst I ha hd
  exact PySem.W.kia_one (PySem.W.kitx_excO T.hg T.hk T.hs T.hd T.ha T.hn T.ht T.hm) I.kIn J e (fun z => nomatch z) fun tk => ⟨.bl b, H, I.tok tk, rfl, q⟩
end
/-- e.n of it -/
def tExc (K : PySem.W.Frag) (n : Str) (te : TE) : TE := fun σ H Q => te σ H fun x H1 => ∃ (a C d : Addr) (fs : List (Str × V)) (v : V), x = .ref a ∧ ExcC K C ∧ PySem.W.findIn K (.ref C) n = some none ∧ H1 a = some (exv a (.ref C) (some d)) ∧ H1 d = some (exd d fs) ∧ fs.lookup n = some v ∧ Q v H1
section
variable {X : Cx} {e : Expr} {n : Str} {te : TE} {pos : Pos}
theorem pe_exc (he : PE X e te) (hb : attributeBase e n X.env (eval e X.env) = eval e X.env := by rfl) : PE X (.Attribute e n pos) (tExc X.K n te) := by
  refine ⟨fun pins s σ H Q I h => ?_⟩
  refine attr_of hb (thn (he.run pins s σ H _ I h) fun u s1 hh => ?_)
  obtain ⟨x, H1, I1, rx, a, C, d, fs, v, ex, T, hno, ea, ed, hv, q⟩ := hh
  subst ex
  obtain rfl : u = Value.ref a := rx
  obtain ⟨oe, ho, h1, h2, vs, h3⟩ := exv_at I1.hok ea
  obtain ⟨mA, hns, hr⟩ := exd_at I1.hok ed
  obtain ⟨od, hod, hl⟩ := lookIn_ns hns
  obtain ⟨u, hu, ru⟩ := RelO.some_of (v := v) (o := mA n) (by rw [← hv]; exact hr n)
  have J : PySem.W.InstAt s1.heap a oe C (some od) := ⟨ho, h1, by unfold PySem.W.notCls; rw [h3], by rw [h2]; exact hod⟩
  exact HandSPX.exc_get I1.kIn J T.hg T.hk T.hs (PySem.W.findObj_own T.hd hno rfl (by rw [hl, hu])) (handed_of ru) ⟨v, H1, I1.tok _, ru, q⟩
end
end L2

set_option maxHeartbeats 4000000
/-! ### lambdas as values -/
namespace L2
open PySem PySem.Spec PyProof.Rows LamX
/-- at f: the function of a lambda, made of these cells -/
def lamO (q : Str) (cl : List (Str × Addr)) (params : Arguments) (body : Expr) (scope : Scope) (f c' : Addr) : HO := .ext fun h => ∃ pm ctv : Value, h.get? f = some (PySem.W.kla_obj "<lambda>" q params body scope cl pm c' ctv)
theorem lamO_ok {P : Program} {w : World} {H : Hp} {h : Heap} {q : Str} {cl : List (Str × Addr)} {params : Arguments} {body : Expr} {scope : Scope} {f c' : Addr} {pm ctv : Value} (e : h.get? f = some (PySem.W.kla_obj "<lambda>" q params body scope cl pm c' ctv)) :
    ObjOk P w H h f (lamO q cl params body scope f c') := ⟨⟨pm, ctv, e⟩, ⟨_, e⟩, fun _ _ ⟨a, b, z⟩ k => ⟨a, b, k _ z⟩⟩
theorem lamO_at {P : Program} {w : World} {H : Hp} {h : Heap} {q : Str} {cl : List (Str × Addr)} {params : Arguments} {body : Expr} {scope : Scope} {f c' : Addr} (hok : HOk P w H h) (e : H f = some (lamO q cl params body scope f c')) :
    ∃ pm ctv : Value, h.get? f = some (PySem.W.kla_obj "<lambda>" q params body scope cl pm c' ctv) := by
  have x : ObjOk P w H h f (.ext fun h => ∃ pm ctv : Value, h.get? f = some (PySem.W.kla_obj "<lambda>" q params body scope cl pm c' ctv)) := hok f _ e
  exact x.1
/-- a table that grows by one code object -/
theorem tabs_grow {T : List (Addr × Str)} {H : Hp} {P c : Addr} {q : Str} {ps : Array Value} {pos : Pos} (hT : Tabs T H) (hP : H P = some (.tbl ps)) (ht : TriplesOk ps.toList) (ha : ∀ (p : Pos) (cv : Value), codeAmong p ps.toList = some cv → ∃ c, cv = .ref c ∧ H c = some (CodeO c q))
    (nC : H c = none) (hu : ∀ p ∈ T, p.1 = P → p.2 = q) :
    ExtN H (upd (upd H P (.tbl (ps ++ #[rawInt pos.line, rawInt pos.col, .ref c]))) c (CodeO c q)) ∧ Tabs T (upd (upd H P (.tbl (ps ++ #[rawInt pos.line, rawInt pos.col, .ref c]))) c (CodeO c q)) := by
  have hE : ExtN H (upd (upd H P (.tbl (ps ++ #[rawInt pos.line, rawInt pos.col, .ref c]))) c (CodeO c q)) := fun b o e n => by
    have n1 : b ≠ c := ne_of_none e nC
    have n2 : b ≠ P := fun z => by
      rw [z, hP] at e
      exact n ps (Option.some.inj e).symm
    rw [upd_ne n1, upd_ne n2]
    exact e
  have nPc : P ≠ c := ne_of_none hP nC
  refine ⟨hE, fun p hp => ?_⟩
  obtain ⟨ps', a1, a2, a3⟩ := hT p hp
  have old : ∀ {c0 : Addr}, H c0 = some (CodeO c0 p.2) → (upd (upd H P (.tbl (ps ++ #[rawInt pos.line, rawInt pos.col, .ref c]))) c (CodeO c q)) c0 = some (CodeO c0 p.2) := fun z => hE _ _ z codeO_ne
  by_cases hb : p.1 = P
  · have eq : p.2 = q := hu p hp hb
    have el : (ps ++ #[rawInt pos.line, rawInt pos.col, .ref c]).toList = ps.toList ++ [rawInt pos.line, rawInt pos.col, .ref c] := by simp
    refine ⟨_, by rw [hb, upd_ne nPc, upd_same], by rw [el]; exact PySem.TriplesOk_snoc _ _ _ _ ht, fun p' cv hcv => ?_⟩
    rw [el] at hcv
    rcases among_app _ ht hcv with z | z
    · obtain ⟨c0, e1, e2⟩ := ha p' cv z
      exact ⟨c0, e1, old (by rw [eq]; exact e2)⟩
    · exact ⟨c, z, by rw [upd_same, eq]⟩
  · refine ⟨ps', by rw [upd_ne (ne_of_none a1 nC), upd_ne hb]; exact a1, a2, fun p' cv hcv => ?_⟩
    obtain ⟨c0, e1, e2⟩ := a3 p' cv hcv
    exact ⟨c0, e1, old e2⟩
section
variable {X : Cx} {pins : List (Addr × Obj)} {σ : L2.St} {H : Hp} {s : Shared}
/-- what is new in the heap is tracked from now on -/
theorem Inv.track_new {a : Addr} {o : HO} {oa : Obj} {h' : Heap} {tk : Nat} (I : Inv X pins σ H s) (J : Inv X pins σ H { s with heap := h', toks := tk }) (hf : s.heap.objs.size ≤ a) (ha : h'.get? a = some oa) (hd : ∀ es ep, oa.data ≠ .dict es ep) (hd2 : ∀ v, oa.data ≠ .cell v)
    (hok : ObjOk X.prog X.w (upd H a o) h' a o) : Inv X pins σ (upd H a o) { s with heap := h', toks := tk } := by
  have no : ∀ {b : Addr} {ob : Obj}, s.heap.get? b = some ob → b ≠ a := fun e z => Nat.lt_irrefl _ (Nat.lt_of_lt_of_le (Heap.lt_size e) (by rw [z]; exact hf))
  refine J.track (I.hok.fresh hf) ?_ ha hd hd2 (fun p hp => no (I.pin p hp).1) hok
  exact Heap.get?_none_of_le (Nat.le_trans I.sz hf)
/-- lambda: .. -/
theorem lam_make3 {T : List (Addr × Str)} {c P : Addr} {params : Arguments} {body : Expr} {scope : Scope} {pos : Pos} {E : Value → Shared → Prop} {Q : Value → Shared → Prop} (I : Inv X pins σ H s) (TB : TabB X.base X.mg c P) (hcode : X.env.code = .ref c)
    (hm : (P, X.env.qual ++ "<lambda>") ∈ T) (hu : ∀ p ∈ T, p.1 = P → p.2 = X.env.qual ++ "<lambda>") (hT : Tabs T H) (hdef : defaultsOf params X.env = ([], [])) (hfree : ∀ y ∈ scope.names, y.2 = .free → ∃ c, X.env.cells.lookup y.1 = some c)
    (h : ∀ (f c' : Addr) (H1 : Hp) (s' : Shared), ExtN H H1 → Tabs T H1 → H1 f = none → H f = none → H1 c' = some (CodeO c' (X.env.qual ++ "<lambda>")) →
      Inv X pins σ (upd H1 f (lamO (X.env.qual ++ "<lambda>") (cloFrom X.env.cells scope.names []) params body scope f c')) s' → Q (.ref f) s') :
    wpAny (model X.prog X.w) X.A (eval (.Lambda params body scope pos) X.env) Q E s := by
  obtain ⟨ps, hP, ht, ha⟩ := hT _ hm
  refine PySem.W.kla_eval hdef ?_
  have bP : s.heap.BuiltinsAt X.mg P := TB.bm.keeps I.bk
  have hP' : s.heap.get? P = some { cls := .none, data := .fields ps } := I.hok P _ hP
  have nd : ∀ {pm ctv : Value} {c' : Addr}, (∀ es ep, (PySem.W.kla_obj "<lambda>" (X.env.qual ++ "<lambda>") params body scope (cloFrom X.env.cells scope.names []) pm c' ctv).data ≠ .dict es ep) ∧ ∀ v, (PySem.W.kla_obj "<lambda>" (X.env.qual ++ "<lambda>") params body scope (cloFrom X.env.cells scope.names []) pm c' ctv).data ≠ .cell v := by
    intro pm ctv c'
    refine ⟨fun es ep z => ?_, fun v z => ?_⟩ <;> cases z
  cases hc : codeAmong pos ps.toList with
  | none =>
    refine PySem.W.kla_makeFunction (mg := X.mg) (c := c) (P := P) (ps := ps) (closure_ok hfree) I.ok.glob (I.mod.glob.keeps I.bk) hcode (TB.code.keeps I.bk) hP' ht hc TB.gP bP fun c' ctv h' tk hx hge hlt ⟨c2, oc, vs, t, e2, hoc, hd, hv⟩ htb => ?_
    cases e2
    have hsz : s.heap.objs.size ≤ h'.objs.size := Nat.le_trans hge (Nat.le_of_lt hlt)
    have nC : H c' = none := I.hok.fresh hge
    obtain ⟨g1, g2⟩ := tabs_grow (pos := pos) hT hP ht ha nC hu
    have I1 := inv_table (t' := tk) (more := #[rawInt pos.line, rawInt pos.col, .ref c']) (h' := h'.push (PySem.W.kla_obj "<lambda>" (X.env.qual ++ "<lambda>") params body scope (cloFrom X.env.cells scope.names []) ((X.mg "__name__").getD .none) c' ctv)) I hP
      (fun b o hb e => Heap.get?_push_of_some _ (hx b o hb e)) (Heap.get?_push_of_some _ htb) hge ⟨oc, vs, t, Heap.get?_push_of_some _ hoc, hd, hv⟩
    have nf : (upd (upd H P (.tbl (ps ++ #[rawInt pos.line, rawInt pos.col, .ref c']))) c' (CodeO c' (X.env.qual ++ "<lambda>"))) h'.objs.size = none := by
      rw [upd_ne (Nat.ne_of_gt hlt), upd_ne (Nat.ne_of_gt (Nat.lt_of_lt_of_le (Heap.lt_size hP') hsz))]
      exact I.hok.fresh hsz
    refine h h'.objs.size c' _ _ g1 g2 nf (I.hok.fresh hsz) upd_same ?_
    have hget := Heap.get?_push_size (o := PySem.W.kla_obj "<lambda>" (X.env.qual ++ "<lambda>") params body scope (cloFrom X.env.cells scope.names []) ((X.mg "__name__").getD .none) c' ctv) h' rfl
    refine I1.track nf (Heap.get?_none_of_le (Nat.le_trans I.sz hsz)) hget nd.1 nd.2 (fun p hp z => ?_) (lamO_ok hget)
    have e := Heap.lt_size (I.pin p hp).1
    rw [z] at e
    exact Nat.lt_irrefl _ (Nat.lt_of_lt_of_le e hsz)
  | some cv =>
    obtain ⟨c', e, hco⟩ := ha pos cv hc
    subst e
    refine PySem.W.kla_makeFunctionHit (mg := X.mg) (c := c) (P := P) (ps := ps) (closure_ok hfree) I.ok.glob (I.mod.glob.keeps I.bk) hcode (TB.code.keeps I.bk) hP' ht hc bP fun ctv h' tk hx hsz => ?_
    have I1 : Inv X pins σ H { s with heap := h'.push (PySem.W.kla_obj "<lambda>" (X.env.qual ++ "<lambda>") params body scope (cloFrom X.env.cells scope.names []) ((X.mg "__name__").getD .none) c' ctv), toks := tk } := I.kept fun b o e => Heap.get?_push_of_some _ (hx b o e)
    have hget := Heap.get?_push_size (o := PySem.W.kla_obj "<lambda>" (X.env.qual ++ "<lambda>") params body scope (cloFrom X.env.cells scope.names []) ((X.mg "__name__").getD .none) c' ctv) h' rfl
    exact h h'.objs.size c' H _ (ExtN.refl H) hT (I.hok.fresh hsz) (I.hok.fresh hsz) hco (I.track_new I1 hsz hget nd.1 nd.2 (lamO_ok hget))
end
/-- a lambda is made and tracked -/
def tLamV (T : List (Addr × Str)) (q : Str) (cl : List (Str × Addr)) (params : Arguments) (body : Expr) (scope : Scope) : TE := fun σ H Q => Tabs T H ∧ ∀ (f c' : Addr) (H1 : Hp), ExtN H H1 → Tabs T H1 → H1 f = none → H f = none → H1 c' = some (CodeO c' q) → Q (.ref f) (upd H1 f (lamO q cl params body scope f c'))
theorem pe_lamV {X : Cx} {T : List (Addr × Str)} {c P : Addr} {params : Arguments} {body : Expr} {scope : Scope} {pos : Pos} (TB : TabB X.base X.mg c P) (hcode : X.env.code = .ref c)
    (hm : (P, X.env.qual ++ "<lambda>") ∈ T) (hu : ∀ p ∈ T, p.1 = P → p.2 = X.env.qual ++ "<lambda>") (hdef : defaultsOf params X.env = ([], [])) (L : LamS X.env.scope scope) :
    PE X (.Lambda params body scope pos) (tLamV T (X.env.qual ++ "<lambda>") (cloFrom X.env.cells scope.names []) params body scope) :=
  ⟨fun pins s σ H Q I h => lam_make3 I TB hcode hm hu h.1 hdef (L.has I.ok) fun f c' H1 s' e1 e2 e3 e3' e4 J => ⟨.ref f, _, J, rfl, h.2 f c' H1 e1 e2 e3 e3' e4⟩⟩
end L2

set_option maxHeartbeats 4000000
/-! ### the law's own catcher, called with a lambda -/
namespace L2
open PySem PySem.Spec PyProof.Rows LamX
/-- a lambda that a law writes: its parts, and what its body does (errors told by an XK) -/
structure LamK where
  params : Arguments
  body : Expr
  scope : Scope
  t : XK → TE
abbrev lamOf (X : Cx) (κ : LamK) (f c' : Addr) : HO := lamO (X.env.qual ++ "<lambda>") (cloFrom X.env.cells κ.scope.names []) κ.params κ.body κ.scope f c'
structure LamGood (X : Cx) (k : Nat) (κ : LamK) : Prop where
  sc : LamS X.env.scope κ.scope
  bind : ∀ (q : Str) (cl : List (Str × Addr)) (pm cv ctv : Value), bindArgs (PySem.W.kla_fn "<lambda>" q κ.params κ.body κ.scope cl pm cv ctv) ⟨[], []⟩ = pure []
  run : ∀ (A : Around) (outer : List Env) (s : Shared) (H : Hp) (E : XK) (f c' : Addr), Room k (A.deeper (lamEnv X κ.scope s.heap.objs.size f c')) → A.guards = X.A.guards → PE (lamCx X A outer s H E κ.scope f c') κ.body (κ.t E)
theorem takes_lam {X : Cx} {A : Around} {outer : List Env} {s : Shared} {H : Hp} {E : XK} {scope : Scope} {f c' : Addr} : Takes (lamCx X A outer s H E scope f c') (fun cls d _ H' => E cls d H') := takes_of rfl rfl rfl rfl
theorem pass_lam {X : Cx} {A : Around} {outer : List Env} {s : Shared} {H : Hp} {E : XK} {scope : Scope} {f c' : Addr} : Passes (L2.CX X.prog X.w) (lamCx X A outer s H E scope f c') E := passes_call takes_lam fun _ _ _ _ h => h
section
variable {X : Cx} {pins : List (Addr × Obj)} {σ : L2.St} {H HZ : Hp} {s s1 : Shared}
/-- x(), x holding a lambda of the caller's: Z is the context of the def that got it, entered at s -/
theorem pe_actV {CXg : CXT} {Eg : XK} {Ng : List Str} {qg : Str} {sg : Scope} {g f c' : Addr} {cdg : Value} {κ : LamK} {k i : Nat} {a : Str} {pn : List (Addr × Obj)} {xe : Value → Shared → Prop} {W : WX} {E : XK} {q : Str} {p1 p2 : Pos}
    (I : Inv X pins σ H s) (G : LamGood X k κ) (tk : Takes ((cxOf CXg X.prog X.w X.K X.mg X.base Ng qg sg g cdg X.A X.stack s H Eg).tr pn xe) W) (hW : ∀ cls d σ' H', σ'.length = Ng.length → E cls d H' → W cls d σ' H') (hr : Room (k + 1) (X.A.deeper (envOfC qg sg s.heap.objs.size g cdg)))
    (hgu : (X.A.deeper (envOfC qg sg s.heap.objs.size g cdg)).guards = X.A.guards) (hq : q = X.env.qual ++ "<lambda>") (hN : Ng[i]? = some a) (hv : Vis sg a) (hd : (a == ("__debug__" : Str)) = false := by decide) (hcd : (a == ("__classdict__" : Str)) = false := by decide) :
    PE ((cxOf CXg X.prog X.w X.K X.mg X.base Ng qg sg g cdg X.A X.stack s H Eg).tr pn xe) (.Call (.Name a p1) [] [] p2)
      (fun σZ HZ Q => σZ[i]? = some (some (.ref f)) ∧ HZ f = some (lamOf X κ f c') ∧ HZ c' = some (CodeO c' q) ∧ κ.t E σ HZ Q) := by
  subst hq
  refine ⟨fun pinsZ sZ σZ HZ Q IZ h => ?_⟩
  obtain ⟨hs, hf, hc, ht⟩ := h
  refine wpAny_Call_Name_kw (thn ((pe_var (pos := p1) (i := i) hN hv hd hcd).run pinsZ sZ σZ HZ (fun v H1 => v = .ref f ∧ H1 = HZ) IZ ⟨.ref f, hs, rfl, rfl⟩) fun u s1 ⟨v, H1, I1, r1, q1⟩ => ?_)
  obtain ⟨ev, eH⟩ := q1
  subst ev
  rw [eH] at I1
  obtain rfl : u = Value.ref f := r1
  obtain ⟨pm, ctv, of1⟩ := lamO_at I1.hok hf
  refine PySem.W.callWith_F0 ⟨_, _, _, _, of1⟩ ?_
  have un : Un (frs X.stack) [] H HZ s.heap s1.heap := I1.base
  obtain ⟨⟨oc, vs, t, hoc, hdc, hvc⟩, _, _⟩ := I1.hok c' _ hc
  have rc : codeAny (model X.prog X.w) (X.A.deeper (envOfC qg sg s.heap.objs.size g cdg)) (.call (.ref f) ⟨[], []⟩) (CR (L2.CX X.prog X.w) (envOfC qg sg s.heap.objs.size g cdg :: X.stack) X.prog X.w HZ s1 Q E) s1 := by
    refine PySem.W.kla_callFunE hr.depth of1 rfl G.sc.co G.sc.gen rfl ⟨c', oc, vs, t, rfl, hoc, hdc, hvc⟩ ?_
    rw [G.bind]
    refine wpAny_pure (wpAny_newFunctionEnv (fun y hy => (G.sc.own y hy).2) (fun y hy => absurd hy (by simp)) (fun h₁ hns hsb => ⟨I1.nolimit.fresh _ hsb, ?_⟩) G.sc.kind)
    show codeAny _ _ (.expr κ.body (lamEnv X κ.scope s1.heap.objs.size f c')) _ _
    have kp : ∀ b o, s1.heap.get? b = some o → h₁.get? b = some o := fun b o e => hsb.extBut b o (Nat.ne_of_lt (Heap.lt_size e)) (Heap.get?_push_of_some _ e)
    have J : Inv (lamCx X (X.A.deeper (envOfC qg sg s.heap.objs.size g cdg)) (envOfC qg sg s.heap.objs.size g cdg :: X.stack) s1 HZ E κ.scope f c') [] σ HZ { s1 with heap := h₁, toks := s1.toks + ([] : List (Str × Value)).length } :=
      lam_start2 I G.sc I1.env0 hr.hd un hns kp
    refine PySem.W.kla_codeExpr (wpAny_mono ((G.run _ _ s1 HZ E f c' (hr.deeper _) hgu).run [] _ _ HZ Q J ht) (fun v s' hq => ?_) fun e s' hq => hq)
    obtain ⟨w', H', J', rv, q⟩ := hq
    exact ⟨w', H', J'.os, J'.bare, J'.base, J'.hok, rv, q⟩
  have hx : Passes (L2.CX X.prog X.w) ((cxOf CXg X.prog X.w X.K X.mg X.base Ng qg sg g cdg X.A X.stack s H Eg).tr pn xe) E := fun _ σ _ _ e s' I c => tk e s' (XE.of_call I (fun cls d H' h => hW cls d σ H' I.len h) c)
  refine wpAny_call (codeAny_mono rc fun r s' hq => ?_)
  match r, hq with
  | .error e, hq => exact hx pinsZ σZ HZ s1 e s' I1 hq
  | .ok (.ret u), hq => exact I1.after hq
  | .ok .next, hq => exact False.elim hq
  | .ok .brk, hq => exact False.elim hq
  | .ok .cont, hq => exact False.elim hq
end
/-- c = None / try: x() / except y as z: c = z / return c -/
def catchBody (x c y z : Str) (p1 p2 p3 p4 p5 p6 p7 p8 p9 p10 p11 p12 p13 p14 : Pos) (j : Nat) : List Stmt :=
  [.Assign [.Name c p1] (.Constant .none j p2) p3, .Try [.Expr (.Call (.Name x p4) [] [] p5) p6] [.ExceptHandler (some (.Name y p7)) (some z) [.Assign [.Name c p8] (.Name z p9) p10] p11] [] [] p12, .Return (some (.Name c p13)) p14]
/-- caught(e): e a lambda of this def; None, or the error that it raised, tracked -/
def tCaught (X : Cx) (CS : Addr) (q : Str) {ι : Type} (κ : ι → LamK) (te : TE) : TE := fun σ H Q => te σ H fun v H1 => ∃ (i : ι) (f c' : Addr), v = .ref f ∧ H1 f = some (lamOf X (κ i) f c') ∧ H1 c' = some (CodeO c' q) ∧
  (κ i).t (fun cls d H' => PySem.W.exmOne X.K cls (.ref CS) = some true ∧ ∀ a, H' a = none → Q (.ref a) (upd H' a (exv a cls d))) σ H1 (fun _ H' => Q .non H')
section
variable {X : Cx} {ι : Type} {κ : ι → LamK} {k : Nat} {CS g : Addr} {x a c y z : Str} {e : Expr} {te : TE} {p pos : Pos} {q : Str}
theorem pe_caught {pg : Arguments} {bg : List Stmt} {sg : Scope} {dV kV doc pm cdv ct oc : Value} {an od : Option Addr} {osl : Array (Option Value)} {p1 p2 p3 p4 p5 p6 p7 p8 p9 p10 p11 p12 p13 p14 : Pos} {j : Nat}
    (lk : X.K.lookup g = some ⟨oc, od, .func (PySem.W.fnOf x x pg bg sg dV kV doc pm an cdv ct), osl⟩) (hcg : PySem.W.codeIn X.K cdv x = true) (hb : L2.Binds X.K (PySem.W.fnOf x x pg bg sg dV kV doc pm an cdv ct) [a] []) (hbg : bg = catchBody a c y z p1 p2 p3 p4 p5 p6 p7 p8 p9 p10 p11 p12 p13 p14 j)
    (Sg : FnScope [a, c, z] [a] sg) (hva : Vis sg a) (hvc : Vis sg c) (hvz : Vis sg z) (hlc : sg.names.lookup c = some .local) (hlz : sg.names.lookup z = some .local) (hgy : sg.names.lookup y = some .globalImplicit) (hmy : X.mg y = some (.ref CS))
    (he : PE X e te) (hg : Gl X x) (hm : X.mg x = some (.ref g)) (hk : PySem.W.keepIn X.K (.ref g) = true) (hr : Room (k + 2) X.A) (G : ∀ i, LamGood X k (κ i)) (hq : q = X.env.qual ++ "<lambda>")
    (hdb : (x == ("__debug__" : Str)) = false := by decide) (hd : (a == ("__debug__" : Str)) = false := by decide) (hcd : (a == ("__classdict__" : Str)) = false := by decide) (hdc : (c == ("__debug__" : Str)) = false := by decide) (hcdc : (c == ("__classdict__" : Str)) = false := by decide) (hdz : (z == ("__debug__" : Str)) = false := by decide) (hcdz : (z == ("__classdict__" : Str)) = false := by decide) (hdy : (y == ("__debug__" : Str)) = false := by decide)
    (hse : starEach [e] X.env = (false, eval e X.env) :: starEach [] X.env := by rfl) :
    PE X (.Call (.Name x p) [e] [] pos) (tCaught X CS q κ te) := by
  refine ⟨fun pins s σ₀ H Q I h => ?_⟩
  refine wpAny_Call_Name_kw (ld_glob I hg hm ?_ hdb)
  refine PySem.W.callWith_K (h₀ := X.base) I.ok.mod.kin hk (thn ((pa_cons he pa_nil hse).run pos pins s σ₀ H (fun vs H1 => match vs with
    | [v] => ∃ (i : ι) (f c' : Addr), v = .ref f ∧ H1 f = some (lamOf X (κ i) f c') ∧ H1 c' = some (CodeO c' q) ∧
      (κ i).t (fun cls d H' => PySem.W.exmOne X.K cls (.ref CS) = some true ∧ ∀ a, H' a = none → Q (.ref a) (upd H' a (exv a cls d))) σ₀ H1 (fun _ H' => Q .non H')
    | _ => False) I h) fun us s1 ⟨vs, H1, I1, r1, q1⟩ => ⟨I1.kIn, ?_⟩) hse (by rfl)
  match vs, q1, r1 with
  | [], q1, _ => exact False.elim q1
  | _ :: _ :: _, q1, _ => exact False.elim q1
  | [v], q1, r1 =>
  obtain ⟨i, f, c', rfl, hf, hc, ht⟩ := q1
  obtain ⟨u, rfl, ru⟩ := vals1 r1
  cases (show u = Value.ref f from ru)
  have rc : codeAny (model X.prog X.w) X.A (.call (.ref g) ⟨[.ref f], []⟩) (CR C8.CX0 X.stack X.prog X.w H1 s1 Q C8.E0) s1 := by
    refine run_ofS (N := [a, c, z]) (ps := [a]) (us := [.ref f]) (vs := [.ref f]) lk hcg Sg hr I1.env0 (hb s1 [.ref f] I1.kIn rfl) (.cons rfl .nil) rfl fun hr' => ?_
    subst hbg
    have hN := Sg.nd
    refine ⟨_, PSs.nox <| pss_cons (ps_set (i := 1) hN rfl (Or.inl hlc) pe_non) (pss_cons
      (ps_try_val (i := 2) (Wout := fun _ _ _ _ => False) (tb := fun W D σ H => ∃ Ech : XK, (∀ cls d σ' H', σ'.length = 3 → Ech cls d H' → W cls d σ' H') ∧ σ[0]? = some (some (.ref f)) ∧ H f = some (lamOf X (κ i) f c') ∧ H c' = some (CodeO c' q) ∧ (κ i).t Ech σ₀ H (fun _ H' => D.nx σ H'))
        rfl rfl rfl hN rfl hlz ⟨hgy, hdy, .inl hmy⟩ takes0 (fun W pn xe tk _ => ?_) (fun a pn => pss_one (ps_set (i := 1) hN rfl (Or.inl hlc) (pe_var (i := 2) rfl hvz hdz hcdz))))
      (pss_one (ps_ret (pe_var (i := 1) rfl hvc hdc hcdc)))), ?_⟩
    · refine ⟨fun pins' s' σ' H' D I' h' => ?_⟩
      obtain ⟨Ech, hW, h1, h2, h3, h4⟩ := h'
      have hp := pe_actV (CXg := C8.CX0) (Eg := C8.E0) (f := f) (c' := c') (i := 0) (p1 := p4) (p2 := p5) I1 (G i) tk hW hr' rfl hq rfl hva hd hcd
      exact (pss_one (ps_expr (pos := p6) hp)).run pins' s' σ' H' D I' ⟨h1, h2, h3, h4⟩
    · refine ⟨fun cls d H' => PySem.W.exmOne X.K cls (.ref CS) = some true ∧ ∀ a, H' a = none → Q (.ref a) (upd H' a (exv a cls d)), ?_, rfl, hf, hc, ?_⟩
      · rintro cls d σ' H' l3 ⟨e1, e2⟩
        match σ', l3 with
        | [y0, y1, y2], _ => exact ⟨true, e1, fun _ a ha => ⟨.ref a, rfl, .ref a, rfl, e2 a ha⟩, fun z => by cases z⟩
      · have z : (fun (_ : V) (H' : Hp) => Q .non H') = fun _ H' => tRet (tVar 1) { nx := fun x H' => Q V.non H', rt := Q } ((start [a, c, z] [V.ref f]).set 1 (some V.non)) H' := by
          funext _ H'
          exact propext ⟨fun q => ⟨.non, rfl, q⟩, fun ⟨v, e, q⟩ => by
            cases (show some (some V.non) = some (some v) from e)
            exact q⟩
        rw [z] at ht
        exact ht
  refine wpAny_call (codeAny_mono rc fun r s2 hq => ?_)
  match r, hq with
  | .error e, hq => exact (show False from hq).elim
  | .ok (.ret u), hq => exact I1.after hq
  | .ok .next, hq => exact False.elim hq
  | .ok .brk, hq => exact False.elim hq
  | .ok .cont, hq => exact False.elim hq
end
end L2

set_option maxHeartbeats 4000000
/-! ### a law's end, with tables of code objects; the law's own def where no guard stands -/
namespace L2
open PySem PySem.Spec PyProof.Rows LamX
theorem law_callTG {P : Program} {w : World} {K : PySem.W.Frag} {mg mb : Str → Option Value} {CX : CXT} {k : Nat} {fa a : Addr} {ts : List Addr} {fd : FuncData} {x : Str} {sp : Sp} {s₁ : Shared} {vs : List Value} {ns : List Int}
    (KX : K.In s₁.heap) (hns : s₁.heap.Ns mainGlobals mg) (hb : s₁.heap.Ns builtinsNs mb) (hbb : ∀ x : Str, x ≠ "__name__" → mb x = bootBuiltins x) (hlim : s₁.heap.NoLimit) (hg : s₁.gens = #[])
    (hT : ∀ p ∈ ts, s₁.heap.get? p = some { cls := .none, data := .fields #[] }) (nT : ∀ p ∈ ts, K.lookup p = none) (cT : ∀ p ∈ ts, ∃ c, PySem.W.codeHdIn K c p = true)
    (hbm : ∃ (bm : Addr) (ob : Obj), mg "__builtins__" = some (.ref bm) ∧ bm ≠ builtinsNs ∧ s₁.heap.get? bm = some ob ∧ ob.cls = .type "module" ∧ ob.dict = some builtinsNs ∧ ob.data = .plain)
    (ha : s₁.heap.get? a = some { cls := .type "list", data := .seq vs.toArray }) (hi : IntsAre vs ns) (hl : ns.length ≤ sizeLine) (hr : Room k callerA)
    (F : ∀ base : Heap, K.In base → base.Ns mainGlobals mg → (∀ p ∈ ts, base.BuiltinsAt mg p ∧ mainGlobals ≠ p) → FnOkG P w K mg base CX k fa fd [x] sp) (hbind : ∀ (s : Shared) (u : Value), BindsTo s fd ⟨[u], []⟩ [(x, u)])
    (hsp : ∀ H : Hp, (∀ p ∈ ts, H p = some (.tbl #[])) → SqL K H a (ns.map V.int) → sp [.ref a] H (fun v _ => v = .bl true) fun _ _ _ => False)
    (hCX : ∀ H e s', CX [] H s₁ (fun _ _ _ => False) e s' → False) :
    codeAny (model P w) callerA (.call (.ref fa) ⟨[.ref a], []⟩) (fun r s' => r = .ok (.ret (.bool true)) ∧ OldK s₁.heap s'.heap ∧ s'.os = s₁.os ∧ AllBare s'.gens) s₁ := by
  have rv := vals_ints hi
  have lenV := hi.length
  have aT : a ∉ ts := fun z => by
    have q := hT a z
    rw [ha] at q
    cases q
  have main : ∀ H : Hp, (∀ p ∈ ts, H p = some (.tbl #[])) → (∀ b, H b = none ∨ b ∈ ts ∨ (b = a ∧ K.lookup a = none ∧ ∃ o xs, H b = some (.frz o (.lst xs)))) → SqL K H a (ns.map V.int) → HOk P w H s₁.heap →
      codeAny (model P w) callerA (.call (.ref fa) ⟨[.ref a], []⟩) (fun r s' => r = .ok (.ret (.bool true)) ∧ OldK s₁.heap s'.heap ∧ s'.os = s₁.os ∧ AllBare s'.gens) s₁ := by
    intro H hH hO hS hok
    -- what is no list and no empty table is not tracked
    have free : ∀ {b : Addr} {o : Obj}, s₁.heap.get? b = some o → (∀ vs n, o.data ≠ .seq vs n) → o.data ≠ .fields #[] → H b = none := fun {b o} e h1 h2 => by
      rcases hO b with z | z | ⟨z, _, _⟩
      · exact z
      · have q := hT b z
        rw [e] at q
        cases q
        exact absurd rfl h2
      · rw [z, ha] at e
        cases e
        exact absurd rfl (h1 _ _)
    have nsK : ∀ {b : Addr} {m : Str → Option Value}, s₁.heap.Ns b m → (hidT s₁.heap H).Ns b m := fun {b m} ⟨o, es, ep, e, dd, rr⟩ => ⟨o, es, ep, hidT_get e (free e (fun _ _ z => by rw [dd] at z; cases z) (fun z => by rw [dd] at z; cases z)), dd, rr⟩
    have hKb : K.In (hidT s₁.heap H) := fun b o e => hidT_get (KX b o e) (by
      rcases hO b with z | z | ⟨z, n, _⟩
      · exact z
      · rw [nT b z] at e
        cases e
      · rw [z, n] at e
        cases e)
    obtain ⟨mc, l1, l2⟩ := hlim
    have hB : ∀ p ∈ ts, (hidT s₁.heap H).BuiltinsAt mg p ∧ mainGlobals ≠ p := fun p hp => by
      obtain ⟨bm, ob, b1, b2, b3, b4, b5, b6⟩ := hbm
      obtain ⟨og, es, ep, g1, g2, _⟩ := id hns
      refine ⟨⟨bm, ob, b1, b2, fun q => ?_, fun q => ?_, hidT_get b3 (free b3 (fun _ _ z => by rw [b6] at z; cases z) (fun z => by rw [b6] at z; cases z)), b4, b5, b6⟩, fun q => ?_⟩
      · rw [q, g1] at b3
        cases b3
        rw [g2] at b6
        cases b6
      · rw [q, hT p hp] at b3
        cases b3
        cases b6
      · rw [q, hT p hp] at g1
        cases g1
        cases g2
    have e0 : Env0 P w K mg (hidT s₁.heap H) callerA [] s₁ H := ⟨rfl, ⟨hKb, nsK hns, ⟨mb, nsK hb, hbb⟩, ⟨mc, nsK l1, l2⟩⟩, fun b o e => of_hidT e, Nat.le_of_eq (hidT_size _ _), trivial, fun b hb => absurd (show b ∈ ([] : List Addr) from hb) (by simp), hok, .of_eq hg⟩
    refine codeAny_mono ((F _ hKb (nsK hns) hB).run callerA [] s₁ H ⟨[.ref a], []⟩ [.ref a] [.ref a] _ _ rfl hr e0 (hbind s₁ (.ref a)) (.cons rfl .nil) (hsp H hH hS)) fun r s' h => ?_
    match r, h with
    | .error er, h => exact (hCX H er s' h).elim
    | .ok .next, h => exact False.elim h
    | .ok .brk, h => exact False.elim h
    | .ok .cont, h => exact False.elim h
    | .ok (.ret u), h =>
      obtain ⟨v, H', hos, bare, un, hok', r', q⟩ := h
      cases (show v = .bl true from q)
      cases (show u = Value.bool true from r')
      -- an object of the entry: as it was, or a table that has grown
      have was : ∀ b o, s₁.heap.get? b = some o → s'.heap.get? b = some o ∨ (b ∈ ts ∧ ∃ more : Array Value, s'.heap.get? b = some { cls := .none, data := .fields more }) := fun b o e => by
        rcases hO b with z | z | ⟨_, _, ob, xs, z⟩
        · exact .inl (un.keep b o e z (fun y => absurd (show b ∈ ([] : List Addr) from y) (by simp)) (by simp))
        · obtain ⟨more, q⟩ := un.tbls b #[] (hH b z)
          exact .inr ⟨z, _, hok' b _ q⟩
        · obtain ⟨e1, _⟩ := hok b _ z
          obtain ⟨e2, _⟩ := hok' b _ (un.frzs b ob _ z)
          rw [e] at e1
          cases e1
          exact .inl e2
      refine ⟨rfl, ⟨fun b o e => ?_, fun b o e => ?_⟩, hos, bare⟩
      · rcases was b o e with q | ⟨hm, more, q⟩
        · exact .inl q
        · obtain ⟨c, hc⟩ := cT b hm
          rw [hT b hm] at e
          cases e
          exact .inr (.inl ⟨((PySem.W.codeHd_of_K KX hc).tab (hT b hm)).isCodeTable, rfl, #[], more, rfl, by rw [Array.empty_append]; exact q⟩)
      · rcases was b o e with q | ⟨_, more, q⟩
        · exact ⟨_, q⟩
        · exact ⟨_, q⟩
  have tab : ∀ {H : Hp} {b : Addr}, b ∈ ts → ObjOk P w H s₁.heap b (.tbl #[]) := fun hb => hT _ hb
  by_cases hk : K.lookup a = none
  · refine main (fun b => if b = a then some (.frz { cls := .type "list", data := .seq vs.toArray } (.lst (ns.map V.int))) else if b ∈ ts then some (.tbl #[]) else none) (fun p hp => ?_) (fun b => ?_) (.inl (.inr ⟨_, if_pos rfl⟩)) (fun b u z => ?_)
    · have n : p ≠ a := fun z => aT (z ▸ hp)
      rw [if_neg n, if_pos hp]
    · by_cases h1 : b = a
      · exact .inr (.inr ⟨h1, hk, _, _, if_pos h1⟩)
      · by_cases h2 : b ∈ ts
        · exact .inr (.inl h2)
        · exact .inl (by rw [if_neg h1, if_neg h2])
    · dsimp only at z
      by_cases h1 : b = a
      · rw [if_pos h1] at z
        cases z
        rw [h1]
        exact ⟨ha, by rw [List.length_map]; exact hl, vs, _, rv, ha⟩
      · rw [if_neg h1] at z
        by_cases h2 : b ∈ ts
        · rw [if_pos h2] at z
          cases z
          exact tab h2
        · rw [if_neg h2] at z
          cases z
  · obtain ⟨o, ho⟩ := Option.ne_none_iff_exists'.mp hk
    have e := KX a o ho
    rw [ha] at e
    cases e
    refine main (fun b => if b ∈ ts then some (.tbl #[]) else none) (fun p hp => if_pos hp) (fun b => ?_) (.inr ⟨_, vs.toArray, _, ho, rfl, rfl, rfl, by rw [List.size_toArray, lenV]; exact hl, by simpa using rv⟩) (fun b u z => ?_)
    · by_cases h2 : b ∈ ts
      · exact .inr (.inl h2)
      · exact .inl (if_neg h2)
    · dsimp only at z
      by_cases h2 : b ∈ ts
      · rw [if_pos h2] at z
        cases z
        exact tab h2
      · rw [if_neg h2] at z
        cases z
theorem walk_ofTG {l : PySem.W.OpenLaw} {n k : Nat} {q : Program} {loose : List Str} {XP : (Str → Option Value) → Heap → Prop} {YP : World → Heap → Prop} {d : DefRec} {CX : CXT} {x : Str}
    (hn : l.most = some n) (hn2 : n ≤ sizeLine) (hdf : d.params.defaults = []) (hr : Room k callerA)
    (F : ∀ (w : World) (mg : Str → Option Value) (fa : Addr) (h : Heap), YP w h → h.Ns mainGlobals mg → mg d.name = some (.ref fa) →
      ∃ (K : PySem.W.Frag) (ts : List Addr) (fd : FuncData) (sp : Sp), K.In h ∧ (∀ p ∈ ts, h.get? p = some { cls := .none, data := .fields #[] }) ∧ (∀ p ∈ ts, K.lookup p = none) ∧ (∀ p ∈ ts, ∃ c, PySem.W.codeHdIn K c p = true) ∧ (∀ (s : Shared) (u : Value), BindsTo s fd ⟨[u], []⟩ [(x, u)]) ∧
        (∀ (H : Hp) (a : Addr) (ns : List Int), ns.length ≤ n → (∀ z ∈ ns, Builtin.Int.intBits z ≤ 1048576) → (∀ p ∈ ts, H p = some (.tbl #[])) → SqL K H a (ns.map V.int) → sp [.ref a] H (fun v _ => v = .bl true) fun _ _ _ => False) ∧
        ∀ base : Heap, K.In base → base.Ns mainGlobals mg → (∀ p ∈ ts, base.BuiltinsAt mg p ∧ mainGlobals ≠ p) → FnOkG l.prog w K mg base CX k fa fd [x] sp)
    (hCX : ∀ (H : Hp) (s : Shared) (e : Value) (s' : Shared), CX [] H s (fun _ _ _ => False) e s' → False) :
    PySem.W.WalkO q loose XP YP l.row.toRowW d [] (fun f vs => PySem.call f vs) := by
  refine Att.attach_callB hn hdf fun w s₀ s₁ mg mb fa o pm cd doc a vs ns G Y ho hd hcd hmg hobj hints hlen hbits hg => ?_
  obtain ⟨K, ts, fd, sp, KX, hT, nT, cT, hb, hsp, hF⟩ := F w mg fa _ Y G.T.g hmg
  exact law_callTG KX G.T.g G.T.b G.T.builtins G.T.nolimit hg hT nT cT G.T.bmain hobj hints (Nat.le_trans hlen hn2) hr hF hb (fun H hH hS => hsp H a ns hlen hbits hH hS) fun H e s' => hCX H s₁ e s'
end L2
namespace He
open PySem PySem.Spec PyProof.Rows L2
/-! ### the head's facts, with the defs whose tables are empty -/
def frY (n : Nat) (g : Addr → Option Obj) : PySem.W.Frag := frT g (cStatics :: sysModules :: asD g n)
def obsY (n : Nat) (fa : List Fa) (fn : List DefD) (tf : List Defn) (ex : PySem.W.Frag → Bool) (g : Addr → Option Obj) : AlZ := (obsD fa fn (frY n g), ex (frY n g) && tabsB g tf (frY n g))
structure SaysY (fa : List Fa) (fn : List DefD) (tf : List Defn) (ex : PySem.W.Frag → Bool) (h : Heap) (K : PySem.W.Frag) : Prop where
  d : SaysD fa fn K
  more : ex K = true
  hd : ∀ p ∈ tf, PySem.W.codeHdIn K (cT K p).1 (cT K p).2 = true
  out : ∀ p ∈ tf, K.lookup (cT K p).2 = none
  empty : ∀ p ∈ tf, h.get? (cT K p).2 = some { cls := .none, data := .fields #[] }
theorem saysY_of {n : Nat} {fa : List Fa} {fn : List DefD} {tf : List Defn} {ex : PySem.W.Frag → Bool} {h : Heap} (e : obsY n fa fn tf ex h.get? = valZ fn) : SaysY fa fn tf ex h (frY n h.get?) := by
  have e1 : obsD fa fn (frY n h.get?) = valD fn := congrArg (fun z : AlZ => z.1) e
  have e2 : (ex (frY n h.get?) && tabsB h.get? tf (frY n h.get?)) = true := congrArg (fun z : AlZ => z.2) e
  obtain ⟨h1, h2⟩ := ba e2
  have key : ∀ p ∈ tf, PySem.W.codeHdIn (frY n h.get?) (cT (frY n h.get?) p).1 (cT (frY n h.get?) p).2 = true ∧ ∃ o, h.get? (cT (frY n h.get?) p).2 = some o ∧ emptyTab o = true := fun p hp => by
    obtain ⟨h3, h4⟩ := ba (List.all_eq_true.mp h2 p hp)
    refine ⟨h3, ?_⟩
    split at h4
    · rename_i o q
      exact ⟨o, q, h4⟩
    · cases h4
  refine ⟨e1, h1, fun p hp => (key p hp).1, fun p hp => ?_, fun p hp => ?_⟩ <;> obtain ⟨_, o, q, z⟩ := key p hp
  · exact frT_none q z
  · rw [q, emptyTab_eq z]
def hookY (n : Nat) (fa : List Fa) (fn : List DefD) (tf : List Defn) (ex : PySem.W.Frag → Bool) : PySem.W.Hook where
  α := AlZ
  obs := fun s => obsY n fa fn tf ex s.heap.get?
  val := fun _ => valZ fn
  says := fun _ h => ∃ K : PySem.W.Frag, K.In h ∧ SaysY fa fn tf ex h K
  of := fun _ _ e => ⟨_, frT_in, saysY_of e⟩
  keeps := fun _ _ _ ⟨K, hK, c⟩ k => ⟨K, PySem.W.Frag.In.keeps hK k, ⟨c.d, c.more, c.hd, c.out, fun p hp => k _ _ (c.empty p hp)⟩⟩
theorem obsY_eq {n : Nat} {fa : List Fa} {fn : List DefD} {tf : List Defn} {ex : PySem.W.Frag → Bool} {g : Addr → Option Obj} {s : Shared} (h : ∀ a, g a = s.heap.get? a) : obsY n fa fn tf ex g = (hookY n fa fn tf ex).obs s := by
  have e : g = s.heap.get? := funext h
  rw [e] <;> rfl
end He

set_option maxHeartbeats 4000000
namespace L2
open PySem PySem.Spec PyProof.Rows
/-! ### how many unlike numbers a tuple has -/
theorem nd_le : ∀ (ks ns : List Int), ks.Nodup → (∀ k ∈ ks, k ∈ ns) → ks.length ≤ ns.length
  | [], _, _, _ => Nat.zero_le _
  | x :: r, ns, nd, h => by
    have nd' := List.nodup_cons.mp nd
    have hx := h x List.mem_cons_self
    have e := List.length_erase_of_mem hx
    have p := List.length_pos_of_mem hx
    have z := nd_le r (ns.erase x) nd'.2 fun k hk => (List.mem_erase_of_ne (fun q => nd'.1 (by rw [← q]; exact hk))).mpr (h k (List.mem_cons_of_mem _ hk))
    rw [List.length_cons]
    omega
theorem nd_of_le : ∀ (ns ks : List Int), ks.Nodup → (∀ k ∈ ks, k ∈ ns) → ns.length ≤ ks.length → ns.Nodup
  | [], _, _, _, _ => List.nodup_nil
  | y :: t, ks, nd, h, hl => by
    rw [List.length_cons] at hl
    have no : y ∉ t := fun hy => by
      have z := nd_le ks t nd fun k hk => (List.mem_cons.mp (h k hk)).elim (fun q => by rw [q]; exact hy) id
      omega
    refine List.nodup_cons.mpr ⟨no, nd_of_le t (ks.erase y) (nd.erase y) (fun k hk => ?_) ?_⟩
    · have hk' := (List.Nodup.mem_erase_iff nd).mp hk
      exact (List.mem_cons.mp (h k hk'.2)).resolve_left hk'.1
    · have z := List.length_erase (l := ks) (a := y)
      split at z <;> omega
theorem distinct_len {ks ns : List Int} (nd : ks.Nodup) (hm : ∀ k, k ∈ ns ↔ k ∈ ks) : ks.length ≤ ns.length ∧ (ks.length = ns.length ↔ ns.Nodup) :=
  ⟨nd_le ks ns nd fun k hk => (hm k).mpr hk, fun e => nd_of_le ns ks nd (fun k hk => (hm k).mpr hk) (Nat.le_of_eq e.symm), fun h =>
    Nat.le_antisymm (nd_le ks ns nd fun k hk => (hm k).mpr hk) (nd_le ns ks h fun k hk => (hm k).mp hk)⟩
/-- len(set(e)), e a tuple of ints -/
def tLenSetT (K : PySem.W.Frag) (ta : TE) : TE := fun σ H Q => ta σ H fun x H1 => ∃ (l : Addr) (ns : List Int), x = .ref l ∧ SqT K H1 l (ns.map V.int) ∧ ns.length ≤ 4000 ∧ ∀ c : Nat, c ≤ ns.length → (c = ns.length ↔ ns.Nodup) → Q (.int c) H1
theorem pe_lenSetT {X : Cx} {a : Expr} {ta : TE} {p p2 q pos : Pos} (hg : Gl X "len") (hm : X.mg "len" = none) (hg2 : Gl X "set") (hm2 : X.mg "set" = none) (ha : PE X a ta) (hc : X.calm = true := by rfl)
    (na : starEach [a] X.env = (false, eval a X.env) :: starEach [] X.env := by rfl) : PE X (.Call (.Name "len" p) [.Call (.Name "set" p2) [a] [] q] [] pos) (tLenSetT X.K ta) := by
  refine ⟨fun pins s σ H Q I h => ?_⟩
  refine Call_ (ld_blt I hg hm boot_len ?_)
  refine PyProof.Rows.callWith_builtin1 (PyProof.Rows.args_cons ?_ rfl) rfl rfl
  refine Call_ (ld_blt I hg2 hm2 boot_set ?_)
  refine PyProof.Rows.callWith_type1 (PyProof.Rows.args_cons (thn (ha.run pins s σ H _ I h) fun v s1 ⟨x, H1, I1, r1, q1⟩ => PyProof.Rows.args_nil ?_) na) na rfl
  obtain ⟨l, ns, rfl, hq, hl, q1⟩ := q1
  cases r1
  obtain ⟨its, r, pl, hz⟩ := I1.tuple hq
  refine call_set_tupI ns (I1.ok.hd hc) pl (by simpa using RZ.intsAre_vals r) (by unfold scanBound; omega) fun h' tk c hS hcl hk => ?_
  refine PyProof.Rows.args_nil ?_
  obtain ⟨o, es, ep, t, ho, hex, hd, g, nd, hm', hb, hf, hn, _⟩ := hS
  have I2 : Inv X pins σ H1 { s1 with heap := h', toks := tk } := I1.kept hk
  have hk1 : ∀ k, k ∈ ns ↔ k ∈ es.toList.map keyOf := fun k => by
    rw [← hm' k, decide_eq_true_iff]
  obtain ⟨d1, d2⟩ := distinct_len nd hk1
  have el : (es.toList.map keyOf).length = c := by rw [List.length_map, Array.length_toList, hn]
  rw [el] at d1 d2
  exact call_len_set ho hex hd hf (by rw [hn] <;> omega) ⟨.int c, H1, I2.tok _, ⟨_, by rw [hn]⟩, q1 c d1 d2⟩
end L2

set_option maxHeartbeats 4000000
namespace L2
open PySem PySem.Spec PyProof.Rows
/-! ### what kind of thing it is -/
def isTupD : PyData → Bool
  | .tuple _ => true
  | _ => false
def isListD : PyData → Bool
  | .list _ => true
  | _ => false
def isIntD : PyData → Bool
  | .int _ => true
  | .bool _ => true
  | _ => false
def isBoolD : PyData → Bool
  | .bool _ => true
  | _ => false
def isStrD : PyData → Bool
  | .str _ => true
  | _ => false
def isDictD : PyData → Bool
  | .dict _ => true
  | _ => false
structure KindD (K : PySem.W.Frag) (d : PyData) (T : String) : Prop where
  int : PySem.W.kitOne K (.type T) (.type "int") = some (isIntD d)
  bool : PySem.W.kitOne K (.type T) (.type "bool") = some (isBoolD d)
  str : PySem.W.kitOne K (.type T) (.type "str") = some (isStrD d)
  tup : PySem.W.kitOne K (.type T) (.type "tuple") = some (isTupD d)
  lst : PySem.W.kitOne K (.type T) (.type "list") = some (isListD d)
  dic : PySem.W.kitOne K (.type T) (.type "dict") = some (isDictD d)
theorem kd_non {K : PySem.W.Frag} : KindD K .none "NoneType" := ⟨kit_ty (show kitB "NoneType" "int" = some false by decide +kernel), kit_ty (show kitB "NoneType" "bool" = some false by decide +kernel), kit_ty (show kitB "NoneType" "str" = some false by decide +kernel), kit_ty (show kitB "NoneType" "tuple" = some false by decide +kernel), kit_ty (show kitB "NoneType" "list" = some false by decide +kernel), kit_ty (show kitB "NoneType" "dict" = some false by decide +kernel)⟩
theorem kd_bl {K : PySem.W.Frag} {b : Bool} : KindD K (.bool b) "bool" := ⟨kit_ty (show kitB "bool" "int" = some true by decide +kernel), kit_ty (show kitB "bool" "bool" = some true by decide +kernel), kit_ty (show kitB "bool" "str" = some false by decide +kernel), kit_ty (show kitB "bool" "tuple" = some false by decide +kernel), kit_ty (show kitB "bool" "list" = some false by decide +kernel), kit_ty (show kitB "bool" "dict" = some false by decide +kernel)⟩
theorem kd_int {K : PySem.W.Frag} {i : Int} : KindD K (.int i) "int" := ⟨kit_ty (show kitB "int" "int" = some true by decide +kernel), kit_ty (show kitB "int" "bool" = some false by decide +kernel), kit_ty (show kitB "int" "str" = some false by decide +kernel), kit_ty (show kitB "int" "tuple" = some false by decide +kernel), kit_ty (show kitB "int" "list" = some false by decide +kernel), kit_ty (show kitB "int" "dict" = some false by decide +kernel)⟩
theorem kd_str {K : PySem.W.Frag} {x : Str} : KindD K (.str x) "str" := ⟨kit_ty (show kitB "str" "int" = some false by decide +kernel), kit_ty (show kitB "str" "bool" = some false by decide +kernel), kit_ty (show kitB "str" "str" = some true by decide +kernel), kit_ty (show kitB "str" "tuple" = some false by decide +kernel), kit_ty (show kitB "str" "list" = some false by decide +kernel), kit_ty (show kitB "str" "dict" = some false by decide +kernel)⟩
theorem kd_lst {K : PySem.W.Frag} {ds : List PyData} : KindD K (.list ds) "list" := ⟨kit_ty (show kitB "list" "int" = some false by decide +kernel), kit_ty (show kitB "list" "bool" = some false by decide +kernel), kit_ty (show kitB "list" "str" = some false by decide +kernel), kit_ty (show kitB "list" "tuple" = some false by decide +kernel), kit_ty (show kitB "list" "list" = some true by decide +kernel), kit_ty (show kitB "list" "dict" = some false by decide +kernel)⟩
theorem kd_tup {K : PySem.W.Frag} {ds : List PyData} : KindD K (.tuple ds) "tuple" := ⟨kit_ty (show kitB "tuple" "int" = some false by decide +kernel), kit_ty (show kitB "tuple" "bool" = some false by decide +kernel), kit_ty (show kitB "tuple" "str" = some false by decide +kernel), kit_ty (show kitB "tuple" "tuple" = some true by decide +kernel), kit_ty (show kitB "tuple" "list" = some false by decide +kernel), kit_ty (show kitB "tuple" "dict" = some false by decide +kernel)⟩
theorem kd_dic {K : PySem.W.Frag} {ds : List (PyData × PyData)} : KindD K (.dict ds) "dict" := ⟨kit_ty (show kitB "dict" "int" = some false by decide +kernel), kit_ty (show kitB "dict" "bool" = some false by decide +kernel), kit_ty (show kitB "dict" "str" = some false by decide +kernel), kit_ty (show kitB "dict" "tuple" = some false by decide +kernel), kit_ty (show kitB "dict" "list" = some false by decide +kernel), kit_ty (show kitB "dict" "dict" = some true by decide +kernel)⟩
theorem Dq.kind {K : PySem.W.Frag} {H : Hp} {v : V} {d : PyData} (h : Dq K H v d) : ∃ T : String, TyX K H v (.type T) ∧ KindD K d T := by
  cases h with
  | non => exact ⟨_, .base .non, kd_non⟩
  | bl b => exact ⟨_, .base (.bl b), kd_bl⟩
  | int i => exact ⟨_, .base (.int i), kd_int⟩
  | str x => exact ⟨_, .base (.str x), kd_str⟩
  | lst hs _ =>
    refine ⟨_, ?_, kd_lst⟩
    rcases hs with (e | ⟨o, e⟩) | ⟨o, its, n, hk, hc, _⟩
    · exact .base (.lst e)
    · exact .base (.frz e)
    · exact .kList hk hc
  | tup hs _ =>
    refine ⟨_, ?_, kd_tup⟩
    rcases hs with (e | ⟨o, e⟩) | ⟨o, its, n, hk, hc, _⟩
    · exact .base (.tup e)
    · exact .fTuple e
    · exact .kTuple hk hc
  | dic e _ => exact ⟨_, .base (.dK e), kd_dic⟩
theorem Dq.ty {K : PySem.W.Frag} {H : Hp} {v : V} {d : PyData} (h : Dq K H v d) : ∃ (T : String) (b : Bool), TyX K H v (.type T) ∧ PySem.W.kitOne K (.type T) (.type "str") = some b ∧ (b = true → ∃ y : Str, v = .str y ∧ d = .str y) := by
  obtain ⟨T, ty, kd⟩ := h.kind
  refine ⟨T, _, ty, kd.str, fun e => ?_⟩
  cases h with
  | str x => exact ⟨x, rfl, rfl⟩
  | _ => cases e
theorem same_seqT {K : PySem.W.Frag} {H H' : Hp} {a : Addr} {xs : List V} (s : Same H H') (h : SqT K H a xs) : SqT K H' a xs := by
  rcases h with (h | ⟨o, h⟩) | h
  · exact .inl (.inl (s _ _ h))
  · exact .inl (.inr ⟨o, s _ _ h⟩)
  · exact .inr h
mutual
theorem Dq.same {K : PySem.W.Frag} {H H' : Hp} (s : Same H H') : ∀ {v : V} {d : PyData}, Dq K H v d → Dq K H' v d
  | _, _, .non => .non
  | _, _, .bl b => .bl b
  | _, _, .int i => .int i
  | _, _, .str x => .str x
  | _, _, .lst hs ha => .lst (s.seq hs) (DqAll.same s ha)
  | _, _, .tup hs ha => .tup (same_seqT s hs) (DqAll.same s ha)
  | _, _, .dic e ha => .dic (s _ _ e) (DqAll.same s ha)
theorem DqAll.same {K : PySem.W.Frag} {H H' : Hp} (s : Same H H') : ∀ {vs : List V} {ds : List PyData}, DqAll K H vs ds → DqAll K H' vs ds
  | _, _, .nil => .nil
  | _, _, .cons h t => .cons (Dq.same s h) (DqAll.same s t)
end
theorem DqAll.at {K : PySem.W.Frag} {H : Hp} : ∀ {vs : List V} {ds : List PyData}, DqAll K H vs ds → ∀ {i : Nat} {v : V}, vs[i]? = some v → ∃ d, ds[i]? = some d ∧ Dq K H v d
  | _, _, .cons h t, 0, v, e => ⟨_, rfl, by
      cases e
      exact h⟩
  | _, _, .cons h t, i + 1, v, e => DqAll.at t e
/-! ### numbers within bounds -/
def numD : PyData → Bool
  | .int _ => true
  | _ => false
def withinD (lo hi : Int) : PyData → Bool
  | .int i => decide (lo ≤ i) && decide (i ≤ hi)
  | _ => false
def lineD (m lo hi : Int) : PyData → Bool
  | .tuple ds => decide (1 ≤ ds.length) && decide ((ds.length : Int) ≤ m) && ds.all (withinD lo hi)
  | _ => false
def intsD (ds : List PyData) : List Int := ds.map fun
  | .int i => i
  | _ => 0
theorem numD_eq (d : PyData) : numD d = (isIntD d && !isBoolD d) := by cases d <;> rfl
/-- the members are all numbers: as V -/
theorem DqAll.ints {K : PySem.W.Frag} {H : Hp} : ∀ {vs : List V} {ds : List PyData}, DqAll K H vs ds → ds.all numD = true → vs = (intsD ds).map V.int
  | _, _, .nil, _ => rfl
  | _, _, .cons (d := d) h t, e => by
    rw [List.all_cons, Bool.and_eq_true] at e
    have ih := DqAll.ints t e.2
    cases h with
    | int i => exact congrArg (List.cons (V.int i)) ih
    | _ => cases e.1
theorem within_num {lo hi : Int} {d : PyData} (h : withinD lo hi d = true) : numD d = true := by cases d <;> first | rfl | cases h
theorem dq_ints {K : PySem.W.Frag} {H : Hp} : ∀ ls : List Int, DqAll K H (ls.map V.int) (ls.map PyData.int)
  | [] => .nil
  | x :: r => .cons (.int x) (dq_ints r)
theorem ints_int (ls : List Int) : intsD (ls.map PyData.int) = ls := by
  unfold intsD
  rw [List.map_map]
  exact List.map_id ls
theorem del_upd {H : Hp} {a : Addr} {o : HO} (h : H a = none) : del (upd H a o) a = H := by
  funext b
  by_cases e : b = a
  · rw [e, del_same, h]
  · rw [del_ne e, upd_ne e]
/-- len of a list or a tuple -/
def rLenS (K : PySem.W.Frag) : List V → Hp → VK → Prop := fun xs H Q => ∃ p ys, xs = [V.ref p] ∧ (SqL K H p ys ∨ SqT K H p ys) ∧ Q (.int ys.length) H
theorem call_lenK {X : Cx} : CallR X (.builtin "len") (rLenS X.K) := call_len_seq
end L2

set_option maxHeartbeats 4000000
namespace L2
open PySem PySem.Spec PyProof.Rows LamX
/-! ### along a growth of tables -/
theorem extN_seqL {K : PySem.W.Frag} {H H' : Hp} {a : Addr} {xs : List V} (s : ExtN H H') (h : SqL K H a xs) : SqL K H' a xs := by
  rcases h with (h | ⟨o, h⟩) | h
  · exact .inl (.inl (s _ _ h (fun _ z => by cases z)))
  · exact .inl (.inr ⟨o, s _ _ h (fun _ z => by cases z)⟩)
  · exact .inr h
theorem extN_seqT {K : PySem.W.Frag} {H H' : Hp} {a : Addr} {xs : List V} (s : ExtN H H') (h : SqT K H a xs) : SqT K H' a xs := by
  rcases h with (h | ⟨o, h⟩) | h
  · exact .inl (.inl (s _ _ h (fun _ z => by cases z)))
  · exact .inl (.inr ⟨o, s _ _ h (fun _ z => by cases z)⟩)
  · exact .inr h
mutual
theorem Dq.extN {K : PySem.W.Frag} {H H' : Hp} (s : ExtN H H') : ∀ {v : V} {d : PyData}, Dq K H v d → Dq K H' v d
  | _, _, .non => .non
  | _, _, .bl b => .bl b
  | _, _, .int i => .int i
  | _, _, .str x => .str x
  | _, _, .lst hs ha => .lst (extN_seqL s hs) (DqAll.extN s ha)
  | _, _, .tup hs ha => .tup (extN_seqT s hs) (DqAll.extN s ha)
  | _, _, .dic e ha => .dic (s _ _ e (fun _ z => by cases z)) (DqAll.extN s ha)
theorem DqAll.extN {K : PySem.W.Frag} {H H' : Hp} (s : ExtN H H') : ∀ {vs : List V} {ds : List PyData}, DqAll K H vs ds → DqAll K H' vs ds
  | _, _, .nil => .nil
  | _, _, .cons h t => .cons (Dq.extN s h) (DqAll.extN s t)
end
theorem Same.extN {H H' : Hp} (s : Same H H') : ExtN H H' := fun b o e _ => s b o e
theorem Tabs.same {T : List (Addr × Str)} {H H' : Hp} (t : Tabs T H) (s : Same H H') : Tabs T H' := t.ext s
/-! ### a statement's reading, said otherwise -/
theorem PS.imp {X : Cx} {st : Stmt} {t t' : TS} (h : PS X st t) (i : ∀ D σ H, t' D σ H → t D σ H) : PS X st t' := ⟨fun pins s σ H D I q => h.run pins s σ H D I (i D σ H q)⟩
theorem PSs.imp {X : Cx} {st : List Stmt} {t t' : TS} (h : PSs X st t) (i : ∀ D σ H, t' D σ H → t D σ H) : PSs X st t' := ⟨fun pins s σ H D I q => h.run pins s σ H D I (i D σ H q)⟩
theorem PE.imp {X : Cx} {e : Expr} {t t' : TE} (h : PE X e t) (i : ∀ σ H Q, t' σ H Q → t σ H Q) : PE X e t' := ⟨fun pins s σ H Q I q => h.run pins s σ H Q I (i σ H Q q)⟩
/-- what holds is kept -/
def tKeep (J : St → Hp → Prop) : TS := fun D σ H => J σ H ∧ ∀ σ' H', J σ' H' → D.nx σ' H'
/-- from one to another -/
def tTo (J J' : St → Hp → Prop) : TS := fun D σ H => J σ H ∧ ∀ σ' H', J' σ' H' → D.nx σ' H'
section
variable {X : Cx} {ι : Type} {κ : ι → LamK} {k : Nat} {CS g : Addr} {x a c y z : Str} {e : Expr} {te : TE} {p pos : Pos}
theorem pe_caughtF {pg : Arguments} {bg : List Stmt} {sg : Scope} {fd : FuncData} {p1 p2 p3 p4 p5 p6 p7 p8 p9 p10 p11 p12 p13 p14 : Pos} {j : Nat} (F : FunD X.K x x pg bg sg [] [] g fd) (hb : L2.Binds X.K fd [a] [])
    (hbg : bg = catchBody a c y z p1 p2 p3 p4 p5 p6 p7 p8 p9 p10 p11 p12 p13 p14 j) (Sg : FnScope [a, c, z] [a] sg) (hva : Vis sg a) (hlc : sg.names.lookup c = some .local) (hlz : sg.names.lookup z = some .local) (hgy : sg.names.lookup y = some .globalImplicit) (hmy : X.mg y = some (.ref CS))
    (he : PE X e te) (hg : Gl X x) (hm : X.mg x = some (.ref g)) (hr : Room (k + 2) X.A) (G : ∀ i, LamGood X k (κ i))
    (hdb : (x == ("__debug__" : Str)) = false := by decide) (hd : (a == ("__debug__" : Str)) = false := by decide) (hcd : (a == ("__classdict__" : Str)) = false := by decide) (hdc : (c == ("__debug__" : Str)) = false := by decide) (hcdc : (c == ("__classdict__" : Str)) = false := by decide) (hdz : (z == ("__debug__" : Str)) = false := by decide) (hcdz : (z == ("__classdict__" : Str)) = false := by decide) (hdy : (y == ("__debug__" : Str)) = false := by decide)
    (hse : starEach [e] X.env = (false, eval e X.env) :: starEach [] X.env := by rfl) :
    PE X (.Call (.Name x p) [e] [] pos) (tCaught X CS (X.env.qual ++ "<lambda>") κ te) := by
  have kp := F.kp
  obtain ⟨oc, od, dV, kV, doc, pm, an, cdv, ct, osl, rfl, lk, hcd', _, _⟩ := F.ex
  exact pe_caught lk hcd' hb hbg Sg hva (Or.inl hlc) (Or.inl hlz) hlc hlz hgy hmy he hg hm kp hr G rfl hdb hd hcd hdc hcdc hdz hcdz hdy hse
end
end L2

set_option maxHeartbeats 4000000
namespace L2
open PySem PySem.Spec PyProof.Rows
section
variable {X : Cx} {CX : CXT} {k : Nat} {f : Addr} {fd : FuncData} {ps ks : List Str} {sp : Sp} {E : XK} {x : Str} {p pos : Pos} {kws : List Keyword} {tk : TA} {g : List Value → List Value → List Value} {gV : List V → List V → List V}
/-- f(k = v, ..) -/
theorem pe_callk0 (F : FnOk X.prog X.w X.K X.mg X.base CX k f fd ps sp) (hr : Room k X.A) (hg : Gl X x) (hm : X.mg x = some (.ref f)) (hk : PySem.W.keepIn X.K (.ref f) = true) (hb : KBn X.K fd ps 0 ks g gV) (hx : Passes CX X E) (hkw : PK X kws tk)
    (hall : (backToKw pos (keywordEach kws X.env)).all (·.1.isSome) = true := by rfl) (hks : (backToKw pos (keywordEach kws X.env)).filterMap (·.1) = ks := by rfl) (hdb : (x == ("__debug__" : Str)) = false := by decide)
    (hpl : ((backTo pos (starEach [] X.env)).any (·.1) || (backToKw pos (keywordEach kws X.env)).any (·.1.isNone)) = false := by rfl) :
    PE X (.Call (.Name x p) [] kws pos) (fun σ H Q => tk σ H fun zs H2 => zs.length = ks.length ∧ sp (gV [] zs) H2 Q E) := by
  refine ⟨fun pins s σ H Q I h => ?_⟩
  refine wpAny_Call_Name_kw (ld_glob I hg hm ?_ hdb)
  refine PySem.W.callWith_KW0 (h₀ := X.base) I.ok.mod.kin hk hall ?_ hpl
  refine thn (hkw.run pos pins s σ H _ I h) fun ws s2 ⟨zs, H2, I2, rz, l2, q2⟩ => ⟨I2.kIn, ?_⟩
  rw [hks]
  exact run_fnN F hr hb hx I2 .nil rz rfl l2 q2
end
theorem kb0 {K : PySem.W.Frag} {x qual : Str} {params : Arguments} {body : List Stmt} {scope : Scope} {kws : List (Str × V)} {f : Addr} {fd : FuncData} {ps ks : List Str} {g : List Value → List Value} {gV : List V → List V} (F : FunD K x qual params body scope [] kws f fd)
    (h : ∀ (kV doc pm : Value) (an : Option Addr) (cdv ct : Value) (ws : List Value), ws.length = ks.length → bindArgs (PySem.W.fnOf x qual params body scope .none kV doc pm an cdv ct) ⟨[], ks.zip ws⟩ = pure (ps.zip (g ws))) (hr : ∀ {zs : List V} {ws : List Value}, Vals zs ws → Vals (gV zs) (g ws)) :
    KBn K fd ps 0 ks (fun _ ws => g ws) (fun _ zs => gV zs) := by
  obtain ⟨oc, od, dV, kV, doc, pm, an, cdv, ct, osl, rfl, lk, hcd, hD, hK⟩ := F.ex
  rcases hD with ⟨_, rfl⟩ | ⟨e, _⟩
  · refine ⟨fun s us ws X l1 l2 => ?_, fun r1 r2 => hr r2⟩
    have e : us = [] := List.eq_nil_of_length_eq_zero l1
    subst e
    exact .of_eq (h kV doc pm an cdv ct ws l2)
  · exact absurd rfl e
/-- three values the other way -/
def rev3 {α : Type} : List α → List α
  | [a, b, c] => [c, b, a]
  | l => l
theorem vals_rev3 {zs : List V} {ws : List Value} (r : Vals zs ws) : Vals (rev3 zs) (rev3 ws) := by
  match zs, ws, r with
  | [], _, .nil => exact .nil
  | [_], _, .cons a .nil => exact .cons a .nil
  | [_, _], _, .cons a (.cons b .nil) => exact .cons a (.cons b .nil)
  | [_, _, _], _, .cons a (.cons b (.cons c .nil)) => exact .cons c (.cons b (.cons a .nil))
  | _ :: _ :: _ :: _ :: _, _, .cons a (.cons b (.cons c (.cons d r))) => exact .cons a (.cons b (.cons c (.cons d r)))
end L2

set_option maxHeartbeats 4000000
namespace L2
open PySem PySem.Spec PyProof.Rows
/-! ### a tuple of numbers as data -/
theorem w_int {i : Int} (h : i.natAbs < 10 ^ 12) : PyData.weight (.int i) ≤ 41 := by
  show (if i == 0 then 0 else i.natAbs.log2 + 1) ≤ 41
  split
  · omega
  · rename_i hz
    have h0 : i.natAbs ≠ 0 := fun z => hz (by simpa using z)
    have h1 : i.natAbs < 2 ^ 40 := Nat.lt_trans h (by decide)
    have h2 := (Nat.log2_lt h0).mpr h1
    omega
theorem w_ints : ∀ {ns : List Int}, (∀ n ∈ ns, n.natAbs < 10 ^ 12) → PyData.weightAll (ns.map .int) ≤ 42 * ns.length
  | [], _ => Nat.le_refl _
  | n :: r, h => by
    have h1 := w_int (h n List.mem_cons_self)
    have h2 := w_ints fun m hm => h m (List.mem_cons_of_mem _ hm)
    show PyData.weight (.int n) + 1 + PyData.weightAll (r.map .int) ≤ 42 * (r.length + 1)
    omega
theorem lay_ints : ∀ ls : List Int, PyData.canLayAll0 (ls.map PyData.int) = true ∧ PyData.depthAll (ls.map PyData.int) ≤ 1
  | [] => ⟨rfl, by simp [PyData.depthAll]⟩
  | x :: r => by
    have ih := lay_ints r
    refine ⟨?_, ?_⟩
    · simp [PyData.canLayAll0, PyData.canLay0, ih.1]
    · simp [PyData.depthAll, PyData.depth, ih.2]
theorem show_ints : ∀ {ns : List Int}, (∀ n ∈ ns, n.natAbs < 10 ^ 12) → PyData.showableAll (ns.map .int) = true
  | [], _ => rfl
  | n :: r, h => by
    have h2 := show_ints fun m hm => h m (List.mem_cons_of_mem _ hm)
    have hn := h n List.mem_cons_self
    show (decide (n.natAbs.log2 < 1920) && PyData.showableAll (r.map .int)) = true
    rw [h2, Bool.and_true, decide_eq_true_iff]
    by_cases hz : n.natAbs = 0
    · rw [hz]
      decide
    · have h1 : n.natAbs < 2 ^ 40 := Nat.lt_trans hn (by decide)
      have := (Nat.log2_lt hz).mpr h1
      omega
structure TupData (d : PyData) : Prop where
  sh : d.showable = true
  dp : d.depth ≤ 60
  ln : d.shown.length ≤ sizeLine
  shp : SeqAt.shaped d = true
  eq : PyData.eqv d d = true
theorem tup_data {ns : List Int} (h : ∀ n ∈ ns, n.natAbs < 10 ^ 12) (hl : ns.length ≤ 4000) : TupData (.tuple (ns.map .int)) := by
  obtain ⟨l1, l2⟩ := lay_ints ns
  have hw := w_ints h
  have c0 : PyData.canLay0 (.tuple (ns.map .int)) = true := by simpa only [PyData.canLay0] using l1
  have d0 : PyData.depth (.tuple (ns.map .int)) ≤ 2 := by
    simp only [PyData.depth]
    omega
  have lay : PyData.layable0 (.tuple (ns.map .int)) = true := by
    show (PyData.canLay0 (.tuple (ns.map .int)) && decide (PyData.depth (.tuple (ns.map .int)) ≤ 64) && decide (PyData.weight (.tuple (ns.map .int)) ≤ 2 ^ 20)) = true
    rw [c0, decide_eq_true (show PyData.depth (.tuple (ns.map .int)) ≤ 64 by omega), Bool.true_and, Bool.true_and, decide_eq_true_iff]
    show PyData.weightAll (ns.map .int) ≤ 2 ^ 20
    have e : (2 : Nat) ^ 20 = 1048576 := by decide
    omega
  refine ⟨?_, by omega, ?_, ?_, SeqAt.eqv_refl _ c0⟩
  · show PyData.showableAll (ns.map .int) = true
    exact show_ints h
  · exact PyData.shown_fits_of_layable0 (B := 13) (by decide) (by decide) lay (by simpa only [PyData.intsShort] using PyData.intsShortAll_ints ns h)
  · exact SeqAt.shaped_of_layable lay
theorem dpAll_ints {K : PySem.W.Frag} {H : Hp} : ∀ ls : List Int, DpAll K H (ls.map V.int) (ls.map PyData.int)
  | [] => .nil
  | x :: r => .cons (.int x) (dpAll_ints r)
end L2

set_option maxHeartbeats 4000000
namespace L2
open PySem PySem.Spec PyProof.Rows
section
variable {X : Cx} {CX : CXT} {k i : Nat} {ι : Type} {f : ι → Addr} {fd : ι → FuncData} {ps : List Str} {sp : ι → Sp} {E : XK} {x : Str} {p pos : Pos} {e : Expr} {es : List Expr} {t : TA}
/-- x(e, ..), x a name of the def that holds one of some own defs -/
theorem pe_callVar (F : ∀ j, FnOk X.prog X.w X.K X.mg X.base CX k (f j) (fd j) ps (sp j)) (hr : Room k X.A) (hN : X.N[i]? = some x) (hv : Vis X.env.scope x) (hk : ∀ j, PySem.W.keepIn X.K (.ref (f j)) = true) (hb : ∀ j, Binds X.K (fd j) ps []) (hx : Passes CX X E)
    (ha : PA X (e :: es) t) (hd : (x == ("__debug__" : Str)) = false := by decide) (hcd : (x == ("__classdict__" : Str)) = false := by decide) (he : starEach (e :: es) X.env = (false, eval e X.env) :: starEach es X.env := by rfl) (hpl : (backTo pos (starEach es X.env)).any (·.1) = false := by rfl) :
    PE X (.Call (.Name x p) (e :: es) [] pos) (fun σ H Q => ∃ j, σ[i]? = some (some (.ref (f j))) ∧ t σ H fun vs H1 => sp j vs H1 Q E) := by
  refine ⟨fun pins s σ H Q I h => ?_⟩
  obtain ⟨j, hs, h⟩ := h
  refine wpAny_Call_Name_kw (thn ((pe_var (pos := p) hN hv hd hcd).run pins s σ H (fun v H1 => v = .ref (f j) ∧ H1 = H) I ⟨_, hs, rfl, rfl⟩) fun u s1 ⟨v, H1, I1, r1, q1⟩ => ?_)
  obtain ⟨rfl, eH⟩ := q1
  rw [eH] at I1
  obtain rfl : u = Value.ref (f j) := r1
  refine PySem.W.callWith_K (h₀ := X.base) I1.ok.mod.kin (hk j) (thn (ha.run pos pins s1 σ H _ I1 h) fun us s2 ⟨vs, H2, I2, r, q⟩ => ⟨I2.kIn, ?_⟩) he hpl
  exact run_fn (us := us) (vs := vs) (dvs := []) (ds := []) (Q := Q) (F j) hr (hb j) .nil hx I2 r (by rw [List.append_nil]; exact q)
end
end L2

set_option maxHeartbeats 4000000
/-! ### == and != by an own __eq__ that answers either -/
namespace EqO
open PySem PySem.Spec PyProof.Rows
section
variable {prog : Program} {w : World} {A : Around} {E : Value → Shared → Prop} {s : Shared} {K : PySem.W.Frag} {x C f : Addr} {ox : Obj} {od : Option Obj} {b : Value}
theorem body_ne {Q : Fin → Shared → Prop} (hu : A.units < cLine) (X : K.In s.heap) (I : PySem.W.InstAt s.heap x ox C od) (hs : PySem.W.findIn K (.ref C) "__eq__" = some (some (.ref f))) (hf : PySem.W.isFn K (.ref f) = true)
    (h : codeAny (model prog w) A (.call (.ref f) ⟨[.ref x, b], []⟩) (fun r s' => match r with
      | .ok (.ret v) => ∃ c, v = .bool c ∧ Q (.done (.ret (.bool (!c)))) s'
      | .ok _ => False
      | .error e => E e s') s) : wpAny (model prog w) A (Builtin.«object.__ne__» ⟨[.ref x, b], []⟩) Q E s := by
  unfold Builtin.«object.__ne__»
  repeat (first | with_reducible refine wpAny_cRoomFor hu ?_ | with_reducible refine PySem.W.ifBound_K X I hs hf ?_ | wp_step)
  refine codeAny_mono h fun r s' z => ?_
  match r, z with
  | .error e, z => exact z
  | .ok (.ret v), ⟨c, e, q⟩ =>
    subst e
    exact wpAny_bind (wpAny_truthy_bool (wpAny_pure q))
  | .ok .next, z => exact z.elim
  | .ok .brk, z => exact z.elim
  | .ok .cont, z => exact z.elim
theorem ifB_ne {args : List Value} {Q : Option Value → Shared → Prop} (X : K.In s.heap) (I : PySem.W.InstAt s.heap x ox C od) (hs : PySem.W.findIn K (.ref C) "__ne__" = some (some (.builtin "object.__ne__")))
    (h : wpAny (model prog w) A (call (.builtin "object.__ne__") (.ref x :: args)) (fun v s' => Q (some v) s') E s) : wpAny (model prog w) A (callSpecialIfBound? (.ref x) "__ne__" args) Q E s := by
  have fin : wpAny (model prog w) A (call (.builtin "object.__ne__") ([.ref x] ++ args) >>= fun v => pure (some v)) Q E s := wpAny_bind (wpAny_mono h (fun _ _ z => wpAny_pure z) fun _ _ z => z)
  have B : ∀ E' : Value → Shared → Prop, wpAny (model prog w) A (bindSpecial (.builtin "object.__ne__") (.ref x)) (fun r s' => r = (.builtin "object.__ne__", [.ref x]) ∧ s' = s) E' s := fun _ => wpAny_of_eq (F.cmp_object.ne.bind _) ⟨rfl, rfl⟩
  unfold callSpecialIfBound? bindSpecialIfBound?
  refine wpAny_holding (wpAny_bind (wpAny_bind (wpAny_bind (I.type.here ((PySem.W.looks_findIn X hs).here (wpAny_bind (wpAny_askSetting (wpAny_ite ?_))))))))
  split
  · refine wpAny_bind (wpAny_mono (B E) (fun r s' ⟨e1, e2⟩ => ?_) fun _ _ z => z)
    subst e1 e2
    exact wpAny_pure fin
  · refine wpAny_tryCatch (wpAny_bind (wpAny_mono (B fun _ _ => False) (fun r s' ⟨e1, e2⟩ => ?_) fun _ _ z => z.elim))
    subst e1 e2
    exact wpAny_pure fin
/-- x != b, by the own __eq__ at f -/
theorem rich_ne {tb : Value} {Q : Value → Shared → Prop} (hu : A.units + 1 < cLine) (X : K.In s.heap) (I : PySem.W.InstAt s.heap x ox C od) (hb : PySem.W.Looks (model prog w) s.heap (typeOf b) tb) (hn : PySem.W.notFirst K C tb = true) (hm : PySem.W.mroIn K C (.type "object") = some true)
    (hne : PySem.W.findIn K (.ref C) "__ne__" = some (some (.builtin "object.__ne__"))) (hs : PySem.W.findIn K (.ref C) "__eq__" = some (some (.ref f))) (hf : PySem.W.isFn K (.ref f) = true)
    (h : codeAny (model prog w) A.in1 (.call (.ref f) ⟨[.ref x, b], []⟩) (fun r s' => match r with
      | .ok (.ret v) => ∃ c, v = .bool c ∧ Q (.bool (!c)) s'
      | .ok _ => False
      | .error e => E e s') s) : wpAny (model prog w) A (richCompare .NotEq (.ref x) b) Q E s := by
  have one : wpAny (model prog w) A (tryCompare (.ref x) "__ne__" b) (fun r s' => ∃ v, r = some v ∧ Q v s') E s := by
    unfold tryCompare
    refine wpAny_bind (ifB_ne X I hne (wpAny_call (codeAny_call_builtin F.cmp_object.ne.plain F.cmpEntry_ne (PySem.W.check_slot F.cmpKind_ne F.cmpSplit_ne (I.type.andThen (PySem.W.looks_mroIn X hm)) (F.cmpArgs_ne _ _) (body_ne (A := A.in1) hu X I hs hf (codeAny_mono h fun r s' z => ?_))))))
    match r, z with
    | .error e, z => exact z
    | .ok (.ret v), ⟨c, e, q⟩ => exact ⟨c, e, wpAny_pure ⟨_, rfl, q⟩⟩
    | .ok .next, z => exact z.elim
    | .ok .brk, z => exact z.elim
    | .ok .cont, z => exact z.elim
  have hu0 : A.units < cLine := Nat.lt_of_succ_lt hu
  unfold richCompare
  simp only [oneThing_ref, cmpInfo_NotEq]
  refine wpAny_holding (wpAny_bind (wpAny_cRoomFor hu0 (wpAny_bind (I.type.here (wpAny_bind (hb.here ?_))))))
  have fin : ∀ {k : Option Value → Sem Value}, (∀ v s', Q v s' → wpAny (model prog w) A (k (some v)) Q E s') → wpAny (model prog w) A (tryCompare (.ref x) "__ne__" b >>= k) Q E s := fun hk =>
    wpAny_bind (wpAny_mono one (fun r s' ⟨v, e, q⟩ => by rw [e]; exact hk v s' q) fun _ _ z => z)
  split
  · rename_i q
    have e : PySem.W.subIn K tb (.ref C) = some false := (Bool.or_eq_true_iff.mp hn).elim (fun e => by rw [beq_iff_eq.mp e] at q; simp at q) (fun e => beq_iff_eq.mp e)
    refine wpAny_bind ((PySem.W.looks_subIn X e).here ?_)
    simp only [Bool.false_eq_true, if_false]
    exact fin fun v s' q => wpAny_pure q
  · refine wpAny_bind (wpAny_pure ?_)
    simp only [Bool.false_eq_true, if_false]
    exact fin fun v s' q => wpAny_pure q
end
end EqO
namespace L2
open PySem PySem.Spec PyProof.Rows
/-- what stands on the other side of an own ==: an instance, a list, a tuple, None -/
inductive Oth (K : PySem.W.Frag) (H : Hp) (C : Addr) : V → Prop
  | ins {b D dx : Addr} {fs : List (Str × V)} (h : H b = some (.ins D dx fs)) (n : PySem.W.notFirst K C (.ref D) = true) : Oth K H C (.ref b)
  | lst {b : Addr} {xs : List V} (h : SqL K H b xs) (n : PySem.W.notFirst K C (.type "list") = true) : Oth K H C (.ref b)
  | tup {b : Addr} {xs : List V} (h : SqT K H b xs) (n : PySem.W.notFirst K C (.type "tuple") = true) : Oth K H C (.ref b)
/-- x == y (neg: x != y) by the own __eq__ of x's class -/
def rOwn (K : PySem.W.Frag) (C : Addr) (sp : Sp) (E : XK) (neg : Bool) : R2 := fun x y H Q => ∃ (a dx : Addr) (fs : List (Str × V)), x = .ref a ∧ H a = some (.ins C dx fs) ∧ Oth K H C y ∧ sp [x, y] H (fun v H' => ∃ c, v = .bl c ∧ Q (.bl (neg ^^ c)) H') E
section
variable {X : Cx} {CX : CXT} {k : Nat} {f C : Addr} {fd : FuncData} {ps : List Str} {sp : Sp} {E : XK}
theorem Oth.looks {pins : List (Addr × Obj)} {σ : St} {H : Hp} {s : Shared} {y : V} {u : Value} (I : Inv X pins σ H s) (h : Oth X.K H C y) (r : RelV y u) : ∃ tb, PySem.W.Looks (model X.prog X.w) s.heap (typeOf u) tb ∧ PySem.W.notFirst X.K C tb = true := by
  have at_ : ∀ {b : Addr} {o : Obj} {T : Value}, s.heap.get? b = some o → o.cls = T → PySem.W.Looks (model X.prog X.w) s.heap (typeOf (.ref b)) T := fun e c A Q E s' k q => wpAny_typeOf_ref (k _ _ e) (by rw [c]; exact q)
  cases h with
  | ins h n =>
    cases r
    obtain ⟨m, J, _⟩ := ins_get I.hok h
    obtain ⟨od, J, _⟩ := J.look
    exact ⟨_, J.type, n⟩
  | lst h n =>
    cases r
    obtain ⟨its, rv, ⟨o, nn, ho, hc, _⟩, _⟩ := I.list h
    exact ⟨_, at_ ho hc, n⟩
  | tup h n =>
    cases r
    obtain ⟨its, rv, ⟨o, ho, hc, _⟩, _⟩ := I.tuple h
    exact ⟨_, at_ ho hc, n⟩
theorem op_eqOwn (F : FnOk X.prog X.w X.K X.mg X.base CX k f fd ps sp) (hr : Room k X.A) (hs : PySem.W.findIn X.K (.ref C) "__eq__" = some (some (.ref f))) (hf : PySem.W.isFn X.K (.ref f) = true) (hb : Binds X.K fd ps []) (hx : Passes CX X E) :
    OpR X (compareOp .Eq) (rOwn X.K C sp E false) := by
  intro pins s σ H x y v u Q I rx ry h
  obtain ⟨a, dx, fs, rfl, ha, ho, q⟩ := h
  cases rx
  obtain ⟨m, J, _⟩ := ins_get I.hok ha
  obtain ⟨od, J, _⟩ := J.look
  obtain ⟨tb, lt, nf⟩ := ho.looks I ry
  obtain ⟨mm, hF⟩ := I.fr
  have hun := hr.un
  refine PySem.W.cmp_K (op := .Eq) (tb := tb) (by omega) hF I.ok.mod.kin J lt nf hs hf ?_
  refine wpAny_mono (run_fn (us := [.ref a, u]) (vs := [.ref a, y]) (dvs := []) (ds := []) F hr hb .nil hx I (.cons rfl (.cons ry .nil)) (by rw [List.append_nil]; exact q)) (fun r s' z => ?_) fun _ _ z => z
  obtain ⟨v', H', I', rv, c, rfl, q'⟩ := z
  cases rv
  have q2 : Q (.bl c) H' := by
    have e : (false ^^ c) = c := by cases c <;> rfl
    rw [e] at q'
    exact q'
  exact ⟨.bl c, H', I', rfl, q2⟩
theorem op_neOwn (F : FnOk X.prog X.w X.K X.mg X.base CX k f fd ps sp) (hr : Room (k + 1) X.A) (hs : PySem.W.findIn X.K (.ref C) "__eq__" = some (some (.ref f))) (hf : PySem.W.isFn X.K (.ref f) = true) (hb : Binds X.K fd ps []) (hx : Passes CX X E)
    (hm : PySem.W.mroIn X.K C (.type "object") = some true) (hne : PySem.W.findIn X.K (.ref C) "__ne__" = some (some (.builtin "object.__ne__"))) : OpR X (compareOp .NotEq) (rOwn X.K C sp E true) := by
  intro pins s σ H x y v u Q I rx ry h
  obtain ⟨a, dx, fs, rfl, ha, ho, q⟩ := h
  cases rx
  obtain ⟨m, J, _⟩ := ins_get I.hok ha
  obtain ⟨od, J, _⟩ := J.look
  obtain ⟨tb, lt, nf⟩ := ho.looks I ry
  have hun := hr.un
  have e0 := I.env0
  have hl := F.len _ _ _ _ q
  refine EqO.rich_ne (by omega) I.kIn J lt nf hm hne hs hf ?_
  refine codeAny_mono (F.run X.A.in1 X.stack s H ⟨[.ref a, u], []⟩ [.ref a, u] [.ref a, y] _ E hr.in1 ⟨e0.frames, e0.mod, e0.bs, e0.bsz, e0.funs, e0.frf, e0.hok, e0.bare⟩ (by
    have z := hb s [.ref a, u] I.kIn (by simpa using hl)
    simpa using z) (.cons rfl (.cons ry .nil)) q) fun r s' z => ?_
  match r, z with
  | .error e, z => exact hx pins σ H s e s' I z
  | .ok (.ret w'), z =>
    obtain ⟨v', H', I', rv, c, rfl, q'⟩ := I.after z
    cases rv
    have q2 : Q (.bl (!c)) H' := by
      have e : (true ^^ c) = !c := by cases c <;> rfl
      rw [e] at q'
      exact q'
    exact ⟨c, rfl, .bl (!c), H', I', rfl, q2⟩
  | .ok .next, z => exact False.elim z
  | .ok .brk, z => exact False.elim z
  | .ok .cont, z => exact False.elim z
end
end L2

set_option maxHeartbeats 4000000
namespace He
open PySem PySem.Spec PyProof.Rows L2
/-- what == and != ask of an own class; cs: the classes whose instances may stand on the other side -/
def ownB (K : PySem.W.Frag) (C : Addr) (cs : List Addr) : Bool := decide (PySem.W.mroIn K C (.type "object") = some true) && (decide (PySem.W.findIn K (.ref C) "__ne__" = some (some (.builtin "object.__ne__"))) && (cs.all (fun D => PySem.W.notFirst K C (.ref D)) &&
  (PySem.W.notFirst K C (.type "list") && PySem.W.notFirst K C (.type "tuple"))))
structure OwnC (K : PySem.W.Frag) (C : Addr) (cs : List Addr) : Prop where
  ob : PySem.W.mroIn K C (.type "object") = some true
  ne : PySem.W.findIn K (.ref C) "__ne__" = some (some (.builtin "object.__ne__"))
  nf : ∀ D ∈ cs, PySem.W.notFirst K C (.ref D) = true
  nl : PySem.W.notFirst K C (.type "list") = true
  nt : PySem.W.notFirst K C (.type "tuple") = true
theorem ownB_ok {K : PySem.W.Frag} {C : Addr} {cs : List Addr} (h : ownB K C cs = true) : OwnC K C cs := by
  unfold ownB at h
  rw [Bool.and_eq_true, Bool.and_eq_true, Bool.and_eq_true, Bool.and_eq_true] at h
  obtain ⟨h1, h2, h3, h4, h5⟩ := h
  exact ⟨of_decide_eq_true h1, of_decide_eq_true h2, List.all_eq_true.mp h3, h4, h5⟩
end He

set_option maxHeartbeats 4000000
/-! ### a def of an own class that begins with super().m(..), m a plain def above -/
namespace L2
open PySem PySem.Spec PyProof.Rows ClX NdefX
/-- the text: f the def, D its class, cc the cell that holds D, cda the code object -/
structure SupF (K : PySem.W.Frag) (file : Str) (x qual : Str) (params : Arguments) (body : List Stmt) (scope : Scope) (D f cc cda : Addr) (fd : FuncData) : Prop where
  ex : ∃ (oc : Value) (od : Option Addr) (doc pm : Value) (an : Option Addr) (ct : Value) (osl : Array (Option Value)), fd = PySem.W.ksFn x qual params body scope .none .none doc pm an (.ref cda) ct cc ∧ K.lookup f = some ⟨oc, od, .func fd, osl⟩
  cd : PySem.W.codeIn K (.ref cda) qual = true
  co : ∃ (ccl : Value) (cdd : Option Addr) (vs : Array Value) (ccs : Array (Option Value)) (tf : Tok), K.lookup cda = some ⟨ccl, cdd, .fields vs, ccs⟩ ∧ vs[2]? = some (.str file tf)
  cell : ∃ (cl : Value) (cld : Option Addr) (csl : Array (Option Value)), K.lookup cc = some ⟨cl, cld, .cell (some (.ref D)), csl⟩
/-- what of the program itself is asked -/
structure SupP (P : Program) (file : Str) : Prop where
  file : ((P.main.file : Str) == file) = true
  no : (P.main.scope.names.lookup ("super" : Str)).isSome = false
/-- above D, m is the def at g; D counts as its own -/
structure SupC (K : PySem.W.Frag) (D : Addr) (m : Str) (g : Addr) : Prop where
  cls : ∃ cd, PySem.W.clsIn K D = some cd
  sub : PySem.W.mroIn K D (.ref D) = some true
  at_ : PySem.W.ks_superIn K D D m = some (some (.ref g))
  ty : PySem.W.typeIn K (.ref g) = some (.type "function")
  fi : PySem.W.fnIn K g = true
  op : PySem.W.nsIn K cStatics "thirdparty.any" = some none
/-- a block whose first evaluation knows where it stands -/
structure PS0 (X : Cx) (whole st : List Stmt) (t : TS) : Prop where
  run : ∀ (pins : List (Addr × Obj)) (s : Shared) (σ : L2.St) (H : Hp) (D : Ends), Inv X pins σ H s → t D σ H → _root_.PySem.wpAt (model X.prog X.w) X.A (.func whole X.env) (execs st X.env) (SP X pins D) X.xe s
/-- super().m(e, ..) as the first statement, the object in slot 0 an exception of D without a dict -/
def tSup (D : Addr) (sp : Sp) (E : XK) (ta : TA) (tr : TS) : TS := fun En σ H => ∃ a : Addr, σ[0]? = some (some (.ref a)) ∧ H a = some (exo a D none) ∧ ta σ H fun vs H1 => sp (.ref a :: vs) H1 (fun _ H2 => tr En σ H2) E
section
variable {X : Cx} {CX : CXT} {whole rest : List Stmt} {k : Nat} {D f g cc cda : Addr} {fd fdg : FuncData} {file x qual m : Str} {params : Arguments} {body : List Stmt} {scope : Scope} {ps : List Str} {sp : Sp} {E : XK} {ta : TA} {tr : TS} {ar : Arg} {e : Expr} {es : List Expr} {p0 p1 apos pos pos' : Pos} {pl : Sem Bool}
theorem ps0_super (Z : SupF X.K file x qual params body scope D f cc cda fd) (SP_ : SupP X.prog file) (C : SupC X.K D m g) (F : FnOk X.prog X.w X.K X.mg X.base CX k g fdg ps sp) (hr : Room k X.A) (hb : Binds X.K fdg ps []) (hx : Passes CX X E)
    (hm : X.mg "super" = none) (ha : PA X (e :: es) ta) (hrest : PSs X rest tr)
    (hfu : X.env.func = some f) (hco : X.env.code = .ref cda) (hcl : X.env.cells.lookup ("__class__" : Str) = some cc) (hks : X.env.kindOf "super" = some .globalImplicit) (hkc : X.env.kindOf "__class__" = some .free)
    (hp : (params.posonlyargs ++ params.args).head? = some ar) (hka : X.env.kindOf ar.arg = some .local) (hn0 : X.N[0]? = some ar.arg) (hat : (m == ("__class__" : Str)) = false := by decide)
    (hst : starEach (e :: es) X.env = (false, eval e X.env) :: starEach es X.env := by rfl) (hpl : (backTo pos (starEach es X.env)).any (·.1) = false := by rfl)
    (he : eval (.Call (.Attribute (.Call (.Name "super" p0) [] [] p1) m apos) (e :: es) [] pos) X.env = (do
      let ov ← attributeBase (.Call (.Name "super" p0) [] [] p1) m X.env (eval (.Call (.Name "super" p0) [] [] p1) X.env)
      standAt apos.atName
      let (f, first) ← holding [ov] (getMethod ov m pl)
      callWith pos f first (backTo pos (starEach (e :: es) X.env)) []) := by rfl)
    (hi : interactive X.env = false := by rfl) (hs : swapsWith (.Call (.Attribute (.Call (.Name "super" p0) [] [] p1) m apos) (e :: es) [] pos) none pos'.line X.env = pure false := by rfl) :
    PS0 X whole (.Expr (.Call (.Attribute (.Call (.Name "super" p0) [] [] p1) m apos) (e :: es) [] pos) pos' :: rest) (tSup D sp E ta tr) := by
  refine ⟨fun pins s σ H En I ⟨a, h0, hH, q⟩ => ?_⟩
  obtain ⟨oc, od, doc, pm, an, ct, osl, rfl, lf⟩ := Z.ex
  obtain ⟨ccl, cdd, vs, ccs, tf, lc, hv⟩ := Z.co
  obtain ⟨cl, cld, csl, lcc⟩ := Z.cell
  obtain ⟨cd, hcd⟩ := C.cls
  have KX := I.kIn
  obtain ⟨ox, odx, J⟩ := exo_inst I hH (fun _ z => nomatch z)
  refine PySem.ks_wpAt_execs_cons (_root_.PySem.ks_wpAt_Expr_any (pos := pos') (_root_.PySem.ks_wpAt_MethodCall (pl := pl) ?_ he) hi hs)
  refine _root_.PySem.ks_wpAt_super_base hks hkc hat hfu (KX _ _ lf) rfl hp hco (KX _ _ lc) rfl hv SP_.file SP_.no ?_
  obtain ⟨mb, b1, b2⟩ := I.mod.blt
  refine PySem.W.ks_loadName_global I.ok.kind hks (Calls.loadGlobal_builtin (by rw [I.ok.glob]; exact I.mod.glob.keeps I.bk) hm (by rw [I.ok.blt]; exact b1.keeps I.bk) ((b2 "super" (by decide)).trans (show bootBuiltins "super" = some (.type "super") by first | rfl | decide +kernel | kernel_rfl)) ⟨rfl, ?_⟩)
  refine wpAny_loadName_free I.ok.kind hkc hcl ⟨_, KX _ _ lcc, rfl⟩ ?_
  obtain ⟨mm, hns, hl⟩ := I.loc
  obtain ⟨u, ru, lk⟩ := hl 0 ar.arg (.ref a) hn0 h0 (.inl hka)
  obtain rfl : u = Value.ref a := ru
  have hma : mm ar.arg = some (.ref a) := by
    rcases lk with ⟨_, z⟩ | ⟨z, _⟩
    · exact z
    · rcases z with z | z <;> rw [hka] at z <;> cases z
  refine wpAny_loadName_local I.ok.kind hka hns hma ?_
  obtain ⟨oD, hD1, hD2⟩ : ∃ oD, s.heap.get? D = some oD ∧ oD.data = .cls cd := by
    unfold PySem.W.clsIn at hcd
    split at hcd
    · rename_i c d cd' sl ho
      cases hcd
      exact ⟨_, KX _ _ ho, rfl⟩
    · cases hcd
  refine ks_wpAny_isType_cls hD1 hD2 ⟨rfl, ?_⟩
  obtain ⟨hh, gg, dd, tt, os⟩ := s
  refine ks_wpAny_call_super hD1 hD2 J.at_ J.cls (fun c e => ?_) (PySem.W.looks_mroIn KX C.sub) (fun h' e1 k1 => ?_)
  · have := J.no
    unfold PySem.W.notCls at this
    rw [e] at this
    exact Bool.noConfusion this
  have I1 : Inv X ((hh.objs.size, PySem.W.ks_superObj D a D) :: pins) σ H ⟨h', gg, dd, tt, os⟩ := pin_new (t' := tt) I k1 (Nat.le_refl _) e1 (fun v z => nomatch z)
  obtain ⟨_, _, J1⟩ := exo_inst I1 hH (fun _ z => nomatch z)
  obtain ⟨of, hof, hofc⟩ : ∃ of, h'.get? g = some of ∧ of.cls = .type "function" := by
    have ht' : (X.K.lookup g).map (·.cls) = some (.type "function") := C.ty
    cases z : X.K.lookup g with
    | none => rw [z] at ht'; cases ht'
    | some of => rw [z] at ht'; exact ⟨of, I1.kIn _ _ z, Option.some.inj ht'⟩
  have hat2 := C.at_
  unfold PySem.W.ks_superIn at hat2
  rw [hcd] at hat2
  refine ks_wpAny_getMethod_super (pin_at I1) (PySem.W.looks_opaque I1.kIn C.op) (l₀ := cd.mro) (fun A Q E s k q => wpAny_bind ((PySem.W.looks_clsIn I1.kIn hcd) A _ E s k (wpAny_pure q))) rfl I1.kIn hat2 hof hofc (PySem.W.ks_ne I1.kIn J1 hcd) hat ?_
  have I2 : Inv X ((h'.objs.size, PySem.W.methodObj (.ref g) (.ref a)) :: (hh.objs.size, PySem.W.ks_superObj D a D) :: pins) σ H { (⟨h', gg, dd, tt, os⟩ : Shared) with heap := h'.push (PySem.W.methodObj (.ref g) (.ref a)), toks := tt + 1 } := met_new I1
  refine callwith_cm I2 (base_none I1 (Nat.le_refl _)) C.fi ?_ hst hpl
  refine thn (ha.run pos _ _ σ H _ I2 q) fun us s3 ⟨vs, H1, I3, rv, q1⟩ => ⟨⟨pin_at I3, I3.kIn⟩, ?_⟩
  have r2 : Vals (.ref a :: vs) (.ref a :: us) := .cons rfl rv
  have hlen : (Value.ref a :: us).length = ps.length := by rw [← r2.length]; exact F.len _ _ _ _ q1
  have z : wpAny (model X.prog X.w) X.A (call (.ref h'.objs.size) us) (EP X ((h'.objs.size, PySem.W.methodObj (.ref g) (.ref a)) :: (hh.objs.size, PySem.W.ks_superObj D a D) :: pins) σ (fun _ H2 => tr En σ H2)) X.xe s3 := by
    refine wpAny_call (PySem.W.method_call (pin_at I3) (codeAny_mono (F.run X.A X.stack s3 H1 ⟨.ref a :: us, []⟩ (.ref a :: us) (.ref a :: vs) (fun _ H2 => tr En σ H2) E hr I3.env0 ?_ r2 q1) fun r s' hq => ?_))
    · have y := hb s3 (.ref a :: us) I3.kIn (by rw [List.append_nil]; exact hlen)
      rw [List.append_nil] at y
      exact y
    · cases r with
      | error e => exact hx _ σ H1 s3 e s' I3 hq
      | ok fl =>
        cases fl with
        | ret u => exact I3.after hq
        | next => exact False.elim hq
        | brk => exact False.elim hq
        | cont => exact False.elim hq
  refine thn z fun v s4 ⟨_, H2, I4, _, q2⟩ => ?_
  exact _root_.PySem.wpAt_of_wpAny (hrest.run pins s4 σ H2 En (unpin (unpin I4)) q2)
end
abbrev supNF (x qual : Str) (params : Arguments) (body : List Stmt) (scope : Scope) (cc cda : Addr) : NF := ⟨x, qual, params, body, scope, [("__class__", cc)], cda⟩
section
variable {CX : CXT} {P : Program} {w : World} {K : PySem.W.Frag} {mg : Str → Option Value} {base : Heap} {N ps : List Str} {k : Nat} {D f cc cda : Addr} {fd : FuncData} {file x qual : Str} {params : Arguments} {body : List Stmt} {scope : Scope} {sp : Sp}
/-- its promise, by its body -/
theorem fn_super (Z : SupF K file x qual params body scope D f cc cda fd) (S : NScope N ps ["__class__"] scope) (len : ∀ vs H Q E, sp vs H Q E → vs.length = ps.length)
    (hbody : ∀ (A : Around) (outer : List Env) (s : Shared) (H : Hp) (vs : List V) (Q : VK) (E : XK), Room k (A.deeper (envF (supNF x qual params body scope cc cda) f s.heap.objs.size)) → sp vs H Q E →
      ∃ t, PS0 (ncx CX P w K mg base N (supNF x qual params body scope cc cda) f A outer s H E) body body t ∧ t { nx := fun _ H' => Q .non H', rt := Q } (startF N vs [some (.ref D)]) H) :
    FnOk P w K mg base CX (k + 1) f fd ps sp := by
  obtain ⟨oc, od, doc, pm, an, ct, osl, rfl, lf⟩ := Z.ex
  obtain ⟨cl, cld, csl, lcc⟩ := Z.cell
  refine ⟨len, fun A outer s H args us vs Q E hr e0 hb r hsp => ?_⟩
  have hl := len _ _ _ _ hsp
  have KX : K.In s.heap := e0.mod.kin.keeps fun b o e => (e0.bs b o e).1
  have lim : s.heap.NoLimit := e0.mod.nolimit.keeps fun b o e => (e0.bs b o e).1
  have C : CellsAt (supNF x qual params body scope cc cda).cl ["__class__"] [some (.ref D)] s.heap H := by
    have hh : ∀ y c, (supNF x qual params body scope cc cda).cl.lookup y = some c → y = "__class__" ∧ c = cc := fun y c e => by
      have e : (if (y == ("__class__" : Str)) = true then some cc else none) = some c := by
        rw [← e]
        show _ = List.lookup y [(("__class__" : Str), cc)]
        rw [List.lookup_cons]
        cases (y == ("__class__" : Str)) <;> rfl
      by_cases q : (y == ("__class__" : Str)) = true
      · rw [if_pos q] at e
        exact ⟨beq_iff_eq.mp q, (Option.some.inj e).symm⟩
      · rw [if_neg q] at e
        cases e
    refine ⟨rfl, fun y c e => ?_, fun a b c e1 e2 => (hh a c e1).1.trans (hh b c e2).1.symm, fun i y hi => ?_⟩
    · rw [(hh y c e).2]
      have z := e0.mod.kin _ _ lcc
      exact ⟨(e0.bs _ _ z).2, _, ⟨_, KX _ _ lcc, rfl⟩⟩
    · match i, hi with
      | 0, hi =>
        have ey : y = "__class__" := (Option.some.inj hi).symm
        subst ey
        refine ⟨cc, by show List.lookup _ [(("__class__" : Str), cc)] = _; rw [List.lookup_cons, beq_self_eq_true], fun v hv => ?_⟩
        have ev : v = .ref D := (Option.some.inj (Option.some.inj hv)).symm
        subst ev
        exact ⟨.ref D, rfl, _, KX _ _ lcc, rfl⟩
      | i + 1, hi => cases hi
  obtain ⟨t, ht, hq⟩ := hbody A outer s H vs Q E (hr.deeper _) hsp
  refine ks_codeAny_call_defAt (body := body) (binds := ps.zip us) hr.depth (KX _ _ lf) rfl lim (PySem.W.codeRec_of KX Z.cd) rfl hb (fun y hy => S.nocell y hy) (fun ⟨n, _⟩ hy => S.par n (List.of_mem_zip hy).1) (fun h₁ hns kp => ?_) S.co S.gen S.kind
  have I : Inv (ncx CX P w K mg base N (supNF x qual params body scope cc cda) f A outer s H E) [] (startF N vs [some (.ref D)]) H { s with heap := h₁, toks := s.toks + (ps.zip us).length } := inv_startN S hr.hd e0 hl r C hns kp
  refine _root_.PySem.wpAt_mono (ht.run [] _ _ H _ I hq) (fun fl s' hs => ?_) fun e s' hs => hs
  have fin : ∀ {σ' : L2.St} {H' : Hp} {v : V} {u : Value}, Inv (ncx CX P w K mg base N (supNF x qual params body scope cc cda) f A outer s H E) [] σ' H' s' → L2.RelV v u → Q v H' → CE outer P w H s Q u s' :=
    fun {σ' H' v u} J rv q => ⟨v, H', J.os, J.bare, J.base, J.hok, rv, q⟩
  cases fl with
  | ret u =>
    obtain ⟨v, σ', H', J, rv, q⟩ := hs
    exact fin J rv q
  | next =>
    obtain ⟨σ', H', J, q⟩ := hs
    exact fin (v := V.non) (u := Value.none) J rfl q
  | brk =>
    obtain ⟨_, _, _, q⟩ := hs
    exact False.elim q
  | cont =>
    obtain ⟨_, _, _, q⟩ := hs
    exact False.elim q
theorem SupF.binds (Z : SupF K file x qual params body scope D f cc cda fd) (h : ∀ (doc pm : Value) (an : Option Addr) (ct : Value) (us : List Value), us.length = ps.length → bindArgs (PySem.W.ksFn x qual params body scope .none .none doc pm an (.ref cda) ct cc) ⟨us, []⟩ = pure (ps.zip us)) : Binds K fd ps [] := by
  obtain ⟨oc, od, doc, pm, an, ct, osl, rfl, lf⟩ := Z.ex
  exact .all fun us hl => h doc pm an ct us hl
end
end L2

set_option maxHeartbeats 4000000
/-! ### a head's facts, with defs of classes that say super() -/
namespace He
open PySem PySem.Spec PyProof.Rows L2
structure SupD where
  cls : Str
  name : Str
  qual : Str
  params : Arguments
  body : List Stmt
  scope : Scope
abbrev SupW : Type := Option (Str × Str × Arguments × FuncBody × Scope × Addr × Addr × Bool)
def supShape (K : PySem.W.Frag) (file : Str) (D : Addr) (qual : Str) (cl : List (Str × Addr)) (code dV kV : Value) : Bool := match cl, code, dV, kV with
  | [(n, cc)], .ref cda, .none, .none => (n == ("__class__" : Str)) && (PySem.W.codeIn K (.ref cda) qual && ((match K.lookup cda with
      | some ⟨_, _, .fields vs, _⟩ => (match (vs[2]? : Option Value) with
        | some (Value.str y _) => y == file
        | _ => false)
      | _ => false) && (match K.lookup cc with
      | some ⟨_, _, .cell (some (.ref a)), _⟩ => a == D
      | _ => false)))
  | _, _, _, _ => false
def supW (K : PySem.W.Frag) (file : Str) (d : SupD) : SupW := match K.lookup (ma K (ga K d.cls) d.name) with
  | some ⟨_, _, .func fd, _⟩ => some (fd.name, fd.qualname, fd.params, fd.body, fd.scope, fd.globals, fd.builtins, supShape K file (ga K d.cls) d.qual fd.closure fd.code fd.defaults fd.kwdefaults)
  | _ => none
def SupD.val (d : SupD) : SupW := some (d.name, d.qual, d.params, .stmts d.body, d.scope, mainGlobals, builtinsNs, true)
theorem SupD.ok {K : PySem.W.Frag} {file : Str} {d : SupD} (e : supW K file d = d.val) : ∃ cc cda fd, SupF K file d.name d.qual d.params d.body d.scope (ga K d.cls) (ma K (ga K d.cls) d.name) cc cda fd := by
  unfold supW at e
  cases q : K.lookup (ma K (ga K d.cls) d.name) with
  | none =>
    rw [q] at e
    cases e
  | some o =>
    obtain ⟨oc, od, dt, osl⟩ := o
    rw [q] at e
    cases dt with
    | func fd =>
      obtain ⟨n1, n2, n3, n4, n5, n6, n7, n8, n9, n10, n11, n12, n13, n14, n15⟩ := fd
      have e2 : (some (n1, n2, n3, n4, n5, n6, n15, supShape K file (ga K d.cls) d.qual n7 n13 n8 n9) : SupW) = some (d.name, d.qual, d.params, .stmts d.body, d.scope, mainGlobals, builtinsNs, true) := e
      simp only [Option.some.injEq, Prod.mk.injEq] at e2
      obtain ⟨h1, h2, h3, h4, h5, h6, h7, h8⟩ := e2
      subst h1 h2 h3 h4 h5 h6 h7
      unfold supShape at h8
      split at h8
      · rename_i n cc cda
        obtain ⟨a1, a2⟩ := ba h8
        obtain ⟨a3, a4⟩ := ba a2
        obtain ⟨a5, a6⟩ := ba a4
        obtain rfl : n = "__class__" := beq_iff_eq.mp a1
        refine ⟨cc, cda, _, ⟨oc, od, n10, n11, n12, n14, osl, rfl, q⟩, a3, ?_, ?_⟩
        · split at a5
          · rename_i c1 c2 vs c3 hl
            split at a5
            · rename_i y t hv
              obtain rfl : y = file := beq_iff_eq.mp a5
              exact ⟨c1, c2, vs, c3, t, hl, hv⟩
            · cases a5
          · cases a5
        · split at a6
          · rename_i c1 c2 a c3 hl
            obtain rfl : a = ga K d.cls := beq_iff_eq.mp a6
            exact ⟨c1, c2, c3, hl⟩
          · cases a6
      · cases h8
    | _ => cases e
/-- what super().m asks of the class D, m the def at g above it -/
def supCB (K : PySem.W.Frag) (D : Addr) (m : Str) (g : Addr) : Bool := (PySem.W.clsIn K D).isSome && (decide (PySem.W.mroIn K D (.ref D) = some true) && (decide (PySem.W.ks_superIn K D D m = some (some (.ref g))) && (decide (PySem.W.typeIn K (.ref g) = some (.type "function")) &&
  (PySem.W.fnIn K g && decide (PySem.W.nsIn K cStatics "thirdparty.any" = some none)))))
theorem supCB_ok {K : PySem.W.Frag} {D g : Addr} {m : Str} (h : supCB K D m g = true) : SupC K D m g := by
  unfold supCB at h
  rw [Bool.and_eq_true, Bool.and_eq_true, Bool.and_eq_true, Bool.and_eq_true, Bool.and_eq_true] at h
  obtain ⟨h1, h2, h3, h4, h5, h6⟩ := h
  exact ⟨Option.isSome_iff_exists.mp h1, of_decide_eq_true h2, of_decide_eq_true h3, of_decide_eq_true h4, h5, of_decide_eq_true h6⟩
abbrev AlS : Type := AlZ × List SupW
def obsS (n : Nat) (fa : List Fa) (fn : List DefD) (tf : List Defn) (sd : List SupD) (file : Str) (ex : PySem.W.Frag → Bool) (g : Addr → Option Obj) : AlS := (obsY n fa fn tf ex g, sd.map fun d => supW (frY n g) file d)
def valS (fn : List DefD) (sd : List SupD) : AlS := (valZ fn, sd.map SupD.val)
structure SaysS (fa : List Fa) (fn : List DefD) (tf : List Defn) (sd : List SupD) (file : Str) (ex : PySem.W.Frag → Bool) (h : Heap) (K : PySem.W.Frag) : Prop where
  y : SaysY fa fn tf ex h K
  s : (sd.map fun d => supW K file d) = sd.map SupD.val
theorem SaysS.sup {fa : List Fa} {fn : List DefD} {tf : List Defn} {sd : List SupD} {file : Str} {ex : PySem.W.Frag → Bool} {h : Heap} {K : PySem.W.Frag} (c : SaysS fa fn tf sd file ex h K) (i : Nat) {d : SupD} (hi : sd[i]? = some d := by rfl) :
    ∃ cc cda fd, SupF K file d.name d.qual d.params d.body d.scope (ga K d.cls) (ma K (ga K d.cls) d.name) cc cda fd := by
  have e : (sd.map fun d => supW K file d)[i]? = (sd.map SupD.val)[i]? := by rw [c.s]
  rw [List.getElem?_map, List.getElem?_map, hi] at e
  exact SupD.ok (Option.some.inj e)
def hookS (n : Nat) (fa : List Fa) (fn : List DefD) (tf : List Defn) (sd : List SupD) (file : Str) (ex : PySem.W.Frag → Bool) : PySem.W.Hook where
  α := AlS
  obs := fun s => obsS n fa fn tf sd file ex s.heap.get?
  val := fun _ => valS fn sd
  says := fun _ h => ∃ K : PySem.W.Frag, K.In h ∧ SaysS fa fn tf sd file ex h K
  of := fun _ _ e => ⟨_, frT_in, saysY_of (congrArg (fun z : AlS => z.1) e), congrArg (fun z : AlS => z.2) e⟩
  keeps := fun _ _ _ ⟨K, hK, c⟩ k => ⟨K, PySem.W.Frag.In.keeps hK k, ⟨⟨c.y.d, c.y.more, c.y.hd, c.y.out, fun p hp => k _ _ (c.y.empty p hp)⟩, c.s⟩⟩
theorem obsS_eq {n : Nat} {fa : List Fa} {fn : List DefD} {tf : List Defn} {sd : List SupD} {file : Str} {ex : PySem.W.Frag → Bool} {g : Addr → Option Obj} {s : Shared} (h : ∀ a, g a = s.heap.get? a) : obsS n fa fn tf sd file ex g = (hookS n fa fn tf sd file ex).obs s := by
  have e : g = s.heap.get? := funext h
  rw [e] <;> rfl
end He

set_option maxHeartbeats 0
namespace K04
open PySem PySem.Spec PyProof.Rows L2
def top (i : Nat) : Stmt := PySem.Challenge.pw_roundwright_k04_nets_and_windows.main.body.getD i (.Pass ⟨0, 0, 0, 0⟩)
abbrev s_is_number : Stmt := top 1
abbrev s_is_within : Stmt := top 2
abbrev s_are_within : Stmt := top 3
abbrev s_is_line_of : Stmt := top 4
abbrev s_are_unlike : Stmt := top 5
abbrev s_words : Stmt := top 8
abbrev s_is_net : Stmt := top 15
abbrev s_check_net : Stmt := top 16
abbrev s_check_window : Stmt := top 17
abbrev s_around_ring : Stmt := top 18
abbrev s_ring_window : Stmt := top 19
abbrev s_path_window : Stmt := top 20
abbrev s_law_begun : Stmt := top 22
abbrev s_law_mixed : Stmt := top 23
abbrev s_law_take : Stmt := top 24
abbrev s_law_pick : Stmt := top 25
abbrev s_law_caught : Stmt := top 26
abbrev s_law_net : Stmt := top 27
abbrev s_law_window : Stmt := top 28
abbrev s_law : Stmt := top 29
abbrev i_RoundError : Stmt := inClass (top 7) 0
abbrev i_BadNumber : Stmt := inClass (top 10) 0
def ownE : List Str := []
def plainE : List Str := ["BadNet"]
def fieldE : List (Str × Str) := [("BadNumber", "part")]
def ds_is_number : He.DefD := ⟨("is_number", none), "is_number", "is_number", defArgs s_is_number, defBody s_is_number, defScope s_is_number, [], []⟩
def ds_is_within : He.DefD := ⟨("is_within", none), "is_within", "is_within", defArgs s_is_within, defBody s_is_within, defScope s_is_within, [], []⟩
def ds_are_within : He.DefD := ⟨("are_within", none), "are_within", "are_within", defArgs s_are_within, defBody s_are_within, defScope s_are_within, [], []⟩
def ds_is_line_of : He.DefD := ⟨("is_line_of", none), "is_line_of", "is_line_of", defArgs s_is_line_of, defBody s_is_line_of, defScope s_is_line_of, [], []⟩
def ds_are_unlike : He.DefD := ⟨("are_unlike", none), "are_unlike", "are_unlike", defArgs s_are_unlike, defBody s_are_unlike, defScope s_are_unlike, [], []⟩
def ds_words : He.DefD := ⟨("_words", none), "_words", "_words", defArgs s_words, defBody s_words, defScope s_words, [], []⟩
def ds_is_net : He.DefD := ⟨("is_net", none), "is_net", "is_net", defArgs s_is_net, defBody s_is_net, defScope s_is_net, [], []⟩
def ds_check_net : He.DefD := ⟨("check_net", none), "check_net", "check_net", defArgs s_check_net, defBody s_check_net, defScope s_check_net, [], []⟩
def ds_check_window : He.DefD := ⟨("_check_window", none), "_check_window", "_check_window", defArgs s_check_window, defBody s_check_window, defScope s_check_window, [], []⟩
def ds_around_ring : He.DefD := ⟨("around_ring", none), "around_ring", "around_ring", defArgs s_around_ring, defBody s_around_ring, defScope s_around_ring, [], []⟩
def ds_ring_window : He.DefD := ⟨("ring_window", none), "ring_window", "ring_window", defArgs s_ring_window, defBody s_ring_window, defScope s_ring_window, [], []⟩
def ds_path_window : He.DefD := ⟨("path_window", none), "path_window", "path_window", defArgs s_path_window, defBody s_path_window, defScope s_path_window, [], []⟩
def ds_law_begun : He.DefD := ⟨("_law_begun", none), "_law_begun", "_law_begun", defArgs s_law_begun, defBody s_law_begun, defScope s_law_begun, [], []⟩
def ds_law_mixed : He.DefD := ⟨("_law_mixed", none), "_law_mixed", "_law_mixed", defArgs s_law_mixed, defBody s_law_mixed, defScope s_law_mixed, [], []⟩
def ds_law_take : He.DefD := ⟨("_law_take", none), "_law_take", "_law_take", defArgs s_law_take, defBody s_law_take, defScope s_law_take, [], []⟩
def ds_law_pick : He.DefD := ⟨("_law_pick", none), "_law_pick", "_law_pick", defArgs s_law_pick, defBody s_law_pick, defScope s_law_pick, [], []⟩
def ds_law_caught : He.DefD := ⟨("_law_caught", none), "_law_caught", "_law_caught", defArgs s_law_caught, defBody s_law_caught, defScope s_law_caught, [], []⟩
def ds_law_net : He.DefD := ⟨("_law_net", none), "_law_net", "_law_net", defArgs s_law_net, defBody s_law_net, defScope s_law_net, [], []⟩
def ds_law_window : He.DefD := ⟨("_law_window", none), "_law_window", "_law_window", defArgs s_law_window, defBody s_law_window, defScope s_law_window, [], []⟩
def ds_law : He.DefD := ⟨("law", none), "law", "law", defArgs s_law, defBody s_law, defScope s_law, [], []⟩
def di_RoundError : He.DefD := ⟨("RoundError", some "__init__"), "__init__", "RoundError.__init__", defArgs i_RoundError, defBody i_RoundError, defScope i_RoundError, [He.Dv.str ""], []⟩
def q_BadNumber : He.SupD := ⟨"BadNumber", "__init__", "BadNumber.__init__", defArgs i_BadNumber, defBody i_BadNumber, defScope i_BadNumber⟩
def sd : List He.SupD := [q_BadNumber]
def file : Str := "/claim/cut.py"
def fn : List He.DefD := [ds_is_number, ds_is_within, ds_are_within, ds_is_line_of, ds_are_unlike, ds_words, ds_is_net, ds_check_net, ds_check_window, ds_around_ring, ds_ring_window, ds_path_window, ds_law_begun, ds_law_mixed, ds_law_take, ds_law_pick, ds_law_caught, ds_law_net, ds_law_window, ds_law, di_RoundError]
def fa : List He.Fa := [.glo "is_number", .glo "is_within", .glo "are_within", .glo "is_line_of", .glo "are_unlike", .glo "_words", .glo "is_net", .glo "check_net", .glo "_check_window", .glo "around_ring", .glo "ring_window", .glo "path_window", .glo "_law_begun", .glo "_law_mixed", .glo "_law_take", .glo "_law_pick", .glo "_law_caught", .glo "_law_net", .glo "_law_window", .glo "law", .glo "RoundError", .free "ValueError", .free "abs", .free "all", .free "bool", .free "int", .free "isinstance", .free "len", .free "list", .free "min", .free "range", .free "repr", .free "set", .free "str", .free "super", .free "tuple", .int "MOST_HOUSES" 400, .int "MOST_NAME" 1000000000, .int "_MOST_ROUNDS" 400]
def tf : List He.Defn := [("law", none)]
def mR (K : PySem.W.Frag) : List Value := .ref (He.ga K "RoundError") :: PySem.HandSPX.veTail
def ex (K : PySem.W.Frag) : Bool :=
  He.sysB K && (He.errB K PySem.HandSPX.veTail (He.ga K "RoundError") && (He.initB K (He.ga K "RoundError") (He.ma K (He.ga K "RoundError") "__init__") && (
  (plainE.all (fun x => (He.Fa.glo x).ok K && (He.errB K (mR K) (He.ga K x) && (He.initB K (He.ga K x) (He.ma K (He.ga K "RoundError") "__init__") && decide (PySem.W.exmOne K (.ref (He.ga K x)) (.ref (He.ga K "RoundError")) = some true)))) &&
   (fieldE.all (fun x => (He.Fa.glo x.1).ok K && (He.errB K (mR K) (He.ga K x.1) && (He.initB K (He.ga K x.1) (He.ma K (He.ga K x.1) "__init__") && (decide (PySem.W.findIn K (.ref (He.ga K x.1)) x.2 = some none) && (decide (PySem.W.exmOne K (.ref (He.ga K x.1)) (.ref (He.ga K "RoundError")) = some true) && He.supCB K (He.ga K x.1) "__init__" (He.ma K (He.ga K "RoundError") "__init__")))))) &&
    (decide ((He.ga K "RoundError" :: (plainE.map (He.ga K) ++ fieldE.map (fun x => He.ga K x.1))).Nodup) && ownE.all (fun x => He.ownB K (He.ga K x) (ownE.map (He.ga K)))))))))
abbrev R : PySem.W.OpenRow := PySem.W.OpenLaw.row PySem.Challenge.rw_roundwright_k04_nets_and_windows
abbrev hk : PySem.W.Hook := He.hookS 5 fa fn tf sd file ex
def ob (s : PySem.W.SharedT) : He.AlS := He.obsS 5 fa fn tf sd file ex (HandSHeadRun.getT s)
theorem ob_eq (s : PySem.W.SharedT) : ob s = hk.obs s.abs := He.obsS_eq (HandSHeadRun.getT_eq s)
def loose1 : List Str := ["__name__", "is_number", "is_within", "are_within", "is_line_of", "are_unlike", "RoundError", "_words", "BadNet", "BadNumber", "MOST_HOUSES", "MOST_NAME", "_MOST_ROUNDS", "is_net", "check_net", "_check_window", "around_ring", "ring_window", "path_window", "_law_begun", "_law_mixed", "_law_take", "_law_pick", "_law_caught", "_law_net", "_law_window"]
theorem run (w : World) : HandSHeadRun.RunEq R (PySem.W.view R.prog [29]) hk ob 20000 (loose1) w := by
  intro os
  kernel_rfl
end K04

set_option maxHeartbeats 4000000
namespace K04
open PySem PySem.Spec PyProof.Rows L2
abbrev FnP (K : PySem.W.Frag) (x : Str) (st : Stmt) (f : Addr) (fd : FuncData) : Prop := FunD K x x (defArgs st) (defBody st) (defScope st) [] [] f fd
/-! ### the draw -/
def drawKV (l c : Addr) (r t : Int) : List (Key × V) := [(.inr "large", .ref l), (.inr "rest", .int r), (.inr "cells", .ref c), (.inr "turn", .int t)]
structure DrawAt (B H : Hp) (d : Addr) : Prop where
  same : Same B H
  nd : B d = none
  ex : ∃ (l c : Addr) (r t : Int) (ls cs : List Int), H d = some (.dK (drawKV l c r t)) ∧ l ≠ c ∧ B l = none ∧ B c = none ∧ H l = some (.lst (ls.map V.int)) ∧ H c = some (.lst (cs.map V.int)) ∧ 0 ≤ r ∧ (∀ x ∈ ls, 0 ≤ x) ∧ ls.length ≤ 63 ∧ cs.length ≤ 63
theorem same_new {H : Hp} {p : Addr} {o : HO} (h : H p = none) : Same H (upd H p o) := fun b x e => by
  rw [upd_ne (ne_of_none e h)]
  exact e
/-- something new beside the draw, kept from now on -/
theorem DrawAt.keep {B H : Hp} {d p : Addr} {o : HO} (D : DrawAt B H d) (h : H p = none) : DrawAt (upd B p o) (upd H p o) d := by
  obtain ⟨s, n, l, c, r, t, ls, cs, h1, h2, h3, h4, h5, h6, h7⟩ := D
  refine ⟨fun b x e => ?_, ?_, l, c, r, t, ls, cs, ?_, h2, ?_, ?_, ?_, ?_, h7⟩
  · by_cases hb : b = p
    · subst hb
      rw [upd_same] at e ⊢
      exact e
    · rw [upd_ne hb] at e ⊢
      exact s b x e
  · rw [upd_ne (ne_of_none h1 h)]
    exact n
  · rw [upd_ne (ne_of_none h1 h)]
    exact h1
  · rw [upd_ne (ne_of_none h5 h)]
    exact h3
  · rw [upd_ne (ne_of_none h6 h)]
    exact h4
  · rw [upd_ne (ne_of_none h5 h)]
    exact h5
  · rw [upd_ne (ne_of_none h6 h)]
    exact h6
/-- something new beside the draw, not kept -/
theorem DrawAt.drop {B H : Hp} {d p : Addr} {o : HO} (D : DrawAt B H d) (h : H p = none) : DrawAt B (upd H p o) d := by
  obtain ⟨s, n, l, c, r, t, ls, cs, h1, h2, h3, h4, h5, h6, h7⟩ := D
  exact ⟨s.trans (same_new h), n, l, c, r, t, ls, cs, by rw [upd_ne (ne_of_none h1 h)]; exact h1, h2, h3, h4, by rw [upd_ne (ne_of_none h5 h)]; exact h5, by rw [upd_ne (ne_of_none h6 h)]; exact h6, h7⟩
theorem DrawAt.less {A B H : Hp} {d : Addr} (D : DrawAt B H d) (s : Same A B) : DrawAt A H d := by
  have no : ∀ {b : Addr}, B b = none → A b = none := fun {b} n => by
    cases e : A b with
    | none => rfl
    | some o => rw [s b o e] at n; cases n
  obtain ⟨s', n, l, c, r, t, ls, cs, h1, h2, h3, h4, h5⟩ := D
  exact ⟨s.trans s', no n, l, c, r, t, ls, cs, h1, h2, no h3, no h4, h5⟩
def absI (i : Int) : Int := if i < 0 then -i else i
theorem absI_nn (i : Int) : 0 ≤ absI i := by unfold absI; split <;> omega
def spBegun (K : PySem.W.Frag) : Sp := fun vs H Q _ => ∃ (a : Addr) (ns : List Int), vs = [.ref a] ∧ SqL K H a (ns.map V.int) ∧ ns.length ≤ 63 ∧ ∀ H' d, DrawAt H H' d → Q (.ref d) H'
structure Bl (mg : Str → Option Value) : Prop where
  ve : mg "ValueError" = none
  abs : mg "abs" = none
  all : mg "all" = none
  bool : mg "bool" = none
  int : mg "int" = none
  isi : mg "isinstance" = none
  len : mg "len" = none
  list : mg "list" = none
  min : mg "min" = none
  range : mg "range" = none
  repr : mg "repr" = none
  set : mg "set" = none
  str : mg "str" = none
  sup : mg "super" = none
  tuple : mg "tuple" = none
section
variable {P : Program} {w : World} {K : PySem.W.Frag} {mg : Str → Option Value} {base : Heap}
abbrev N_begun : List Str := ["script", "large", "grain"]
theorem cpow18 : CPow 10 18 := ⟨by decide, by decide, by decide⟩
theorem sc_begun : FnScope ["script", "large", "grain"] ["script"] (defScope s_law_begun) := ⟨rfl, rfl, rfl, by decide +kernel, rfl, by decide +kernel, by decide +kernel⟩
theorem int_at {ns : List Int} {i : Nat} {y : V} (h : (ns.map V.int)[i]? = some y) : ∃ z, ns[i]? = some z ∧ y = .int z := by
  rw [List.getElem?_map] at h
  cases e : ns[i]? with
  | none => rw [e] at h; cases h
  | some z => rw [e] at h; exact ⟨z, rfl, (Option.some.inj h).symm⟩
theorem yes {A B : Prop} (h : A) : if true = true then A else B := by rw [if_pos rfl]; exact h
theorem small63 {n : Nat} (h : n ≤ 63) : n < sizeLine := Nat.lt_of_le_of_lt h (by decide)
theorem ok_begun {f : Addr} {fd : FuncData} {k : Nat} (F : FnP K "_law_begun" s_law_begun f fd) (T : Bl mg) : FnOk P w K mg base CX0 (k + 1) f fd ["script"] (spBegun K) := by
  refine F.ok sc_begun (fun vs H Q E h => ?_) (fun cdv A outer s H vs Q E hr h => ?_)
  · obtain ⟨a, ns, rfl, _⟩ := h
    rfl
  · obtain ⟨a, ns, rfl, hS, hlen, q⟩ := h
    refine ⟨_, pss_cons (ps_setLc (i := 1) (own := [("grain", 2)]) (g := gName 2) rfl sc_begun.nd rfl rfl (sw_true rfl rfl rfl (by decide +kernel)) (pi_list (pv 0)) (blkOk_by (N := N_begun) (sc := defScope s_law_begun) (by decide +kernel))
        (fun _ _ _ _ _ => pg_name (i := 2) sc_begun.nd rfl (Or.inl rfl))
        (fun _ _ _ _ _ => pts_one (pt_cmpR op_ge (pe_callB call_abs (by rfl) T.abs (by decide +kernel) (pa_cons (pv 2) pa_nil)) (pe_op op_pow pe_int pe_int) (nomark _)))
        (fun _ _ _ _ _ => pe_op op_sub (pe_callB call_abs (by rfl) T.abs (by decide +kernel) (pa_cons (pv 2) pa_nil)) (pe_op op_pow pe_int pe_int)))
      (pss_one (ps_ret (pe_disp (pps_cons pe_str (pv 1) (pps_cons pe_str pe_int (pps_cons pe_str
        (pe_lc (own := [("grain", 2)]) (g := gName 2) (tt := tYes) rfl sc_begun.nd (pi_list (pv 0)) (blkOk_by (N := N_begun) (sc := defScope s_law_begun) (by decide +kernel)) (fun _ _ _ _ _ => pg_name (i := 2) sc_begun.nd rfl (Or.inl rfl)) (fun _ _ _ _ _ => pts_nil)
          (fun _ _ _ _ _ => pe_callB call_abs (by rfl) T.abs (by decide +kernel) (pa_cons (pv 2) pa_nil)))
        (pps_cons pe_str pe_int pps_nil)))) (by rfl) (by rfl) (fun z => by cases z) (by decide)))), ?_⟩
    refine ⟨_, rfl, a, rfl, ⟨_, hS⟩, fun l hl => ?_⟩
    refine lc_list (K := K) (xs := ns.map V.int) (fun i H' => ∃ ls : List Int, Same H H' ∧ H' l = some (.lst (ls.map V.int)) ∧ (∀ x ∈ ls, 0 ≤ x) ∧ ls.length ≤ i)
      ⟨[], same_new hl, upd_same, by simp, Nat.le_refl _⟩ (fun i H' _ ⟨_, sm, _⟩ => sm.seq hS) ?_ ?_
    · rintro i y H' hi ⟨ls, sm, hL, nn, hz⟩
      obtain ⟨z, hz1, rfl⟩ := int_at hi
      have hi63 : i < ns.length := (List.getElem?_eq_some_iff.mp hz1).1
      refine ⟨rfl, ?_⟩
      refine ⟨.int z, rfl, z, rfl, 10, 18, rfl, rfl, cpow18, _, _, rfl, rfl, _, rfl, ?_⟩
      refine ite2 (fun hc => ?_) (fun hc => ?_)
      · have hc2 : (10 : Int) ^ 18 ≤ absI z := of_decide_eq_true hc
        refine ⟨.int z, rfl, z, rfl, 10, 18, rfl, rfl, cpow18, _, _, rfl, rfl, ls.map V.int, hL, small63 (by rw [List.length_map]; omega), ?_⟩
        refine ⟨ls ++ [absI z - 10 ^ 18], fun b o e => ?_, ?_, fun x hx => ?_, ?_⟩
        · rw [upd_ne (ne_of_none e hl)]
          exact sm b o e
        · rw [upd_same, List.map_append]
          rfl
        · rcases List.mem_append.mp hx with hx | hx
          · exact nn x hx
          · rw [List.mem_singleton.mp hx]
            omega
        · rw [List.length_append, List.length_singleton]
          omega
      · exact ⟨ls, sm, hL, nn, by omega⟩
    · rintro H1 ⟨ls, sm, hL, nn, hz⟩
      rw [List.length_map] at hz
      -- the display
      intro d hd
      refine ⟨.ref l, rfl, ?_⟩
      refine ⟨_, rfl, a, rfl, ⟨_, (sm.trans (same_new hd)).seq hS⟩, fun c hc => ?_⟩
      have nld : l ≠ d := ne_of_none hL hd
      have hc1 : H1 c = none := by
        by_cases e : c = d
        · rw [e]; exact hd
        · rw [upd_ne e] at hc
          exact hc
      have ncd : c ≠ d := fun e => by rw [e, upd_same] at hc; cases hc
      have ncl : l ≠ c := ne_of_none hL hc1
      refine lc_list (K := K) (xs := ns.map V.int) (fun i H' => ∃ cs : List Int, Same H H' ∧ H' l = some (.lst (ls.map V.int)) ∧ H' d = some (.dK []) ∧ H' c = some (.lst (cs.map V.int)) ∧ cs.length ≤ i)
        ⟨[], (sm.trans (same_new hd)).trans (same_new hc), ?_, ?_, upd_same, Nat.le_refl _⟩ (fun i H' _ ⟨_, sm, _⟩ => sm.seq hS) ?_ ?_
      · rw [upd_ne ncl, upd_ne nld]
        exact hL
      · rw [upd_ne (Ne.symm ncd), upd_same]
      · rintro i y H' hi ⟨cs, sm', h1, h2, h3, h4⟩
        obtain ⟨z, hz1, rfl⟩ := int_at hi
        have hi63 : i < ns.length := (List.getElem?_eq_some_iff.mp hz1).1
        refine ⟨rfl, ?_⟩
        dsimp only [tYes]
        rw [if_pos rfl]
        refine ⟨.int z, rfl, z, rfl, cs.map V.int, h3, small63 (by rw [List.length_map]; omega), cs ++ [absI z], fun b o e => ?_, ?_, ?_, ?_, ?_⟩
        · have nbc : b ≠ c := ne_of_none (sm b o e) hc1
          rw [upd_ne nbc]
          exact sm' b o e
        · rw [upd_ne ncl]
          exact h1
        · rw [upd_ne (Ne.symm ncd)]
          exact h2
        · rw [upd_same, List.map_append]
          rfl
        · rw [List.length_append, List.length_singleton]
          omega
      · rintro H2 ⟨cs, sm', h1, h2, h3, h4⟩
        rw [List.length_map] at h4
        refine ⟨h2, drawKV l c 0 0, rfl, (by show 4 ≤ 15; decide), ?_⟩
        have em : mergeK [] (drawKV l c 0 0) = drawKV l c 0 0 := by
          unfold drawKV mergeK
          simp only [List.foldl_cons, List.foldl_nil]
          rfl
        rw [em]
        have hHd : H d = none := by
          cases e : H d with
          | none => rfl
          | some o => rw [sm d o e] at hd; cases hd
        have hHc : H c = none := by
          cases e : H c with
          | none => rfl
          | some o => rw [sm c o e] at hc1; cases hc1
        refine q _ d ⟨fun b o e => ?_, hHd, l, c, 0, 0, ls, cs, upd_same, ncl, hl, hHc, ?_, ?_, Int.le_refl _, nn, by omega, by omega⟩
        · rw [upd_ne (ne_of_none (o := o) e hHd)]
          exact sm' b o e
        · rw [upd_ne nld]
          exact h1
        · rw [upd_ne ncd]
          exact h3
end
end K04

set_option maxHeartbeats 4000000
namespace K04
open PySem PySem.Spec PyProof.Rows L2
theorem dv_large {l c : Addr} {r t : Int} : valV (drawKV l c r t) (.inr "large") = some (.ref l) := by rfl
theorem dv_rest {l c : Addr} {r t : Int} : valV (drawKV l c r t) (.inr "rest") = some (.int r) := by rfl
theorem dv_cells {l c : Addr} {r t : Int} : valV (drawKV l c r t) (.inr "cells") = some (.ref c) := by rfl
theorem dv_turn {l c : Addr} {r t : Int} : valV (drawKV l c r t) (.inr "turn") = some (.int t) := by rfl
theorem dp_rest {l c : Addr} {r t x : Int} : putK (drawKV l c r t) (.inr "rest") (.int x) = drawKV l c x t := by rfl
theorem dp_turn {l c : Addr} {r t x : Int} : putK (drawKV l c r t) (.inr "turn") (.int x) = drawKV l c r x := by rfl
theorem dget {H : Hp} {a : Addr} {kvs : List (Key × V)} {k : Key} {v : V} (h : H a = some (.dK kvs)) (e : valV kvs k = some v) : DGet H a (kV k) (some v) := e ▸ DGet.k h
theorem dpAll_ints {K : PySem.W.Frag} {H : Hp} : ∀ ls : List Int, DpAll K H (ls.map V.int) (ls.map PyData.int)
  | [] => .nil
  | x :: r => .cons (.int x) (dpAll_ints r)
theorem sh_ints : ∀ ls : List Int, SeqAt.shaped (.list (ls.map PyData.int)) = true := fun ls => by
  have h : ∀ ls : List Int, PyData.canLayAll0 (ls.map PyData.int) = true ∧ PyData.depthAll (ls.map PyData.int) ≤ 1 := fun ls => by
    induction ls with
    | nil => exact ⟨rfl, by simp [PyData.depthAll]⟩
    | cons x r ih =>
      refine ⟨?_, ?_⟩
      · simp [PyData.canLayAll0, PyData.canLay0, ih.1]
      · simp [PyData.depthAll, PyData.depth, ih.2]
  obtain ⟨h1, h2⟩ := h ls
  unfold SeqAt.shaped
  simp only [PyData.canLay0, PyData.depth, h1, Bool.true_and]
  exact decide_eq_true (by omega)
def spMixed : Sp := fun vs H Q _ => ∃ (d : Addr) (B : Hp), vs = [.ref d] ∧ DrawAt B H d ∧ ∀ H' r, DrawAt B H' d → 0 ≤ r → Q (.int r) H'
section
variable {P : Program} {w : World} {K : PySem.W.Frag} {mg : Str → Option Value} {base : Heap}
abbrev N_mixed : List Str := ["draw", "turn", "found", "great", "blend", "grain"]
theorem sc_mixed : FnScope N_mixed ["draw"] (defScope s_law_mixed) := ⟨rfl, rfl, rfl, by decide +kernel, rfl, by decide +kernel, by decide +kernel⟩
theorem ok_mixed {f : Addr} {fd : FuncData} {k : Nat} (F : FnP K "_law_mixed" s_law_mixed f fd) (T : Bl mg) : FnOk P w K mg base CX0 (k + 1) f fd ["draw"] spMixed := by
  refine F.ok sc_mixed (fun vs H Q E h => ?_) (fun cdv A outer s H vs Q E hr h => ?_)
  · obtain ⟨d, B, rfl, _⟩ := h
    rfl
  · obtain ⟨d, B, rfl, D, q⟩ := h
    have hu := hu_of hr
    obtain ⟨sm, nd, l, c, r, t, ls, cs, h1, h2, h3, h4, h5, h6, h7, h8, h9, h10⟩ := D
    refine ⟨_, PSs.nox <| pss_cons (ps_dput hu (pv 0) pe_str (pe_op op_add (pe_dget hu (pv 0) pe_str (fun _ _ => rfl)) pe_int) rfl)
      (pss_cons (ps_par (i := 1) (j := 2) rfl sc_mixed.nd rfl rfl (by decide) rfl rfl (pa_cons (pe_callTy call_int1 (by rfl) T.int (by decide +kernel) (pa_cons (pe_dget hu (pv 0) pe_str (fun _ _ => rfl)) pa_nil)) (pa_cons pe_int pa_nil)) (by rfl))
      (pss_cons (ps_for PassesOwn.never rfl (pi_list (pe_lst (pa_cons pe_int (pa_cons pe_int (pa_cons pe_int pa_nil))))) (pg_name (i := 3) sc_mixed.nd rfl (Or.inl rfl))
        (pss_cons (ps_set (i := 4) sc_mixed.nd rfl (Or.inl rfl) (pe_op op_modN (pe_op op_add (pe_op op_mul (pv 1) pe_int) (pe_op op_fdiv (pv 3) pe_int)) (pv 3)))
        (pss_cons (ps_for PassesOwn.never rfl (pi_list (pe_dget hu (pv 0) pe_str (fun _ _ => rfl))) (pg_name (i := 5) sc_mixed.nd rfl (Or.inl rfl))
          (pss_one (ps_set (i := 4) sc_mixed.nd rfl (Or.inl rfl) (pe_op op_modN (pe_op op_add (pe_op op_mul (pv 4) pe_int) (pe_callTy call_int1 (by rfl) T.int (by decide +kernel) (pa_cons (pv 5) pa_nil))) (pv 3)))))
        (pss_one (ps_set (i := 2) sc_mixed.nd rfl (Or.inl rfl) (pe_op op_add (pe_op op_mul (pv 2) pe_int) (pe_op op_modN (pe_op op_pow (pv 4) pe_int) (pv 3))))))))
      (pss_one (ps_ret (pv 2))))), ?_⟩
    -- draw['turn'] = draw['turn'] + 1
    refine ⟨.ref d, rfl, d, .int t, rfl, dget (k := .inr "turn") h1 dv_turn, _, _, rfl, rfl, .ref d, rfl, d, _, rfl, DPut.k (k := .inr "turn") h1 (by show 4 < sizeLine; decide), ?_⟩
    rw [dp_turn]
    have nld : l ≠ d := ne_of h5 h1 (by intro z; cases z)
    have ncd : c ≠ d := ne_of h6 h1 (by intro z; cases z)
    have D1 : DrawAt B (upd H d (.dK (drawKV l c r (t + 1)))) d := ⟨fun b o e => by rw [upd_ne (ne_of_none e nd)]; exact sm b o e, nd, l, c, r, t + 1, ls, cs, upd_same, h2, h3, h4, by rw [upd_ne nld]; exact h5, by rw [upd_ne ncd]; exact h6, h7, h8, h9, h10⟩
    have g6 : (upd H d (.dK (drawKV l c r (t + 1)))) c = some (.lst (cs.map V.int)) := by rw [upd_ne ncd]; exact h6
    have g1 : (upd H d (.dK (drawKV l c r (t + 1)))) d = some (.dK (drawKV l c r (t + 1))) := upd_same
    generalize (upd H d (.dK (drawKV l c r (t + 1)))) = H1 at D1 g6 g1 ⊢
    generalize t + 1 = t' at D1 g1 ⊢
    -- turn, found
    refine ⟨.ref d, rfl, d, .int t', rfl, dget (k := .inr "turn") g1 dv_turn, .inl ⟨t', rfl, ?_⟩⟩
    refine ⟨_, _, rfl, ?_⟩
    -- the primes
    refine ⟨by decide, fun p hp => ?_⟩
    have D2 : DrawAt B (upd H1 p (.lst [.int 2147483629, .int 2147483587, .int 2147483579])) d := D1.drop hp
    have g2 : (upd H1 p (.lst [.int 2147483629, .int 2147483587, .int 2147483579])) p = some (.lst ([2147483629, 2147483587, 2147483579].map V.int)) := upd_same
    have g6' : (upd H1 p (.lst [.int 2147483629, .int 2147483587, .int 2147483579])) c = some (.lst (cs.map V.int)) := by rw [upd_ne (ne_of_none g6 hp)]; exact g6
    have g1' : (upd H1 p (.lst [.int 2147483629, .int 2147483587, .int 2147483579])) d = some (.dK (drawKV l c r t')) := by rw [upd_ne (ne_of_none g1 hp)]; exact g1
    generalize (upd H1 p (.lst [.int 2147483629, .int 2147483587, .int 2147483579])) = H2 at D2 g2 g6' g1' ⊢
    refine ⟨p, rfl, ⟨_, SqL.of g2⟩, for_list (K := K) (a := p) (xs := [2147483629, 2147483587, 2147483579].map V.int) (fun i σ H' => H' = H2 ∧ ∃ (fn : Int) (y3 y4 y5 : Option V), σ = [some (.ref d), some (.int t'), some (.int fn), y3, y4, y5] ∧ 0 ≤ fn)
      ⟨rfl, 0, none, none, none, rfl, Int.le_refl _⟩ (fun i σ H' _ ⟨e, _⟩ => by rw [e]; exact SqL.of g2) ?_ ?_⟩
    · rintro i y σ H' hi ⟨rfl, fn, y3, y4, y5, rfl, hf⟩
      obtain ⟨g, hg, rfl⟩ := int_at hi
      have gpos : 0 < g ∧ g < 2147483648 := by
        have hm : g ∈ [2147483629, 2147483587, 2147483579] := List.mem_of_getElem? hg
        simp only [List.mem_cons, List.not_mem_nil, or_false] at hm
        omega
      have gne : g ≠ 0 := by omega
      have fm : ∀ a : Int, 0 ≤ a.fmod g ∧ a.fmod g < g := fun a => ⟨Int.fmod_nonneg_of_pos a gpos.1, Int.fmod_lt_of_pos a gpos.1⟩
      -- blend
      refine ⟨.int t', rfl, t', 69621, rfl, rfl, .inr ⟨by decide, by decide⟩, .int g, rfl, g, 7, rfl, rfl, ⟨by decide, by decide⟩, _, _, rfl, rfl, .int g, rfl, _, _, rfl, rfl, gne, ?_⟩
      refine ⟨.ref d, rfl, d, .ref c, rfl, dget (k := .inr "cells") g1' dv_cells, c, rfl, ⟨_, SqL.of g6'⟩, for_list (K := K) (a := c) (xs := cs.map V.int) (fun i σ H1 => H1 = H' ∧ ∃ (b : Int) (y5 : Option V), σ = [some (.ref d), some (.int t'), some (.int fn), some (.int g), some (.int b), y5] ∧ 0 ≤ b ∧ b < g)
        ⟨rfl, (t' * 69621 + g / 7).fmod g, _, rfl, fm _⟩ (fun i σ H1 _ ⟨e, _⟩ => by rw [e]; exact SqL.of g6') ?_ ?_⟩
      · rintro j y σ H1 hj ⟨rfl, b, y5', rfl, b1, b2⟩
        obtain ⟨z, hz, rfl⟩ := int_at hj
        exact ⟨.int b, rfl, b, 48271, rfl, rfl, .inr ⟨by decide, by decide⟩, .int z, rfl, .inl ⟨z, rfl, _, _, rfl, rfl, .int g, rfl, _, _, rfl, rfl, gne, rfl, _, _, rfl, fm _⟩⟩
      · rintro σ H1 ⟨rfl, b, y5', rfl, b1, b2⟩
        refine ⟨.int fn, rfl, fn, 2147483647, rfl, rfl, .inr ⟨by decide, by decide⟩, .int b, rfl, b, 5, rfl, rfl, ⟨by decide, by decide, by omega⟩, .int g, rfl, _, _, rfl, rfl, gne, _, _, rfl, rfl, rfl, _, _, _, _, rfl, ?_⟩
        have z := (fm (b ^ (5 : Int).toNat)).1
        have z2 : 0 ≤ fn * 2147483647 := Int.mul_nonneg hf (by decide)
        omega
    · rintro σ H' ⟨rfl, fn, y3, y4, y5, rfl, hf⟩
      exact ⟨_, rfl, q _ _ D2 hf⟩
end
end K04

set_option maxHeartbeats 4000000
namespace K04
open PySem PySem.Spec PyProof.Rows L2
def spTake : Sp := fun vs H Q _ => ∃ (d : Addr) (m : Int) (B : Hp), vs = [.ref d, .int m] ∧ DrawAt B H d ∧ 0 < m ∧ m < 1073741824 ∧ ∀ H' r, DrawAt B H' d → 0 ≤ r → r < m → Q (.int r) H'
def spPick (K : PySem.W.Frag) : Sp := fun vs H Q _ => ∃ (d p : Addr) (xs : List V) (B : Hp), vs = [.ref d, .ref p] ∧ DrawAt B H d ∧ SqL K B p xs ∧ 0 < xs.length ∧ xs.length < 1073741824 ∧ ∀ (H' : Hp) (i : Nat) (x : V), DrawAt B H' d → xs[i]? = some x → Q x H'
section
variable {P : Program} {w : World} {K : PySem.W.Frag} {mg : Str → Option Value} {base : Heap}
abbrev N_take : List Str := ["draw", "amount", "found"]
theorem sc_take : FnScope N_take ["draw", "amount"] (defScope s_law_take) := ⟨rfl, rfl, rfl, by decide +kernel, rfl, by decide +kernel, by decide +kernel⟩
theorem ok_take {f fM : Addr} {fd fdM : FuncData} {k : Nat} (F : FnP K "_law_take" s_law_take f fd) (T : Bl mg) (GM : FnOk P w K mg base CX0 k fM fdM ["draw"] spMixed) (gM : mg "_law_mixed" = some (.ref fM)) (kM : PySem.W.keepIn K (.ref fM) = true) (bM : Binds K fdM ["draw"] []) :
    FnOk P w K mg base CX0 (k + 1) f fd ["draw", "amount"] spTake := by
  refine F.ok sc_take (fun vs H Q E h => ?_) (fun cdv A outer s H vs Q E hr h => ?_)
  · obtain ⟨d, m, B, rfl, _⟩ := h
    rfl
  · obtain ⟨d, m, B, rfl, D, m0, m1, q⟩ := h
    have hu := hu_of hr
    have hun : (A.deeper (envOfC "_law_take" (defScope s_law_take) s.heap.objs.size f cdv)).units + 64 < cLine := by have := hr.un; omega
    refine ⟨_, PSs.nox <| pss_cons (PS.J <| ps_if (pt_cmpR op_eq (pe_dget hu (pv 0) pe_str (fun _ _ => rfl)) pe_int (nomark _))
        (pss_one (ps_dput hu (pv 0) pe_str (pe_ifExp (pt_cmpR (op_neD hun) (pe_dget hu (pv 0) pe_str (fun _ _ => rfl)) (pe_lst pa_nil) (nomark _))
          (pe_bm PySem.F.plainAttrs_list PySem.F.slot_list_pop PySem.F.type_list_pop mt_popAt (pe_dget hu (pv 0) pe_str (fun _ _ => rfl)) (pa_cons pe_int pa_nil))
          (pe_call GM hr rfl gM kM bM .nil pass0 (pa_cons (pv 0) pa_nil))) rfl)) pss_nil)
      (pss_cons (ps_set (i := 2) sc_take.nd rfl (Or.inl rfl) (pe_op op_modN (pe_callTy call_int1 (by rfl) T.int (by decide +kernel) (pa_cons (pe_dget hu (pv 0) pe_str (fun _ _ => rfl)) pa_nil)) (pv 1)))
      (pss_cons (ps_dput hu (pv 0) pe_str (pe_op op_fdivN (pe_callTy call_int1 (by rfl) T.int (by decide +kernel) (pa_cons (pe_dget hu (pv 0) pe_str (fun _ _ => rfl)) pa_nil)) (pv 1)) rfl)
      (pss_one (ps_ret (pv 2))))), ?_⟩
    obtain ⟨sm, nd, l, c, r, t, ls, cs, h1, h2, h3, h4, h5, h6, h7, h8, h9, h10⟩ := id D
    refine ⟨fun σ H1 => σ = [some (.ref d), some (.int m), none] ∧ DrawAt B H1 d, ⟨.ref d, rfl, d, .int r, rfl, dget (k := .inr "rest") h1 dv_rest, rfl, _, rfl, ?_⟩, ?_⟩
    · refine ite2 (fun _ => ?_) (fun _ => ⟨rfl, D⟩)
      -- draw['large'] != []
      refine ⟨.ref d, rfl, d, .ref l, rfl, dget (k := .inr "large") h1 dv_large, Nat.zero_le _, fun e he => ?_⟩
      have D1 := D.drop (o := .lst []) he
      have g1 : (upd H e (.lst [])) d = some (.dK (drawKV l c r t)) := by rw [upd_ne (ne_of_none h1 he)]; exact h1
      have g5 : (upd H e (.lst [])) l = some (.lst (ls.map V.int)) := by rw [upd_ne (ne_of_none h5 he)]; exact h5
      have g6 : (upd H e (.lst [])) c = some (.lst (cs.map V.int)) := by rw [upd_ne (ne_of_none h6 he)]; exact h6
      have ge : (upd H e (.lst [])) e = some (.lst []) := upd_same
      generalize upd H e (.lst []) = H1 at D1 g1 g5 g6 ge ⊢
      refine ⟨.list (ls.map PyData.int), .list [], .lst (SqL.of g5) (dpAll_ints ls), .lst (SqL.of ge) .nil, sh_ints ls, sh_ints [], _, rfl, ?_⟩
      have ndl : l ≠ d := ne_of g5 g1 (by intro z; cases z)
      have ndc : c ≠ d := ne_of g6 g1 (by intro z; cases z)
      have put : ∀ H2 r', DrawAt B H2 d → 0 ≤ r' → ∃ a k, (V.ref d : V) = .ref a ∧ DPut H2 a (kV (.inr "rest")) (.int r') k ∧ DrawAt B k d := fun H2 r' D2 hr' => by
        obtain ⟨sm', nd', l', c', r2, t2, ls', cs', z1, z2, z3, z4, z5, z6, z7, z8⟩ := D2
        have n1 : l' ≠ d := ne_of z5 z1 (by intro z; cases z)
        have n2 : c' ≠ d := ne_of z6 z1 (by intro z; cases z)
        refine ⟨d, _, rfl, DPut.k (k := .inr "rest") z1 (by show 4 < sizeLine; decide), ?_⟩
        rw [dp_rest]
        exact ⟨fun b o e => by rw [upd_ne (ne_of_none e nd')]; exact sm' b o e, nd', l', c', r', t2, ls', cs', upd_same, z2, z3, z4, by rw [upd_ne n1]; exact z5, by rw [upd_ne n2]; exact z6, hr', z8⟩
      cases ls with
      | nil =>
        refine iteF ?_
        refine ⟨.ref d, rfl, d, B, rfl, D1, fun H2 r' D2 hr' => ?_⟩
        obtain ⟨a, k, e1, e2, D3⟩ := put H2 r' D2 hr'
        cases e1
        exact ⟨.ref d, rfl, d, _, rfl, e2, rfl, D3⟩
      | cons x ls =>
        refine iteT ?_
        refine ⟨.ref d, rfl, d, .ref l, rfl, dget (k := .inr "large") g1 dv_large, .inl ⟨rfl, _, SqL.of g5⟩, l, _, 0, 0, .int x, rfl, rfl, g5, by decide, by decide, by simp [seqIndex?], rfl, ?_⟩
        have D2 : DrawAt B (upd H1 l (.lst (ls.map V.int))) d := ⟨fun b o e => by rw [upd_ne (ne_of_none e h3)]; exact D1.same b o e, nd, l, c, r, t, ls, cs, by rw [upd_ne (Ne.symm ndl)]; exact g1, h2, h3, h4, upd_same, by rw [upd_ne (Ne.symm h2)]; exact g6, h7, fun y hy => h8 y (List.mem_cons_of_mem _ hy), by simp only [List.length_cons] at h9; omega, h10⟩
        obtain ⟨a, k, e1, e2, D3⟩ := put _ x D2 (h8 x List.mem_cons_self)
        cases e1
        exact ⟨.ref d, rfl, d, _, rfl, e2, rfl, D3⟩
    · rintro σ H1 ⟨rfl, D1⟩
      obtain ⟨sm', nd', l', c', r2, t2, ls', cs', z1, z2, z3, z4, z5, z6, z7, z8⟩ := id D1
      have n1 : l' ≠ d := ne_of z5 z1 (by intro z; cases z)
      have n2 : c' ≠ d := ne_of z6 z1 (by intro z; cases z)
      refine ⟨.ref d, rfl, d, .int r2, rfl, dget (k := .inr "rest") z1 dv_rest, .inl ⟨r2, rfl, .int m, rfl, _, _, rfl, rfl, by omega, ?_⟩⟩
      refine ⟨.ref d, rfl, d, .int r2, rfl, dget (k := .inr "rest") z1 dv_rest, .inl ⟨r2, rfl, .int m, rfl, _, _, rfl, rfl, ⟨by omega, by omega⟩, ?_⟩⟩
      refine ⟨.ref d, rfl, d, _, rfl, DPut.k (k := .inr "rest") z1 (by show 4 < sizeLine; decide), ?_⟩
      rw [dp_rest]
      refine ⟨_, rfl, q _ _ ⟨fun b o e => by rw [upd_ne (ne_of_none e nd')]; exact sm' b o e, nd', l', c', _, t2, ls', cs', upd_same, z2, z3, z4, by rw [upd_ne n1]; exact z5, by rw [upd_ne n2]; exact z6, ?_, z8⟩ (Int.fmod_nonneg_of_pos r2 m0) (Int.fmod_lt_of_pos r2 m0)⟩
      show 0 ≤ r2.fdiv m
      rw [Int.fdiv_eq_ediv_of_nonneg _ (Int.le_of_lt m0)]
      exact Int.ediv_nonneg z7 (Int.le_of_lt m0)
abbrev N_pick : List Str := ["draw", "some"]
theorem sc_pick : FnScope N_pick ["draw", "some"] (defScope s_law_pick) := ⟨rfl, rfl, rfl, by decide +kernel, rfl, by decide +kernel, by decide +kernel⟩
theorem ok_pick {f fM : Addr} {fd fdM : FuncData} {k : Nat} (F : FnP K "_law_pick" s_law_pick f fd) (T : Bl mg) (GM : FnOk P w K mg base CX0 k fM fdM ["draw", "amount"] spTake) (gM : mg "_law_take" = some (.ref fM)) (kM : PySem.W.keepIn K (.ref fM) = true) (bM : Binds K fdM ["draw", "amount"] []) :
    FnOk P w K mg base CX0 (k + 1) f fd ["draw", "some"] (spPick K) := by
  refine F.ok sc_pick (fun vs H Q E h => ?_) (fun cdv A outer s H vs Q E hr h => ?_)
  · obtain ⟨d, p, xs, B, rfl, _⟩ := h
    rfl
  · obtain ⟨d, p, xs, B, rfl, D, hS, l0, l1, q⟩ := h
    refine ⟨_, PSs.nox <| pss_one (ps_ret (pe_ix ix_list (pv 1) (pe_call GM hr rfl gM kM bM .nil pass0 (pa_cons (pv 0) (pa_cons (pe_callB call_len_seq (by rfl) T.len PySem.boot_len (pa_cons (pv 1) pa_nil)) pa_nil))) (fun _ _ => rfl))), ?_⟩
    refine ⟨.ref p, rfl, .ref d, rfl, .ref p, rfl, p, xs, rfl, .inl (D.same.seq hS), d, _, B, rfl, D, by omega, by omega, fun H' r D' r0 r1 => ?_⟩
    obtain ⟨j, rfl⟩ := Int.eq_ofNat_of_zero_le r0
    have hj : j < xs.length := by omega
    exact ⟨p, xs, _, xs[j], rfl, rfl, D'.same.seq hS, atI_nat (List.getElem?_eq_getElem hj), q H' j _ D' (List.getElem?_eq_getElem hj)⟩
end
end K04

set_option maxHeartbeats 4000000
namespace K04
open PySem PySem.Spec PyProof.Rows L2
/-! ### kinds of values, as the program judges them -/
def spNum (K : PySem.W.Frag) : Sp := fun vs H Q _ => ∃ (v : V) (d : PyData), vs = [v] ∧ Dq K H v d ∧ Q (.bl (numD d)) H
def spWithin (K : PySem.W.Frag) : Sp := fun vs H Q _ => ∃ (v : V) (d : PyData) (lo hi : Int), vs = [v, .int lo, .int hi] ∧ Dq K H v d ∧ Q (.bl (withinD lo hi d)) H
def spAreWithin (K : PySem.W.Frag) : Sp := fun vs H Q _ => ∃ (a : Addr) (xs : List V) (ds : List PyData) (lo hi : Int), vs = [.ref a, .int lo, .int hi] ∧ SqT K H a xs ∧ DqAll K H xs ds ∧ xs.length < sizeLine ∧ ∀ H', Same H H' → Q (.bl (ds.all (withinD lo hi))) H'
def spLineOf (K : PySem.W.Frag) : Sp := fun vs H Q _ => ∃ (v : V) (d : PyData) (m lo hi : Int), vs = [v, .int m, .int lo, .int hi] ∧ Dq K H v d ∧ m < 16777216 ∧ ∀ H', Same H H' → Q (.bl (lineD m lo hi d)) H'
def spUnlike (K : PySem.W.Frag) : Sp := fun vs H Q _ => ∃ (a : Addr) (ns : List Int), vs = [.ref a] ∧ SqT K H a (ns.map V.int) ∧ ns.length ≤ 4000 ∧ Q (.bl (decide ns.Nodup)) H
section
variable {P : Program} {w : World} {K : PySem.W.Frag} {mg : Str → Option Value} {base : Heap}
theorem sc_is_number : FnScope ["thing"] ["thing"] (defScope s_is_number) := ⟨rfl, rfl, rfl, by decide +kernel, rfl, by decide +kernel, by decide +kernel⟩
theorem ok_is_number {f : Addr} {fd : FuncData} {k : Nat} (F : FnP K "is_number" s_is_number f fd) (T : Bl mg) : FnOk P w K mg base CX0 (k + 1) f fd ["thing"] (spNum K) := by
  refine F.ok sc_is_number (fun vs H Q E h => ?_) (fun cdv A outer s H vs Q E hr h => ?_)
  · obtain ⟨v, d, rfl, _⟩ := h
    rfl
  · obtain ⟨v, d, rfl, hd, q⟩ := h
    refine ⟨_, PSs.nox <| pss_one (ps_ret (pe_and (pe_callB call_isi (by rfl) T.isi (by decide +kernel) (pa_cons (pv 0) (pa_cons (pe_bltn (v := .ty "int") (by rfl) T.int (by decide +kernel) rfl) pa_nil)))
      (pe_one (pe_not (pe_callB call_isi (by rfl) T.isi (by decide +kernel) (pa_cons (pv 0) (pa_cons (pe_bltn (v := .ty "bool") (by rfl) T.bool (by decide +kernel) rfl) pa_nil))))))), ?_⟩
    obtain ⟨Tn, ty, kd⟩ := hd.kind
    refine ⟨v, rfl, v, .ty "int", _, .type "int", _, rfl, .ty "int", ty, kd.int, _, rfl, ?_⟩
    rw [numD_eq] at q
    cases e : isIntD d with
    | false =>
      rw [e] at q
      exact q
    | true =>
      rw [e] at q
      exact ⟨v, rfl, v, .ty "bool", _, .type "bool", _, rfl, .ty "bool", ty, kd.bool, _, rfl, q⟩
theorem sc_is_within : FnScope ["thing", "low", "high"] ["thing", "low", "high"] (defScope s_is_within) := ⟨rfl, rfl, rfl, by decide +kernel, rfl, by decide +kernel, by decide +kernel⟩
theorem ok_is_within {f fN : Addr} {fd fdN : FuncData} {k : Nat} (F : FnP K "is_within" s_is_within f fd) (GN : FnOk P w K mg base CX0 k fN fdN ["thing"] (spNum K)) (gN : mg "is_number" = some (.ref fN)) (kN : PySem.W.keepIn K (.ref fN) = true) (bN : Binds K fdN ["thing"] []) :
    FnOk P w K mg base CX0 (k + 1) f fd ["thing", "low", "high"] (spWithin K) := by
  refine F.ok sc_is_within (fun vs H Q E h => ?_) (fun cdv A outer s H vs Q E hr h => ?_)
  · obtain ⟨v, d, lo, hi, rfl, _⟩ := h
    rfl
  · obtain ⟨v, d, lo, hi, rfl, hd, q⟩ := h
    refine ⟨_, PSs.nox <| pss_one (ps_ret (pe_and (pe_call GN hr rfl gN kN bN .nil pass0 (pa_cons (pv 0) pa_nil)) (pe_one (pe_chain op_le op_le (pv 1) (pv 0) (pv 2))))), ?_⟩
    refine ⟨v, rfl, v, d, rfl, hd, _, rfl, ?_⟩
    cases hd with
    | int i =>
      refine ⟨_, rfl, _, rfl, lo, i, rfl, rfl, _, rfl, ?_⟩
      have q : Q (.bl (decide (lo ≤ i) && decide (i ≤ hi))) H := q
      cases e : decide (lo ≤ i) with
      | false =>
        rw [e] at q
        exact q
      | true =>
        rw [e] at q
        exact ⟨_, rfl, i, hi, rfl, rfl, q⟩
    | _ => exact q
theorem sc_are_within : FnScope ["things", "low", "high", "thing"] ["things", "low", "high"] (defScope s_are_within) := ⟨rfl, rfl, rfl, by decide +kernel, rfl, by decide +kernel, by decide +kernel⟩
theorem ok_are_within {f fN : Addr} {fd fdN : FuncData} {k : Nat} (F : FnP K "are_within" s_are_within f fd) (T : Bl mg) (GN : FnOk P w K mg base CX0 k fN fdN ["thing", "low", "high"] (spWithin K)) (gN : mg "is_within" = some (.ref fN)) (kN : PySem.W.keepIn K (.ref fN) = true) (bN : Binds K fdN ["thing", "low", "high"] []) :
    FnOk P w K mg base CX0 (k + 1) f fd ["things", "low", "high"] (spAreWithin K) := by
  refine F.ok sc_are_within (fun vs H Q E h => ?_) (fun cdv A outer s H vs Q E hr h => ?_)
  · obtain ⟨a, xs, ds, lo, hi, rfl, _⟩ := h
    rfl
  · obtain ⟨a, xs, ds, lo, hi, rfl, hS, hd, hl, q⟩ := h
    refine ⟨_, PSs.nox <| pss_one (ps_ret (pe_callB (cr_all rfl) (by rfl) T.all (by decide +kernel) (pa_cons
      (pe_lc (own := [("thing", 3)]) (g := gName 3) (tt := tYes) rfl sc_are_within.nd (pi_tup (pv 0)) (blkOk_by (N := ["things", "low", "high", "thing"]) (sc := defScope s_are_within) (by decide +kernel)) (fun _ _ _ _ _ => pg_name (i := 3) sc_are_within.nd rfl (Or.inl rfl)) (fun _ _ _ _ _ => pts_nil)
        (fun _ _ _ _ _ => pe_call GN (by exact hr) rfl gN kN bN .nil pass0 (pa_cons (pv 3) (pa_cons (pv 1) (pa_cons (pv 2) pa_nil))))) pa_nil))), ?_⟩
    refine ⟨.ref a, rfl, a, rfl, ⟨_, hS⟩, fun D hD => ?_⟩
    refine lc_tup (K := K) (xs := xs) (fun i H' => Same H H' ∧ H' D = some (.lst (((ds.take i).map (withinD lo hi)).map V.bl))) ⟨same_new hD, by rw [upd_same]; rfl⟩ (fun i H' _ ⟨sm, _⟩ => same_seqT sm hS) ?_ ?_
    · rintro i y H' hi' ⟨sm, hL⟩
      obtain ⟨d, hdi, hy⟩ := hd.at hi'
      have hlt : i < xs.length := (List.getElem?_eq_some_iff.mp hi').1
      have hlt2 : i < ds.length := (List.getElem?_eq_some_iff.mp hdi).1
      refine ⟨rfl, ?_⟩
      dsimp only [tYes]
      rw [if_pos rfl]
      refine ⟨y, rfl, _, rfl, _, rfl, y, d, lo, hi, rfl, hy.same sm, _, hL, ?_, fun b o e => ?_, ?_⟩
      · rw [List.length_map, List.length_map, List.length_take]
        omega
      · rw [upd_ne (ne_of_none e hD)]
        exact sm b o e
      · rw [upd_same, List.take_add_one, hdi, List.map_append, List.map_append]
        rfl
    · rintro H1 ⟨sm, hL⟩
      rw [hd.length, List.take_length] at hL
      have e : ds.all (withinD lo hi) = (ds.map (withinD lo hi)).all id := by rw [List.all_map]; rfl
      rw [e] at q
      exact ⟨D, ds.map (withinD lo hi), rfl, SqL.of hL, q H1 sm⟩
theorem sc_is_line_of : FnScope ["thing", "most", "low", "high"] ["thing", "most", "low", "high"] (defScope s_is_line_of) := ⟨rfl, rfl, rfl, by decide +kernel, rfl, by decide +kernel, by decide +kernel⟩
theorem ok_is_line_of {f fN : Addr} {fd fdN : FuncData} {k : Nat} (F : FnP K "is_line_of" s_is_line_of f fd) (T : Bl mg) (GN : FnOk P w K mg base CX0 k fN fdN ["things", "low", "high"] (spAreWithin K)) (gN : mg "are_within" = some (.ref fN)) (kN : PySem.W.keepIn K (.ref fN) = true) (bN : Binds K fdN ["things", "low", "high"] []) :
    FnOk P w K mg base CX0 (k + 1) f fd ["thing", "most", "low", "high"] (spLineOf K) := by
  refine F.ok sc_is_line_of (fun vs H Q E h => ?_) (fun cdv A outer s H vs Q E hr h => ?_)
  · obtain ⟨v, d, m, lo, hi, rfl, _⟩ := h
    rfl
  · obtain ⟨v, d, m, lo, hi, rfl, hd, hm, q⟩ := h
    refine ⟨_, PSs.nox <| pss_one (ps_ret (pe_and (pe_callB call_isi (by rfl) T.isi (by decide +kernel) (pa_cons (pv 0) (pa_cons (pe_bltn (v := .ty "tuple") (by rfl) T.tuple (by decide +kernel) rfl) pa_nil)))
      (pe_and (pe_chain op_le op_le pe_int (pe_callB call_len_seq (by rfl) T.len PySem.boot_len (pa_cons (pv 0) pa_nil)) (pv 1))
        (pe_one (pe_call GN hr rfl gN kN bN .nil pass0 (pa_cons (pv 0) (pa_cons (pv 2) (pa_cons (pv 3) pa_nil)))))))), ?_⟩
    obtain ⟨Tn, ty, kd⟩ := hd.kind
    refine ⟨v, rfl, v, .ty "tuple", _, .type "tuple", _, rfl, .ty "tuple", ty, kd.tup, _, rfl, ?_⟩
    cases hd with
    | tup hs ha =>
      rename_i a xs ds
      have q : ∀ H', Same H H' → Q (.bl (decide (1 ≤ ds.length) && decide ((ds.length : Int) ≤ m) && ds.all (withinD lo hi))) H' := q
      have hl := ha.length
      refine ⟨_, rfl, a, xs, rfl, .inr hs, 1, _, rfl, rfl, _, rfl, ?_⟩
      by_cases h1 : 1 ≤ ds.length
      · rw [if_pos (by rw [decide_eq_true_iff]; omega)]
        refine ⟨_, rfl, _, m, rfl, rfl, _, rfl, ?_⟩
        by_cases h2 : (ds.length : Int) ≤ m
        · rw [if_pos (by rw [decide_eq_true_iff, hl]; exact h2)]
          rw [decide_eq_true h1, decide_eq_true h2] at q
          exact ⟨_, rfl, _, rfl, _, rfl, a, xs, ds, lo, hi, rfl, hs, ha, by rw [hl, sizeLine_eq]; omega, q⟩
        · have e2 : decide ((xs.length : Int) ≤ m) = false := by rw [decide_eq_false_iff_not, hl]; exact h2
          rw [e2]
          rw [decide_eq_false h2, Bool.and_false, Bool.false_and] at q
          exact q H (Same.refl H)
      · have e1 : decide ((1 : Int) ≤ (xs.length : Int)) = false := by rw [decide_eq_false_iff_not]; omega
        rw [e1]
        rw [decide_eq_false h1, Bool.false_and, Bool.false_and] at q
        exact ⟨_, rfl, q H (Same.refl H)⟩
    | _ => exact q H (Same.refl H)
theorem sc_are_unlike : FnScope ["things"] ["things"] (defScope s_are_unlike) := ⟨rfl, rfl, rfl, by decide +kernel, rfl, by decide +kernel, by decide +kernel⟩
theorem ok_are_unlike {f : Addr} {fd : FuncData} {k : Nat} (F : FnP K "are_unlike" s_are_unlike f fd) (T : Bl mg) : FnOk P w K mg base CX0 (k + 1) f fd ["things"] (spUnlike K) := by
  refine F.ok sc_are_unlike (fun vs H Q E h => ?_) (fun cdv A outer s H vs Q E hr h => ?_)
  · obtain ⟨a, ns, rfl, _⟩ := h
    rfl
  · obtain ⟨a, ns, rfl, hS, hl, q⟩ := h
    refine ⟨_, PSs.nox <| pss_one (ps_ret (pe_cmpR op_eq (pe_lenSetT (by rfl) T.len (by rfl) T.set (pv 0) rfl) (pe_callB call_len_seq (by rfl) T.len PySem.boot_len (pa_cons (pv 0) pa_nil)) (nomark _))), ?_⟩
    refine ⟨_, rfl, a, ns, rfl, hS, hl, fun c hc he => ⟨_, rfl, a, _, rfl, .inr hS, ?_⟩⟩
    refine ⟨rfl, ?_⟩
    have e : decide (V.int (c : Int) = V.int (((ns.map V.int).length : Nat) : Int)) = decide ns.Nodup := by
      rw [List.length_map]
      refine decide_eq_decide.mpr ⟨fun z => he.mp ?_, fun z => ?_⟩
      · injection z with z
        omega
      · rw [he.mpr z]
    rw [e]
    exact q
end
end K04

set_option maxHeartbeats 4000000
namespace K04
open PySem PySem.Spec PyProof.Rows L2
abbrev FnM (K : PySem.W.Frag) (c : Str) (q : Str) (st : Stmt) (dvs : List V) (f : Addr) (fd : FuncData) : Prop := FunD K "__init__" q (defArgs st) (defBody st) (defScope st) dvs [] f fd
def Short (d : PyData) : Prop := ∀ y : Str, d = .str y → y.length ≤ 100
def spWords (K : PySem.W.Frag) : Sp := fun vs H Q _ => ∃ (z : Str) (v : V) (d : PyData), vs = [.str z, v] ∧ z.length ≤ 100 ∧ Dq K H v d ∧ Short d ∧ ∀ y, Q (.str y) H
def spRound (K : PySem.W.Frag) : Sp := fun vs H Q _ => ∃ (a C : Addr) (v : V), vs = [.ref a, v] ∧ OexC K C ∧ H a = some (exo a C none) ∧ Q .non H
/-- __init__ of the error of D with the field n -/
def spField (K : PySem.W.Frag) (D : Addr) (n : Str) : Sp := fun vs H Q _ => ∃ (a : Addr) (v : V) (d : PyData), vs = [.ref a, v] ∧ H a = some (exo a D none) ∧ Dq K H v d ∧ Short d ∧
  ∀ dx, H dx = none → dx ≠ a → Q .non (upd (upd H dx (exd dx [(n, v)])) a (exo a D (some dx)))
section
variable {P : Program} {w : World} {K : PySem.W.Frag} {mg : Str → Option Value} {base : Heap}
theorem sc_words : FnScope ["words", "told"] ["words", "told"] (defScope s_words) := ⟨rfl, rfl, rfl, by decide +kernel, rfl, by decide +kernel, by decide +kernel⟩
theorem ok_words {f : Addr} {fd : FuncData} {k : Nat} (F : FnP K "_words" s_words f fd) (T : Bl mg) : FnOk P w K mg base CX0 (k + 1) f fd ["words", "told"] (spWords K) := by
  refine F.ok sc_words (fun vs H Q E h => ?_) (fun cdv A outer s H vs Q E hr h => ?_)
  · obtain ⟨z, v, d, rfl, _⟩ := h
    rfl
  · obtain ⟨z, v, d, rfl, hz, hd, hs, q⟩ := h
    refine ⟨_, PSs.nox <| pss_one (ps_ret (pe_ifExp (pt_val (pe_callB call_isi (by rfl) T.isi (by decide +kernel) (pa_cons (pv 1) (pa_cons (pe_bltn (v := .ty "str") (by rfl) T.str (by decide +kernel) rfl) pa_nil))))
      (pe_joined (.cons (pe_fmt (pv 0)) (.cons pe_str (.cons (pe_fmt (pv 1)) (.cons pe_str .nil))))) (pv 0))), ?_⟩
    obtain ⟨Tn, b, ty, kt, hb⟩ := hd.ty
    refine ⟨v, rfl, v, .ty "str", .type Tn, .type "str", b, rfl, .ty "str", ty, kt, b, rfl, ?_⟩
    cases b with
    | false => exact ⟨_, rfl, q z⟩
    | true =>
      obtain ⟨y, rfl, rfl⟩ := hb rfl
      have hy := hs y rfl
      have L : ∀ a b : Str, (a ++ b).length = a.length + b.length := fun a b => Str.length_append a b
      have b1 : (" (" : Str).length = 2 := by decide +kernel
      have b2 : (")" : Str).length = 1 := by decide +kernel
      have b0 : Str.empty.length = 0 := rfl
      have e := sizeLine_eq
      refine ⟨_, rfl, .inl ⟨z, rfl, by omega, z, rfl, by rw [L]; omega, ?_⟩⟩
      refine ⟨_, rfl, by rw [L, L]; omega, _, rfl, .inl ⟨y, rfl, by omega, y, rfl, by rw [L, L, L]; omega, _, rfl, by rw [L, L, L, L]; omega, q _⟩⟩
theorem sc_round : FnScope ["self", "message"] ["self", "message"] (defScope i_RoundError) := ⟨rfl, rfl, rfl, by decide +kernel, rfl, by decide +kernel, by decide +kernel⟩
theorem ve_init : PySem.W.findCls K (.type "ValueError") (.type "type") "__init__" = some (.val (.builtin "ValueError.__init__")) := by kernel_rfl
theorem ok_round {f : Addr} {fd : FuncData} {k : Nat} (F : FnM K "RoundError" "RoundError.__init__" i_RoundError [.str ""] f fd) (T : Bl mg) : FnOk P w K mg base CX0 (k + 1) f fd ["self", "message"] (spRound K) := by
  refine F.ok sc_round (fun vs H Q E h => ?_) (fun cdv A outer s H vs Q E hr h => ?_)
  · obtain ⟨a, C, v, rfl, _⟩ := h
    rfl
  · obtain ⟨a, C, v, rfl, O, e, q⟩ := h
    refine ⟨_, PSs.nox <| pss_one (ps_expr (pe_veinit (by rfl) T.ve ve_init (pa_cons (pv 0) (pa_cons (pv 1) pa_nil)))), ?_⟩
    exact ⟨_, rfl, _, rfl, a, C, [v], rfl, by show 1 ≤ 1000; decide, O, e, q⟩
end
/-- what the helpers of the errors' __init__ promise, and where they stand -/
structure Hlp (P : Program) (w : World) (K : PySem.W.Frag) (mg : Str → Option Value) (base : Heap) (k : Nat) where
  fR : Addr
  fW : Addr
  fdR : FuncData
  fdW : FuncData
  GR : FnOk P w K mg base CX0 k fR fdR ["self", "message"] (spRound K)
  bR : Binds K fdR ["self", "message"] []
  gW : mg "_words" = some (.ref fW)
  kW : PySem.W.keepIn K (.ref fW) = true
  GW : FnOk P w K mg base CX0 k fW fdW ["words", "told"] (spWords K)
  bW : Binds K fdW ["words", "told"] []
  sup : mg "super" = none
section
variable {P : Program} {w : World} {K : PySem.W.Frag} {mg : Str → Option Value} {base : Heap}
theorem sc_BadNumber : NdefX.NScope ["self", "part", "__class__"] ["self", "part"] ["__class__"] (defScope i_BadNumber) := NdefX.nscope_by (by decide +kernel)
theorem ok_BadNumber {D f cc cda : Addr} {fd : FuncData} {k : Nat} (Z : SupF K file "__init__" "BadNumber.__init__" (defArgs i_BadNumber) (defBody i_BadNumber) (defScope i_BadNumber) D f cc cda fd) (Y : Hlp P w K mg base k) (hP : SupP P file) (C : SupC K D "__init__" Y.fR) (O : OexC K D) (no : PySem.W.findIn K (.ref D) "part" = some none) :
    FnOk P w K mg base CX0 (k + 1) f fd ["self", "part"] (spField K D "part") := by
  refine fn_super Z sc_BadNumber (fun vs H Q E h => ?_) (fun A outer s H vs Q E hr h => ?_)
  · obtain ⟨a, v, d, rfl, _⟩ := h
    rfl
  · obtain ⟨a, v, d, rfl, e, hd, hs, q⟩ := h
    refine ⟨_, ps0_super (m := "__init__") Z hP C Y.GR hr Y.bR pass0 Y.sup (pa_cons (pe_call Y.GW hr rfl Y.gW Y.kW Y.bW .nil pass0 (pa_cons pe_str (pa_cons (pv 1) pa_nil))) pa_nil)
      (PSs.nox <| pss_one (ps_ost (pv 0) (pv 1))) rfl rfl rfl rfl rfl rfl rfl rfl, ?_⟩
    exact ⟨a, rfl, e, v, rfl, _, v, d, rfl, by decide +kernel, hd, hs, fun y => ⟨a, D, .str y, rfl, O, e, v, rfl, .ref a, rfl, a, D, rfl, O, no, .inl ⟨e, q⟩⟩⟩
end
end K04

set_option maxHeartbeats 4000000
namespace K04
open PySem PySem.Spec PyProof.Rows L2
/-! ### nets and windows -/
def netD (d : PyData) : Bool := match d with
  | .tuple ds => lineD 400 1 1000000000 (.tuple ds) && decide (intsD ds).Nodup
  | _ => false
def nsD : PyData → List Int
  | .tuple ds => intsD ds
  | _ => []
def iD : PyData → Int
  | .int i => i
  | _ => 0
/-- what stands around a place of a ring -/
def ringL (ns : List Int) (p r : Int) : List Int := (List.range (2 * r + 1).toNat).map fun (i : Nat) => ns.getD ((p - r + (i : Int)).fmod ns.length).toNat 0
/-- .. of a path -/
def pathL (ns : List Int) (p r : Int) : List Int := (List.range (2 * r + 1).toNat).map fun (i : Nat) => if 0 ≤ p - r + (i : Int) ∧ p - r + (i : Int) < ns.length then ns.getD (p - r + (i : Int)).toNat 0 else 0
def fR (K : PySem.W.Frag) : Addr := He.ma K (He.ga K "RoundError") "__init__"
/-- an error's class without own __init__ -/
structure PlC (K : PySem.W.Frag) (mg : Str → Option Value) (x : Str) : Prop where
  g : mg x = some (.ref (He.ga K x))
  c : He.ErrC K (mR K) (He.ga K x)
  i : PySem.W.findIn K (.ref (He.ga K x)) "__init__" = some (some (.ref (fR K)))
  t : PySem.W.typeIn K (.ref (fR K)) = some (.type "function")
  rm : PySem.W.exmOne K (.ref (He.ga K x)) (.ref (He.ga K "RoundError")) = some true
/-- an error's class with the field n -/
structure FdC (P : Program) (w : World) (K : PySem.W.Frag) (mg : Str → Option Value) (base : Heap) (k : Nat) (x n : Str) : Prop where
  g : mg x = some (.ref (He.ga K x))
  c : He.ErrC K (mR K) (He.ga K x)
  i : PySem.W.findIn K (.ref (He.ga K x)) "__init__" = some (some (.ref (He.ma K (He.ga K x) "__init__")))
  t : PySem.W.typeIn K (.ref (He.ma K (He.ga K x) "__init__")) = some (.type "function")
  no : PySem.W.findIn K (.ref (He.ga K x)) n = some none
  rm : PySem.W.exmOne K (.ref (He.ga K x)) (.ref (He.ga K "RoundError")) = some true
  ok : ∃ fd, FnOk P w K mg base CX0 k (He.ma K (He.ga K x) "__init__") fd ["self", n] (spField K (He.ga K x) n) ∧ Binds K fd ["self", n] []
theorem FdC.mono {P : Program} {w : World} {K : PySem.W.Frag} {mg : Str → Option Value} {base : Heap} {j k : Nat} {x n : Str} (h : FdC P w K mg base j x n) (l : j ≤ k) : FdC P w K mg base k x n :=
  ⟨h.g, h.c, h.i, h.t, h.no, h.rm, let ⟨fd, G, b⟩ := h.ok; ⟨fd, G.mono l, b⟩⟩
def spIsNet (K : PySem.W.Frag) : Sp := fun vs H Q _ => ∃ (v : V) (d : PyData), vs = [v] ∧ Dq K H v d ∧ ∀ H', Same H H' → Q (.bl (netD d)) H'
def spCheckNet (K : PySem.W.Frag) : Sp := fun vs H Q E => ∃ (v : V) (d : PyData), vs = [v] ∧ Dq K H v d ∧ ∀ H', Same H H' → if netD d = true then Q .non H' else E (.ref (He.ga K "BadNet")) none H'
/-- what comes of a net, a place and rounds -/
def winOut (K : PySem.W.Frag) (H : Hp) (d1 d2 d3 : PyData) (ok : Hp → Prop) (E : XK) : Prop := ∀ H', Same H H' →
  if netD d1 = true then
    if withinD 0 ((nsD d1).length - 1 : Int) d2 = true then
      if withinD 0 400 d3 = true then ok H'
      else ∀ dx, H dx = none → H' dx = some (exd dx [("part", .str "rounds")]) → E (.ref (He.ga K "BadNumber")) (some dx) H'
    else ∀ dx, H dx = none → H' dx = some (exd dx [("part", .str "place")]) → E (.ref (He.ga K "BadNumber")) (some dx) H'
  else E (.ref (He.ga K "BadNet")) none H'
def spCheckWin (K : PySem.W.Frag) : Sp := fun vs H Q E => ∃ (v1 v2 v3 : V) (d1 d2 d3 : PyData), vs = [v1, v2, v3] ∧ Dq K H v1 d1 ∧ Dq K H v2 d2 ∧ Dq K H v3 d3 ∧ winOut K H d1 d2 d3 (fun H' => Q .non H') E
def spAround (K : PySem.W.Frag) : Sp := fun vs H Q _ => ∃ (a : Addr) (ns : List Int) (p r : Int), vs = [.ref a, .int p, .int r] ∧ SqT K H a (ns.map V.int) ∧ 0 < ns.length ∧ ns.length ≤ 400 ∧ 0 ≤ p ∧ p < 400 ∧ 0 ≤ r ∧ r ≤ 400 ∧
  ∀ H' t, Same H H' → H t = none → H' t = some (.tup ((ringL ns p r).map V.int)) → Q (.ref t) H'
def spWindow (K : PySem.W.Frag) (f : List Int → Int → Int → List Int) : Sp := fun vs H Q E => ∃ (v1 v2 v3 : V) (d1 d2 d3 : PyData), vs = [v1, v2, v3] ∧ Dq K H v1 d1 ∧ Dq K H v2 d2 ∧ Dq K H v3 d3 ∧
  winOut K H d1 d2 d3 (fun H' => ∀ t, H t = none → H' t = some (.tup ((f (nsD d1) (iD d2) (iD d3)).map V.int)) → Q (.ref t) H') E
theorem within_int {lo hi : Int} {d : PyData} (h : withinD lo hi d = true) : ∃ i, d = .int i ∧ lo ≤ i ∧ i ≤ hi := by
  cases d with
  | int i =>
    have h : (decide (lo ≤ i) && decide (i ≤ hi)) = true := h
    rw [Bool.and_eq_true, decide_eq_true_iff, decide_eq_true_iff] at h
    exact ⟨i, rfl, h⟩
  | _ => cases h
/-- a net is a tuple of numbers -/
theorem net_tup {K : PySem.W.Frag} {H : Hp} {v : V} {d : PyData} (hd : Dq K H v d) (h : netD d = true) : ∃ a, v = .ref a ∧ SqT K H a ((nsD d).map V.int) ∧ 0 < (nsD d).length ∧ (nsD d).length ≤ 400 := by
  cases hd with
  | tup hs ha =>
    rename_i a xs ds
    have h : (decide (1 ≤ ds.length) && decide ((ds.length : Int) ≤ 400) && ds.all (withinD 1 1000000000) && decide (intsD ds).Nodup) = true := h
    rw [Bool.and_eq_true, Bool.and_eq_true, Bool.and_eq_true, decide_eq_true_iff, decide_eq_true_iff] at h
    obtain ⟨⟨⟨h1, h2⟩, h3⟩, _⟩ := h
    have hn : ds.all numD = true := List.all_eq_true.mpr fun d hd => within_num (List.all_eq_true.mp h3 d hd)
    have e := ha.ints hn
    have l : (intsD ds).length = ds.length := List.length_map _
    refine ⟨a, rfl, ?_, ?_, ?_⟩
    · show SqT K H a ((intsD ds).map V.int)
      rw [← e]
      exact hs
    · show 0 < (intsD ds).length
      omega
    · show (intsD ds).length ≤ 400
      omega
  | _ => cases h
section
variable {P : Program} {w : World} {K : PySem.W.Frag} {mg : Str → Option Value} {base : Heap}
theorem sc_is_net : FnScope ["thing"] ["thing"] (defScope s_is_net) := ⟨rfl, rfl, rfl, by decide +kernel, rfl, by decide +kernel, by decide +kernel⟩
theorem ok_is_net {f fL fU : Addr} {fd fdL fdU : FuncData} {k : Nat} (F : FnP K "is_net" s_is_net f fd) (GL : FnOk P w K mg base CX0 k fL fdL ["thing", "most", "low", "high"] (spLineOf K)) (gL : mg "is_line_of" = some (.ref fL)) (kL : PySem.W.keepIn K (.ref fL) = true) (bL : Binds K fdL ["thing", "most", "low", "high"] [])
    (GU : FnOk P w K mg base CX0 k fU fdU ["things"] (spUnlike K)) (gU : mg "are_unlike" = some (.ref fU)) (kU : PySem.W.keepIn K (.ref fU) = true) (bU : Binds K fdU ["things"] []) (m1 : ∃ t, mg "MOST_HOUSES" = some (.int 400 t)) (m2 : ∃ t, mg "MOST_NAME" = some (.int 1000000000 t)) :
    FnOk P w K mg base CX0 (k + 1) f fd ["thing"] (spIsNet K) := by
  obtain ⟨t1, m1⟩ := m1
  obtain ⟨t2, m2⟩ := m2
  refine F.ok sc_is_net (fun vs H Q E h => ?_) (fun cdv A outer s H vs Q E hr h => ?_)
  · obtain ⟨v, d, rfl, _⟩ := h
    rfl
  · obtain ⟨v, d, rfl, hd, q⟩ := h
    refine ⟨_, PSs.nox <| pss_one (ps_ret (pe_and (pe_call GL hr rfl gL kL bL .nil pass0 (pa_cons (pv 0) (pa_cons (pe_glob (v := .int 400) (by rfl) m1 ⟨t1, rfl⟩) (pa_cons pe_int (pa_cons (pe_glob (v := .int 1000000000) (by rfl) m2 ⟨t2, rfl⟩) pa_nil)))))
      (pe_one (pe_call GU hr rfl gU kU bU .nil pass0 (pa_cons (pv 0) pa_nil))))), ?_⟩
    refine ⟨v, rfl, v, d, 400, 1, 1000000000, rfl, hd, by decide, fun H1 s1 => ⟨_, rfl, ?_⟩⟩
    cases e : lineD 400 1 1000000000 d with
    | false =>
      have z : netD d = false := by
        cases d with
        | tuple ds => show (lineD 400 1 1000000000 (.tuple ds) && decide (intsD ds).Nodup) = false; rw [e]; rfl
        | _ => rfl
      rw [z] at q
      exact q H1 s1
    | true =>
      cases hd with
      | tup hs ha =>
        rename_i a xs ds
        have h : (decide (1 ≤ ds.length) && decide ((ds.length : Int) ≤ 400) && ds.all (withinD 1 1000000000)) = true := e
        have h' := h
        rw [Bool.and_eq_true, Bool.and_eq_true, decide_eq_true_iff, decide_eq_true_iff] at h'
        obtain ⟨⟨h1, h2⟩, h3⟩ := h'
        have hn : ds.all numD = true := List.all_eq_true.mpr fun d hd => within_num (List.all_eq_true.mp h3 d hd)
        have ex := ha.ints hn
        have l : (intsD ds).length = ds.length := List.length_map _
        have z : netD (.tuple ds) = decide (intsD ds).Nodup := by
          show (lineD 400 1 1000000000 (.tuple ds) && decide (intsD ds).Nodup) = _
          rw [e]; rfl
        rw [z] at q
        refine ⟨_, rfl, a, intsD ds, rfl, same_seqT s1 (by rw [← ex]; exact hs), by omega, q H1 s1⟩
      | _ => cases e
theorem sc_check_net : FnScope ["net"] ["net"] (defScope s_check_net) := ⟨rfl, rfl, rfl, by decide +kernel, rfl, by decide +kernel, by decide +kernel⟩
theorem ok_check_net {f fL : Addr} {fd fdL fdR : FuncData} {k : Nat} (F : FnP K "check_net" s_check_net f fd) (GL : FnOk P w K mg base CX0 (k + 1) fL fdL ["thing"] (spIsNet K)) (gL : mg "is_net" = some (.ref fL)) (kL : PySem.W.keepIn K (.ref fL) = true) (bL : Binds K fdL ["thing"] [])
    (C : PlC K mg "BadNet") (GR : FnOk P w K mg base CX0 k (fR K) fdR ["self", "message"] (spRound K)) (bR : Binds K fdR ["self", "message"] []) : FnOk P w K mg base (L2.CX P w) (k + 2) f fd ["net"] (spCheckNet K) := by
  refine F.ok sc_check_net (fun vs H Q E h => ?_) (fun cdv A outer s H vs Q E hr h => ?_)
  · obtain ⟨v, d, rfl, _⟩ := h
    rfl
  · obtain ⟨v, d, rfl, hd, q⟩ := h
    refine ⟨_, pss_one (ps_if (pt_not (pt_val (pe_call GL hr rfl gL kL bL .nil pass0 (pa_cons (pv 0) pa_nil)))) (pss_one (ps_raise rfl (takes_of rfl rfl rfl rfl) (pmk_err C.c.ox C.i C.t GR hr bR .nil pass0 (by rfl) C.g (pa_cons pe_str pa_nil)))) pss_nil), ?_⟩
    refine ⟨v, rfl, v, d, rfl, hd, fun H1 s1 => ⟨_, rfl, ?_⟩⟩
    have q := q H1 s1
    cases e : netD d with
    | true =>
      rw [e] at q
      exact q
    | false =>
      rw [e] at q
      refine ⟨by show 1 ≤ 1000; decide, fun a na => ⟨a, _, _, rfl, C.c.ox, upd_same, rfl, none, upd_same, ?_⟩⟩
      rw [del_upd na]
      exact q
theorem same_none {H H' : Hp} {a : Addr} (s : Same H H') (h : H' a = none) : H a = none := by
  cases e : H a with
  | none => rfl
  | some o =>
    rw [s a o e] at h
    cases h
theorem del_mk {H : Hp} {a dx : Addr} {o o2 e : HO} (na : H a = none) (h : dx ≠ a) : del (upd (upd (upd H a o) dx e) a o2) a = upd H dx e := by
  funext b
  by_cases h1 : b = a
  · rw [h1, del_same, upd_ne (Ne.symm h), na]
  · rw [del_ne h1, upd_ne h1]
    by_cases h2 : b = dx
    · rw [h2, upd_same, upd_same]
    · rw [upd_ne h2, upd_ne h2, upd_ne h1]
/-- raise C(part) -/
theorem raise_fd {H0 H : Hp} {C : Addr} {n part : Str} {E : XK} (c : He.ErrC K (mR K) C) (no : PySem.W.findIn K (.ref C) n = some none) (hp : part.length ≤ 100) (s : Same H0 H)
    (q : ∀ H', Same H0 H' → ∀ dx, H0 dx = none → H' dx = some (exd dx [(n, .str part)]) → E (.ref C) (some dx) H') (a : Addr) (na : H a = none) :
    spField K C n [.ref a, .str part] (upd H a (exo a C none)) (fun v H2 => v = .non ∧ ∃ d : Option Addr, H2 a = some (exo a C d) ∧ E (.ref C) d (del H2 a)) (fun _ _ _ => False) := by
  refine ⟨a, .str part, .str part, rfl, upd_same, .str part, fun y e => ?_, fun dx nd nda => ⟨rfl, some dx, upd_same, ?_⟩⟩
  · cases e
    exact hp
  · have nd1 : H dx = none := by rw [← nd, upd_ne nda]
    rw [del_mk na nda]
    exact q _ (s.trans (same_new nd1)) dx (same_none s nd1) upd_same
theorem sc_check_window : FnScope ["net", "place", "rounds"] ["net", "place", "rounds"] (defScope s_check_window) := ⟨rfl, rfl, rfl, by decide +kernel, rfl, by decide +kernel, by decide +kernel⟩
theorem ok_check_window {f fC fW : Addr} {fd fdC fdW : FuncData} {k : Nat} (F : FnP K "_check_window" s_check_window f fd) (T : Bl mg) (GC : FnOk P w K mg base (L2.CX P w) (k + 1) fC fdC ["net"] (spCheckNet K)) (gC : mg "check_net" = some (.ref fC)) (kC : PySem.W.keepIn K (.ref fC) = true) (bC : Binds K fdC ["net"] [])
    (GW : FnOk P w K mg base CX0 (k + 1) fW fdW ["thing", "low", "high"] (spWithin K)) (gW : mg "is_within" = some (.ref fW)) (kW : PySem.W.keepIn K (.ref fW) = true) (bW : Binds K fdW ["thing", "low", "high"] [])
    (C : FdC P w K mg base k "BadNumber" "part") (m1 : ∃ t, mg "_MOST_ROUNDS" = some (.int 400 t)) : FnOk P w K mg base (L2.CX P w) (k + 2) f fd ["net", "place", "rounds"] (spCheckWin K) := by
  obtain ⟨t1, m1⟩ := m1
  obtain ⟨fdB, GB, bB⟩ := C.ok
  refine F.ok sc_check_window (fun vs H Q E h => ?_) (fun cdv A outer s H vs Q E hr h => ?_)
  · obtain ⟨v1, v2, v3, d1, d2, d3, rfl, _⟩ := h
    rfl
  · obtain ⟨v1, v2, v3, d1, d2, d3, rfl, h1, h2, h3, q⟩ := h
    refine ⟨_, pss_cons (ps_expr (pe_call GC hr rfl gC kC bC .nil (passes_call (takes_of rfl rfl rfl rfl) (fun _ _ _ _ h => h)) (pa_cons (pv 0) pa_nil)))
      (pss_cons (ps_if (pt_not (pt_val (pe_call GW hr rfl gW kW bW .nil pass0 (pa_cons (pv 1) (pa_cons pe_int (pa_cons (pe_op op_sub (pe_callB call_len_seq (by rfl) T.len PySem.boot_len (pa_cons (pv 0) pa_nil)) pe_int) pa_nil))))))
        (pss_one (ps_raise rfl (takes_of rfl rfl rfl rfl) (pmk_err C.c.ox C.i C.t GB hr bB .nil pass0 (by rfl) C.g (pa_cons pe_str pa_nil)))) pss_nil)
      (pss_one (ps_if (pt_not (pt_val (pe_call GW hr rfl gW kW bW .nil pass0 (pa_cons (pv 2) (pa_cons pe_int (pa_cons (pe_glob (v := .int 400) (by rfl) m1 ⟨t1, rfl⟩) pa_nil))))))
        (pss_one (ps_raise rfl (takes_of rfl rfl rfl rfl) (pmk_err C.c.ox C.i C.t GB hr bB .nil pass0 (by rfl) C.g (pa_cons pe_str pa_nil)))) pss_nil))), ?_⟩
    refine ⟨v1, rfl, v1, d1, rfl, h1, fun H1 s1 => ?_⟩
    have q1 := fun H' (s2 : Same H1 H') => q H' (s1.trans s2)
    cases e1 : netD d1 with
    | false =>
      rw [e1] at q1
      exact q1 H1 (Same.refl H1)
    | true =>
      rw [e1] at q1
      obtain ⟨a, rfl, hS, n1, n2⟩ := net_tup h1 e1
      refine ⟨v2, rfl, .ref a, rfl, a, _, rfl, .inr (same_seqT s1 hS), _, _, rfl, rfl, v2, d2, 0, _, rfl, h2.same s1, _, rfl, ?_⟩
      rw [List.length_map]
      cases e2 : withinD 0 ((nsD d1).length - 1 : Int) d2 with
      | false =>
        rw [e2] at q1
        exact ⟨by show 1 ≤ 1000; decide, fun b nb => raise_fd C.c C.no (by decide +kernel) (Same.refl H1) (fun H' s2 dx n e => q1 H' s2 dx (same_none s1 n) e) b nb⟩
      | true =>
        rw [e2] at q1
        refine ⟨v3, rfl, v3, d3, 0, 400, rfl, h3.same s1, _, rfl, ?_⟩
        cases e3 : withinD 0 400 d3 with
        | false =>
          rw [e3] at q1
          exact ⟨by show 1 ≤ 1000; decide, fun b nb => raise_fd C.c C.no (by decide +kernel) (Same.refl H1) (fun H' s2 dx n e => q1 H' s2 dx (same_none s1 n) e) b nb⟩
        | true =>
          rw [e3] at q1
          exact q1 H1 (Same.refl H1)
end
end K04

set_option maxHeartbeats 4000000
namespace K04
open PySem PySem.Spec PyProof.Rows L2
theorem iteT' {c : Bool} {A B : Prop} (e : c = true) (h : A) : if c = true then A else B := by rw [if_pos e]; exact h
theorem iteF' {c : Bool} {A B : Prop} (e : c = false) (h : B) : if c = true then A else B := by rw [if_neg (by rw [e]; decide)]; exact h
section
variable {P : Program} {w : World} {K : PySem.W.Frag} {mg : Str → Option Value} {base : Heap}
theorem fm_lt {a : Int} {n : Nat} (h : 0 < n) : ∃ j : Nat, a.fmod (n : Int) = (j : Int) ∧ j < n := by
  have h1 : 0 ≤ a.fmod (n : Int) := Int.fmod_nonneg_of_pos a (by omega)
  have h2 : a.fmod (n : Int) < n := Int.fmod_lt_of_pos a (by omega)
  obtain ⟨j, e⟩ := Int.eq_ofNat_of_zero_le h1
  exact ⟨j, e, by omega⟩
theorem at_int {ns : List Int} {j : Nat} (h : j < ns.length) : atI (ns.map V.int) (j : Int) = some (V.int (ns.getD j 0)) := by
  refine atI_nat ?_
  rw [List.getElem?_map, List.getD_eq_getElem?_getD, List.getElem?_eq_getElem h]
  rfl
theorem range_snoc {α : Type} (f : Nat → α) (i : Nat) : (List.range (i + 1)).map f = (List.range i).map f ++ [f i] := by
  rw [List.range_succ, List.map_append]
  rfl
theorem sc_around : FnScope ["line", "place", "rounds", "at"] ["line", "place", "rounds"] (defScope s_around_ring) := ⟨rfl, rfl, rfl, by decide +kernel, rfl, by decide +kernel, by decide +kernel⟩
theorem ok_around {f : Addr} {fd : FuncData} {k : Nat} (F : FnP K "around_ring" s_around_ring f fd) (T : Bl mg) : FnOk P w K mg base CX0 (k + 1) f fd ["line", "place", "rounds"] (spAround K) := by
  refine F.ok sc_around (fun vs H Q E h => ?_) (fun cdv A outer s H vs Q E hr h => ?_)
  · obtain ⟨a, ns, p, r, rfl, _⟩ := h
    rfl
  · obtain ⟨a, ns, p, r, rfl, hS, n0, n1, p0, p1, r0, r1, q⟩ := h
    refine ⟨_, PSs.nox <| pss_one (ps_ret (pe_callTy call_tuple_of (by rfl) T.tuple (by decide +kernel) (pa_cons
      (pe_lc (own := [("at", 3)]) (g := gName 3) (tt := tYes) rfl sc_around.nd (pi_range2 (by rfl) T.range (pa_cons (pe_op op_sub (pv 1) (pv 2)) (pa_cons (pe_op op_add (pe_op op_add (pv 1) (pv 2)) pe_int) pa_nil)) (by rfl) (by rfl)) (blkOk_by (N := ["line", "place", "rounds", "at"]) (sc := defScope s_around_ring) (by decide +kernel)) (fun _ _ _ _ _ => pg_name (i := 3) sc_around.nd rfl (Or.inl rfl)) (fun _ _ _ _ _ => pts_nil)
        (fun _ _ _ _ _ => pe_ix (r := rIxT K) ix_tup (pv 0) (pe_op op_modN (pv 3) (pe_callB (r := rLenS K) call_lenK (by rfl) T.len PySem.boot_len (pa_cons (pv 0) pa_nil))) (fun _ _ => rfl))) pa_nil))), ?_⟩
    refine ⟨_, rfl, _, rfl, p, r, rfl, rfl, _, rfl, _, rfl, p, r, rfl, rfl, _, _, rfl, rfl, _, _, rfl, ⟨by omega, by omega, by omega, by omega⟩, fun D hD => ?_⟩
    have en : (p + r + 1 - (p - r)).toNat = (2 * r + 1).toNat := by congr 1; omega
    rw [en]
    refine lc_range (fun i H' => Same H H' ∧ H' D = some (.lst (((List.range i).map fun (i : Nat) => ns.getD ((p - r + (i : Int)).fmod ns.length).toNat 0).map V.int))) ⟨same_new hD, by rw [upd_same]; rfl⟩ ?_ ?_
    · rintro i H' hi ⟨sm, hL⟩
      obtain ⟨j, ej, hj⟩ := fm_lt (a := p - r + (i : Int)) n0
      refine ⟨rfl, ?_⟩
      dsimp only [tYes]
      rw [if_pos rfl]
      refine ⟨_, rfl, _, rfl, _, rfl, a, _, rfl, .inr (same_seqT sm hS), _, _, rfl, rfl, by rw [List.length_map]; omega, a, _, _, V.int (ns.getD ((p - r + (i : Int)).fmod ns.length).toNat 0), rfl, rfl, same_seqT sm hS, ?_, _, hL, ?_, fun b o e => ?_, ?_⟩
      · rw [List.length_map, ej]
        exact at_int hj
      · rw [List.length_map, List.length_map, List.length_range, sizeLine_eq]
        omega
      · rw [upd_ne (ne_of_none e hD)]
        exact sm b o e
      · rw [upd_same, range_snoc, List.map_append]
        rfl
    · rintro H1 ⟨sm, hL⟩
      refine ⟨D, _, rfl, .inl ⟨SqL.of hL, fun l hl => ?_⟩⟩
      exact q _ l (sm.trans (same_new hl)) (same_none sm hl) upd_same
theorem sc_ring_window : FnScope ["net", "place", "rounds"] ["net", "place", "rounds"] (defScope s_ring_window) := ⟨rfl, rfl, rfl, by decide +kernel, rfl, by decide +kernel, by decide +kernel⟩
theorem ok_ring_window {f fC fA : Addr} {fd fdC fdA : FuncData} {k : Nat} (F : FnP K "ring_window" s_ring_window f fd) (GC : FnOk P w K mg base (L2.CX P w) k fC fdC ["net", "place", "rounds"] (spCheckWin K)) (gC : mg "_check_window" = some (.ref fC)) (kC : PySem.W.keepIn K (.ref fC) = true) (bC : Binds K fdC ["net", "place", "rounds"] [])
    (GA : FnOk P w K mg base CX0 k fA fdA ["line", "place", "rounds"] (spAround K)) (gA : mg "around_ring" = some (.ref fA)) (kA : PySem.W.keepIn K (.ref fA) = true) (bA : Binds K fdA ["line", "place", "rounds"] []) : FnOk P w K mg base (L2.CX P w) (k + 1) f fd ["net", "place", "rounds"] (spWindow K ringL) := by
  refine F.ok sc_ring_window (fun vs H Q E h => ?_) (fun cdv A outer s H vs Q E hr h => ?_)
  · obtain ⟨v1, v2, v3, d1, d2, d3, rfl, _⟩ := h
    rfl
  · obtain ⟨v1, v2, v3, d1, d2, d3, rfl, h1, h2, h3, q⟩ := h
    refine ⟨_, pss_cons (ps_expr (pe_call GC hr rfl gC kC bC .nil (passes_call (takes_of rfl rfl rfl rfl) (fun _ _ _ _ h => h)) (pa_cons (pv 0) (pa_cons (pv 1) (pa_cons (pv 2) pa_nil)))))
      (pss_one (ps_ret (pe_call GA hr rfl gA kA bA .nil pass0 (pa_cons (pv 0) (pa_cons (pv 1) (pa_cons (pv 2) pa_nil)))))), ?_⟩
    refine ⟨v1, rfl, v2, rfl, v3, rfl, v1, v2, v3, d1, d2, d3, rfl, h1, h2, h3, fun H1 s1 => ?_⟩
    have q1 := q H1 s1
    cases e1 : netD d1 with
    | false =>
      rw [e1] at q1
      exact q1
    | true =>
      rw [e1] at q1
      obtain ⟨a, rfl, hS, n1, n2⟩ := net_tup h1 e1
      cases e2 : withinD 0 ((nsD d1).length - 1 : Int) d2 with
      | false =>
        rw [e2] at q1
        exact q1
      | true =>
        rw [e2] at q1
        cases e3 : withinD 0 400 d3 with
        | false =>
          rw [e3] at q1
          exact q1
        | true =>
          have q2 := fun H' (s : Same H H') => q H' s
          rw [e1, e2, e3] at q2
          obtain ⟨i2, rfl, l2, u2⟩ := within_int e2
          obtain ⟨i3, rfl, l3, u3⟩ := within_int e3
          cases h2
          cases h3
          exact ⟨_, rfl, _, rfl, _, rfl, a, nsD d1, i2, i3, rfl, same_seqT s1 hS, n1, n2, l2, by omega, l3, u3, fun H' t s2 hn ht => q2 H' (s1.trans s2) t (same_none s1 hn) ht⟩
theorem sc_path_window : FnScope ["net", "place", "rounds", "size", "at"] ["net", "place", "rounds"] (defScope s_path_window) := ⟨rfl, rfl, rfl, by decide +kernel, rfl, by decide +kernel, by decide +kernel⟩
theorem ok_path_window {f fC : Addr} {fd fdC : FuncData} {k : Nat} (F : FnP K "path_window" s_path_window f fd) (T : Bl mg) (GC : FnOk P w K mg base (L2.CX P w) k fC fdC ["net", "place", "rounds"] (spCheckWin K)) (gC : mg "_check_window" = some (.ref fC)) (kC : PySem.W.keepIn K (.ref fC) = true) (bC : Binds K fdC ["net", "place", "rounds"] []) :
    FnOk P w K mg base (L2.CX P w) (k + 1) f fd ["net", "place", "rounds"] (spWindow K pathL) := by
  refine F.ok sc_path_window (fun vs H Q E h => ?_) (fun cdv A outer s H vs Q E hr h => ?_)
  · obtain ⟨v1, v2, v3, d1, d2, d3, rfl, _⟩ := h
    rfl
  · obtain ⟨v1, v2, v3, d1, d2, d3, rfl, h1, h2, h3, q⟩ := h
    refine ⟨_, pss_cons (ps_expr (pe_call GC hr rfl gC kC bC .nil (passes_call (takes_of rfl rfl rfl rfl) (fun _ _ _ _ h => h)) (pa_cons (pv 0) (pa_cons (pv 1) (pa_cons (pv 2) pa_nil)))))
      (pss_cons (ps_set (i := 3) sc_path_window.nd rfl (Or.inr rfl) (pe_callB call_len_seq (by rfl) T.len PySem.boot_len (pa_cons (pv 0) pa_nil)))
      (pss_one (ps_ret (pe_callTy call_tuple_of (by rfl) T.tuple (by decide +kernel) (pa_cons
      (pe_lc (own := [("at", 4)]) (g := gName 4) (tt := tYes) rfl sc_path_window.nd (pi_range2 (by rfl) T.range (pa_cons (pe_op op_sub (pv 1) (pv 2)) (pa_cons (pe_op op_add (pe_op op_add (pv 1) (pv 2)) pe_int) pa_nil)) (by rfl) (by rfl)) (blkOk_by (N := ["net", "place", "rounds", "size", "at"]) (sc := defScope s_path_window) (by decide +kernel)) (fun _ _ _ _ _ => pg_name (i := 4) sc_path_window.nd rfl (Or.inl rfl)) (fun _ _ _ _ _ => pts_nil)
        (fun _ _ _ _ _ => pe_ifExp (pt_chain op_le op_lt pe_int (pv 4) (pv 3)) (pe_ix (r := rIxT K) ix_tup (pv 0) (pv 4) (fun _ _ => rfl)) pe_int)) pa_nil))))), ?_⟩
    refine ⟨v1, rfl, v2, rfl, v3, rfl, v1, v2, v3, d1, d2, d3, rfl, h1, h2, h3, fun H1 s1 => ?_⟩
    have q1 := q H1 s1
    cases e1 : netD d1 with
    | false =>
      rw [e1] at q1
      exact q1
    | true =>
      rw [e1] at q1
      obtain ⟨a, rfl, hS, n1, n2⟩ := net_tup h1 e1
      cases e2 : withinD 0 ((nsD d1).length - 1 : Int) d2 with
      | false =>
        rw [e2] at q1
        exact q1
      | true =>
        rw [e2] at q1
        cases e3 : withinD 0 400 d3 with
        | false =>
          rw [e3] at q1
          exact q1
        | true =>
          have q2 := fun H' (s : Same H H') => q H' s
          rw [e1, e2, e3] at q2
          obtain ⟨p, rfl, l2, u2⟩ := within_int e2
          obtain ⟨r, rfl, l3, u3⟩ := within_int e3
          cases h2
          cases h3
          generalize nsD d1 = ns at hS n1 n2 q2 u2 ⊢
          refine ⟨_, rfl, a, _, rfl, .inr (same_seqT s1 hS), ?_⟩
          rw [List.length_map]
          refine ⟨_, rfl, _, rfl, p, r, rfl, rfl, _, rfl, _, rfl, p, r, rfl, rfl, _, _, rfl, rfl, _, _, rfl, ⟨by omega, by omega, by omega, by omega⟩, fun D hD => ?_⟩
          have en : (p + r + 1 - (p - r)).toNat = (2 * r + 1).toNat := by congr 1; omega
          rw [en]
          refine lc_range (fun i H' => Same H1 H' ∧ H' D = some (.lst (((List.range i).map fun (i : Nat) => if 0 ≤ p - r + (i : Int) ∧ p - r + (i : Int) < ns.length then ns.getD (p - r + (i : Int)).toNat 0 else 0).map V.int))) ⟨same_new hD, by rw [upd_same]; rfl⟩ ?_ ?_
          · rintro i H' hi ⟨sm, hL⟩
            refine ⟨rfl, ?_⟩
            dsimp only [tYes]
            rw [if_pos rfl]
            have done : ∀ z : Int, (z = if 0 ≤ p - r + (i : Int) ∧ p - r + (i : Int) < ns.length then ns.getD (p - r + (i : Int)).toNat 0 else 0) → ∃ acc, H' D = some (.lst acc) ∧ acc.length < sizeLine ∧
                Same H1 (upd H' D (.lst (acc ++ [V.int z]))) ∧ (upd H' D (.lst (acc ++ [V.int z]))) D = some (.lst (((List.range (i + 1)).map fun (i : Nat) => if 0 ≤ p - r + (i : Int) ∧ p - r + (i : Int) < ns.length then ns.getD (p - r + (i : Int)).toNat 0 else 0).map V.int)) := fun z ez => by
              refine ⟨_, hL, ?_, fun b o e => ?_, ?_⟩
              · rw [List.length_map, List.length_map, List.length_range, sizeLine_eq]
                omega
              · rw [upd_ne (ne_of_none e hD)]
                exact sm b o e
              · rw [upd_same, range_snoc, List.map_append, ez]
                rfl
            refine ⟨_, rfl, _, _, rfl, rfl, _, rfl, ?_⟩
            by_cases c1 : 0 ≤ p - r + (i : Int)
            · rw [if_pos (decide_eq_true c1)]
              refine ⟨_, rfl, _, _, rfl, rfl, _, rfl, ?_⟩
              by_cases c2 : p - r + (i : Int) < ns.length
              · refine iteT' (decide_eq_true c2) ?_
                obtain ⟨j, ej⟩ := Int.eq_ofNat_of_zero_le c1
                exact ⟨_, rfl, _, rfl, a, _, _, V.int (ns.getD (p - r + (i : Int)).toNat 0), rfl, rfl, same_seqT (s1.trans sm) hS, by rw [ej]; exact at_int (by omega), done _ (by rw [if_pos ⟨c1, c2⟩])⟩
              · exact iteF' (decide_eq_false c2) (done 0 (by rw [if_neg (fun z => c2 z.2)]))
            · rw [decide_eq_false c1]
              exact ⟨_, rfl, done 0 (by rw [if_neg (fun z => c1 z.1)])⟩
          · rintro H2 ⟨sm, hL⟩
            refine ⟨D, _, rfl, .inl ⟨SqL.of hL, fun l hl => ?_⟩⟩
            exact q2 _ (s1.trans (sm.trans (same_new hl))) l (same_none (s1.trans sm) hl) upd_same
end
end K04

set_option maxHeartbeats 4000000
namespace K04
open PySem PySem.Spec PyProof.Rows L2
/-- something kept beside the draw is changed -/
theorem DrawAt.put {B H : Hp} {d p : Addr} {o0 o : HO} (D : DrawAt B H d) (h : B p = some o0) : DrawAt (upd B p o) (upd H p o) d := by
  obtain ⟨s, n, l, c, r, t, ls, cs, h1, h2, h3, h4, h5, h6, h7⟩ := D
  have nd : d ≠ p := fun z => by rw [z, h] at n; cases n
  have nl : l ≠ p := fun z => by rw [z, h] at h3; cases h3
  have nc : c ≠ p := fun z => by rw [z, h] at h4; cases h4
  refine ⟨fun b x e => ?_, ?_, l, c, r, t, ls, cs, ?_, h2, ?_, ?_, ?_, ?_, h7⟩
  · by_cases e' : b = p
    · subst e'
      rw [upd_same] at e ⊢
      exact e
    · rw [upd_ne e'] at e ⊢
      exact s b x e
  · rw [upd_ne nd]; exact n
  · rw [upd_ne nd]; exact h1
  · rw [upd_ne nl]; exact h3
  · rw [upd_ne nc]; exact h4
  · rw [upd_ne nl]; exact h5
  · rw [upd_ne nc]; exact h6
theorem DrawAt.none {B H : Hp} {d p : Addr} (D : DrawAt B H d) (h : H p = none) : B p = none := same_none D.same h
/-- some name of 1 .. m is none of few -/
theorem some_free {ns : List Int} {m : Int} (h : (ns.length : Int) < m) : ∃ y : Int, 1 ≤ y ∧ y ≤ m ∧ y ∉ ns := by
  refine Classical.byContradiction fun hc => ?_
  have all : ∀ y : Int, 1 ≤ y → y ≤ m → y ∈ ns := fun y h1 h2 => Classical.byContradiction fun hn => hc ⟨y, h1, h2, hn⟩
  have nd : ((List.range m.toNat).map fun (i : Nat) => (i : Int) + 1).Nodup := by
    refine List.pairwise_map.mpr (List.nodup_range.imp fun {a b} h => ?_)
    intro z
    exact h (by omega)
  have z := nd_le _ ns nd fun k hk => by
    obtain ⟨i, hi, rfl⟩ := List.mem_map.mp hk
    have hi := List.mem_range.mp hi
    exact all _ (by omega) (by omega)
  rw [List.length_map, List.length_range] at z
  omega
theorem inV_ints {x : Int} : ∀ {ns : List Int}, inV (.int x) (ns.map V.int) = decide (x ∈ ns)
  | [] => rfl
  | n :: ns => by
    have ih : inV (.int x) (ns.map V.int) = decide (x ∈ ns) := inV_ints
    have e : inV (.int x) ((n :: ns).map V.int) = (eqV (.int n) (.int x) || inV (.int x) (ns.map V.int)) := rfl
    rw [e, ih]
    have e2 : eqV (.int n) (.int x) = decide (n = x) := by
      first | rfl | (unfold eqV; simp) 
    rw [e2]
    by_cases h : n = x
    · rw [decide_eq_true h]
      simp [h]
    · rw [decide_eq_false h]
      have h' : ¬ x = n := fun z => h z.symm
      simp [h']
theorem flat_ints {ns : List Int} : (ns.map V.int).all flatV = true := List.all_eq_true.mpr fun v hv => by
  obtain ⟨i, _, rfl⟩ := List.mem_map.mp hv
  rfl
def spLawNet : Sp := fun vs H Q _ => ∃ (d : Addr) (n : Nat) (m : Int) (B : Hp), vs = [.ref d, .int n, .int m] ∧ DrawAt B H d ∧ n ≤ 30 ∧ (n : Int) ≤ m ∧ 0 < m ∧ m < 1073741824 ∧
  ∀ H' t (ns : List Int), B t = none → DrawAt (upd B t (.tup (ns.map V.int))) H' d → ns.length = n → ns.Nodup → (∀ x ∈ ns, 1 ≤ x ∧ x ≤ m) → Q (.ref t) H'
section
variable {P : Program} {w : World} {K : PySem.W.Frag} {mg : Str → Option Value} {base : Heap}
abbrev N_net : List Str := ["draw", "size", "most", "found", "name_here"]
theorem sc_net : FnScope N_net ["draw", "size", "most"] (defScope s_law_net) := ⟨rfl, rfl, rfl, by decide +kernel, rfl, by decide +kernel, by decide +kernel⟩
/-- how far it is from x to y, going round below m -/
def far (m y x : Int) : Int := if x ≤ y then y - x else y - x + m
theorem ok_net {f fM : Addr} {fd fdM : FuncData} {k : Nat} (F : FnP K "_law_net" s_law_net f fd) (T : Bl mg) (GM : FnOk P w K mg base CX0 k fM fdM ["draw", "amount"] spTake) (gM : mg "_law_take" = some (.ref fM)) (kM : PySem.W.keepIn K (.ref fM) = true) (bM : Binds K fdM ["draw", "amount"] []) :
    FnOk P w K mg base CX0 (k + 1) f fd ["draw", "size", "most"] spLawNet := by
  refine F.ok sc_net (fun vs H Q E h => ?_) (fun cdv A outer s H vs Q E hr h => ?_)
  · obtain ⟨d, n, m, B, rfl, _⟩ := h
    rfl
  · obtain ⟨d, n, m, B, rfl, D, n30, nm, m0, m1, q⟩ := h
    refine ⟨_, PSs.nox <| pss_cons (ps_set (i := 3) sc_net.nd rfl (Or.inl rfl) (pe_lst pa_nil))
      (pss_cons (ps_while PassesOwn.never (pt_cmpR op_lt (pe_callB (r := rLenS K) call_lenK (by rfl) T.len PySem.boot_len (pa_cons (pv 3) pa_nil)) (pv 1) (nomark _))
        (pss_cons (ps_set (i := 4) sc_net.nd rfl (Or.inl rfl) (pe_op op_add pe_int (pe_call GM hr rfl gM kM bM .nil pass0 (pa_cons (pv 0) (pa_cons (pv 2) pa_nil)))))
        (pss_cons (ps_while PassesOwn.never (pt_cmpR op_in_seq (pv 4) (pv 3) (by rfl)) (pss_one (ps_set (i := 4) sc_net.nd rfl (Or.inl rfl) (pe_op op_add (pe_op op_modN (pv 4) (pv 2)) pe_int))))
        (pss_one (ps_expr (pe_bm PySem.F.plainAttrs_list PySem.F.slot_list_append PySem.F.type_list_append mt_append (pv 3) (pa_cons (pv 4) pa_nil)))))))
      (pss_one (ps_ret (pe_callTy call_tuple_of (by rfl) T.tuple (by decide +kernel) (pa_cons (pv 3) pa_nil))))), ?_⟩
    refine ⟨Nat.zero_le _, fun l hl => ?_⟩
    have D1 := D.keep (o := .lst []) hl
    have bl := D.none hl
    refine ⟨fun k σ H => ∃ (ns : List Int) (y : Option V), σ = [some (.ref d), some (.int n), some (.int m), some (.ref l), y] ∧ DrawAt (upd B l (.lst (ns.map V.int))) H d ∧ ns.length + k = n ∧ ns.Nodup ∧ ∀ x ∈ ns, 1 ≤ x ∧ x ≤ m,
      ⟨n, [], _, rfl, D1, by simp, List.nodup_nil, by simp⟩, ?_⟩
    rintro k σ H ⟨ns, y, rfl, D, hk, nd, hb⟩
    have hL : H l = some (.lst (ns.map V.int)) := D.same l _ upd_same
    refine ⟨.ref l, rfl, l, _, rfl, .inl (SqL.of hL), _, rfl, _, _, rfl, rfl, _, rfl, ?_⟩
    rw [List.length_map]
    by_cases hlt : ns.length < n
    · refine iteT' (decide_eq_true (show (ns.length : Int) < (n : Int) by omega)) ?_
      refine ⟨fun σ' H' => ∃ (ns' : List Int) (y : Option V), σ' = [some (.ref d), some (.int n), some (.int m), some (.ref l), y] ∧ DrawAt (upd B l (.lst (ns'.map V.int))) H' d ∧ ns'.length = ns.length + 1 ∧ ns'.Nodup ∧ ∀ x ∈ ns', 1 ≤ x ∧ x ≤ m,
        fun σ' H' ⟨ns', y, e, D, hl', nd, hb⟩ => ⟨n - ns'.length, by omega, ns', y, e, D, by omega, nd, hb⟩, ?_⟩
      refine ⟨.ref d, rfl, .int m, rfl, d, m, _, rfl, D, m0, m1, fun H1 r D1 r0 r1 => ⟨_, _, rfl, rfl, ?_⟩⟩
      have hL1 : H1 l = some (.lst (ns.map V.int)) := D1.same l _ upd_same
      obtain ⟨z, z1, z2, z3⟩ := some_free (ns := ns) (m := m) (by omega)
      refine ⟨fun j σ H => H = H1 ∧ ∃ x : Int, σ = [some (.ref d), some (.int n), some (.int m), some (.ref l), some (.int x)] ∧ 1 ≤ x ∧ x ≤ m ∧ far m z x = (j : Int), ⟨(far m z (1 + r)).toNat, rfl, 1 + r, rfl, by omega, by omega, ?_⟩, ?_⟩
      · unfold far
        split <;> omega
      rintro j σ H ⟨rfl, x, rfl, x1, x2, ej⟩
      refine ⟨_, rfl, _, rfl, l, _, rfl, .inl (SqL.of hL1), rfl, flat_ints, _, rfl, ?_⟩
      dsimp only [Bool.false_eq_true, if_false]
      rw [inV_ints]
      by_cases hx : x ∈ ns
      · refine iteT' (decide_eq_true hx) ?_
        refine ⟨fun σ' H' => H' = H ∧ ∃ x' : Int, σ' = [some (.ref d), some (.int n), some (.int m), some (.ref l), some (.int x')] ∧ 1 ≤ x' ∧ x' ≤ m ∧ far m z x' + 1 = (j : Int),
          fun σ' H' ⟨e1, x', e2, a, b, c⟩ => ⟨j - 1, by unfold far at c; split at c <;> omega, e1, x', e2, a, b, by unfold far at c ⊢; split at c <;> omega⟩, ?_⟩
        refine ⟨_, rfl, _, rfl, x, m, rfl, rfl, by omega, _, _, rfl, rfl, rfl, _, rfl, ?_⟩
        have ne : x ≠ z := fun e => z3 (e ▸ hx)
        by_cases hm : x < m
        · have e : x.fmod m = x := Int.fmod_eq_of_lt (by omega) hm
          rw [e]
          refine ⟨by omega, by omega, ?_⟩
          unfold far at ej ⊢
          split at ej <;> split <;> omega
        · have e : x = m := by omega
          have e2 : x.fmod m = 0 := by rw [e]; exact Int.fmod_self
          rw [e2]
          refine ⟨by omega, by omega, ?_⟩
          unfold far at ej ⊢
          split at ej <;> split <;> omega
      · refine iteF' (decide_eq_false hx) ?_
        refine ⟨_, rfl, .inl ⟨rfl, _, SqL.of hL1⟩, _, rfl, l, _, _, rfl, rfl, hL1, ?_, ?_⟩
        · rw [List.length_map, sizeLine_eq]
          omega
        · have e : (ns.map V.int) ++ [V.int x] = (ns ++ [x]).map V.int := by rw [List.map_append]; rfl
          rw [e]
          refine ⟨ns ++ [x], _, rfl, ?_, by rw [List.length_append]; rfl, ?_, fun y hy => ?_⟩
          · have D2 := DrawAt.put (o := .lst ((ns ++ [x]).map V.int)) D1 (p := l) upd_same
            rw [upd_upd] at D2
            exact D2
          · rw [List.nodup_append]
            exact ⟨nd, by simp, fun a ha b hb => by
              rw [List.mem_singleton.mp hb]
              intro z
              exact hx (z ▸ ha)⟩
          · rcases List.mem_append.mp hy with h | h
            · exact hb y h
            · rw [List.mem_singleton.mp h]
              exact ⟨x1, x2⟩
    · refine iteF' (decide_eq_false (show ¬ (ns.length : Int) < (n : Int) by omega)) ?_
      refine ⟨_, rfl, l, _, rfl, .inl ⟨SqL.of hL, fun t ht => ?_⟩⟩
      have bt := D.none ht
      have D2 := D.keep (o := .tup (ns.map V.int)) ht
      have nlt : l ≠ t := fun z => by rw [← z, upd_same] at bt; cases bt
      have bt' : B t = none := by rw [upd_ne (Ne.symm nlt)] at bt; exact bt
      refine q _ t ns bt' (D2.less fun b o e => ?_) (by omega) nd hb
      by_cases h1 : b = t
      · subst h1
        rw [upd_same] at e ⊢
        exact e
      · rw [upd_ne h1] at e ⊢
        rw [upd_ne (ne_of_none e bl)]
        exact e
end
end K04

set_option maxHeartbeats 4000000
namespace K04
open PySem PySem.Spec PyProof.Rows L2
def winL (b : Bool) : List Int → Int → Int → List Int := if b = true then pathL else ringL
/-- what stands at one spot -/
def spotL (b : Bool) (ns : List Int) (a : Int) : Int := if b = true then (if 0 ≤ a ∧ a < ns.length then ns.getD a.toNat 0 else 0) else ns.getD (a.fmod ns.length).toNat 0
theorem winL_eq (b : Bool) (ns : List Int) (p r : Int) : winL b ns p r = (List.range (2 * r + 1).toNat).map fun (i : Nat) => spotL b ns (p - r + (i : Int)) := by
  cases b <;> rfl
def spLawWin (K : PySem.W.Frag) : Sp := fun vs H Q _ => ∃ (a : Addr) (ns : List Int) (p r : Int) (b : Bool), vs = [.ref a, .int p, .int r, .bl b] ∧ SqT K H a (ns.map V.int) ∧ 0 < ns.length ∧ ns.length ≤ 400 ∧ 0 ≤ p ∧ p < 400 ∧ 0 ≤ r ∧ r ≤ 400 ∧
  ∀ H' t, Same H H' → H t = none → H' t = some (.tup ((winL b ns p r).map V.int)) → Q (.ref t) H'
section
variable {P : Program} {w : World} {K : PySem.W.Frag} {mg : Str → Option Value} {base : Heap}
abbrev N_win : List Str := ["net", "place", "rounds_here", "is_path", "found", "spot"]
theorem sc_win : FnScope N_win ["net", "place", "rounds_here", "is_path"] (defScope s_law_window) := ⟨rfl, rfl, rfl, by decide +kernel, rfl, by decide +kernel, by decide +kernel⟩
theorem ok_win {f : Addr} {fd : FuncData} {k : Nat} (F : FnP K "_law_window" s_law_window f fd) (T : Bl mg) : FnOk P w K mg base CX0 (k + 1) f fd ["net", "place", "rounds_here", "is_path"] (spLawWin K) := by
  refine F.ok sc_win (fun vs H Q E h => ?_) (fun cdv A outer s H vs Q E hr h => ?_)
  · obtain ⟨a, ns, p, r, b, rfl, _⟩ := h
    rfl
  · obtain ⟨a, ns, p, r, b, rfl, hS, n0, n1, p0, p1, r0, r1, q⟩ := h
    refine ⟨_, PSs.nox <| pss_cons (ps_set (i := 4) sc_win.nd rfl (Or.inl rfl) (pe_lst pa_nil))
      (pss_cons (ps_for PassesOwn.never rfl (pi_range2 (by rfl) T.range (pa_cons (pe_op op_sub (pv 1) (pv 2)) (pa_cons (pe_op op_add (pe_op op_add (pv 1) (pv 2)) pe_int) pa_nil)) (by rfl) (by rfl)) (pg_name (i := 5) sc_win.nd rfl (Or.inl rfl))
        (pss_one (ps_if (pt_val (pv 3))
          (pss_one (ps_expr (pe_bm PySem.F.plainAttrs_list PySem.F.slot_list_append PySem.F.type_list_append mt_append (pv 4) (pa_cons
            (pe_ifExp (PW.pt (pw_and (pt_cmpR op_ge (pv 5) pe_int (nomark _)) (pw_and1 (pt_cmpR op_lt (pv 5) (pe_callB (r := rLenS K) call_lenK (by rfl) T.len PySem.boot_len (pa_cons (pv 0) pa_nil)) (nomark _))))) (pe_ix (r := rIxT K) ix_tup (pv 0) (pv 5) (fun _ _ => rfl)) pe_int) pa_nil))))
          (pss_one (ps_expr (pe_bm PySem.F.plainAttrs_list PySem.F.slot_list_append PySem.F.type_list_append mt_append (pv 4) (pa_cons
            (pe_ix (r := rIxT K) ix_tup (pv 0) (pe_op op_modN (pv 5) (pe_callB (r := rLenS K) call_lenK (by rfl) T.len PySem.boot_len (pa_cons (pv 0) pa_nil))) (fun _ _ => rfl)) pa_nil)))))))
      (pss_one (ps_ret (pe_callTy call_tuple_of (by rfl) T.tuple (by decide +kernel) (pa_cons (pv 4) pa_nil))))), ?_⟩
    refine ⟨Nat.zero_le _, fun l hl => ?_⟩
    refine ⟨_, rfl, _, rfl, p, r, rfl, rfl, _, rfl, _, rfl, p, r, rfl, rfl, _, _, rfl, rfl, _, _, rfl, ⟨by omega, by omega, by omega, by omega⟩, ?_⟩
    have en : (p + r + 1 - (p - r)).toNat = (2 * r + 1).toNat := by congr 1; omega
    rw [en]
    refine for_range (fun i σ H' => ∃ y : Option V, σ = [some (.ref a), some (.int p), some (.int r), some (.bl b), some (.ref l), y] ∧ Same H H' ∧ H' l = some (.lst (((List.range i).map fun (i : Nat) => spotL b ns (p - r + (i : Int))).map V.int)))
      ⟨none, rfl, same_new hl, by rw [upd_same]; rfl⟩ ?_ ?_
    · rintro i σ H' hi ⟨y, rfl, sm, hL⟩
      have done : ∀ z : Int, z = spotL b ns (p - r + (i : Int)) → ∃ l0 xs y, (V.ref l : V) = .ref l0 ∧ [V.int z] = [y] ∧ H' l0 = some (.lst xs) ∧ xs.length < sizeLine ∧
          (fun σ H' => ∃ y : Option V, σ = [some (V.ref a), some (V.int p), some (V.int r), some (V.bl b), some (V.ref l), y] ∧ Same H H' ∧ H' l = some (.lst (((List.range (i + 1)).map fun (i : Nat) => spotL b ns (p - r + (i : Int))).map V.int)))
            [some (V.ref a), some (V.int p), some (V.int r), some (V.bl b), some (V.ref l), some (V.int (p - r + (i : Int)))] (upd H' l0 (.lst (xs ++ [y]))) := fun z ez => by
        refine ⟨l, _, _, rfl, rfl, hL, ?_, _, rfl, fun b o e => ?_, ?_⟩
        · rw [List.length_map, List.length_map, List.length_range, sizeLine_eq]
          omega
        · rw [upd_ne (ne_of_none e hl)]
          exact sm b o e
        · rw [upd_same, range_snoc, List.map_append, ez]
          rfl
      refine ⟨.bl b, rfl, b, rfl, ?_⟩
      cases b with
      | true =>
        refine iteT' rfl ?_
        refine ⟨_, rfl, .inl ⟨rfl, _, SqL.of hL⟩, ?_⟩
        refine ⟨_, rfl, _, 0, rfl, rfl, _, rfl, ?_⟩
        by_cases c1 : 0 ≤ p - r + (i : Int)
        · refine iteT' (decide_eq_true c1) ?_
          refine ⟨_, rfl, _, rfl, a, _, rfl, .inr (same_seqT sm hS), _, _, rfl, rfl, _, rfl, ?_⟩
          rw [List.length_map]
          by_cases c2 : p - r + (i : Int) < ns.length
          · refine iteT' (decide_eq_true c2) ?_
            obtain ⟨j, ej⟩ := Int.eq_ofNat_of_zero_le c1
            exact ⟨_, rfl, _, rfl, a, _, _, V.int (ns.getD (p - r + (i : Int)).toNat 0), rfl, rfl, same_seqT sm hS, by rw [ej]; exact at_int (by omega), done _ (by unfold spotL; rw [if_pos rfl, if_pos ⟨c1, c2⟩])⟩
          · exact iteF' (decide_eq_false c2) (done 0 (by unfold spotL; rw [if_pos rfl, if_neg (fun z => c2 z.2)]))
        · exact iteF' (decide_eq_false c1) (iteF' rfl (done 0 (by unfold spotL; rw [if_pos rfl, if_neg (fun z => c1 z.1)])))
      | false =>
        refine iteF' rfl ?_
        refine ⟨_, rfl, .inl ⟨rfl, _, SqL.of hL⟩, ?_⟩
        obtain ⟨j, ej, hj⟩ := fm_lt (a := p - r + (i : Int)) n0
        refine ⟨_, rfl, _, rfl, _, rfl, a, _, rfl, .inr (same_seqT sm hS), _, _, rfl, rfl, by rw [List.length_map]; omega, a, _, _, V.int (ns.getD ((p - r + (i : Int)).fmod ns.length).toNat 0), rfl, rfl, same_seqT sm hS, ?_, ?_⟩
        · rw [List.length_map, ej]
          exact at_int hj
        · exact done _ rfl
    · rintro σ H1 ⟨y, rfl, sm, hL⟩
      refine ⟨_, rfl, l, _, rfl, .inl ⟨SqL.of hL, fun t ht => ?_⟩⟩
      rw [← winL_eq] at hL ⊢
      exact q _ t (sm.trans (same_new ht)) (same_none sm ht) upd_same
end
end K04

set_option maxHeartbeats 4000000
namespace K04
open PySem PySem.Spec PyProof.Rows L2 LamX
/-- a lambda is made beside the draw: all that stands is kept from now on -/
theorem DrawAt.lam {B H H1 : Hp} {d f c' : Addr} {T : List (Addr × Str)} {o : HO} {q : Str} (D : DrawAt B H d) (e : ExtN H H1) (t : Tabs T H1) (n : H1 f = Option.none) (hc : H1 c' = some (CodeO c' q)) :
    ∃ B1, DrawAt B1 (upd H1 f o) d ∧ ExtN B B1 ∧ Tabs T B1 ∧ B1 f = some o ∧ B1 c' = some (CodeO c' q) := by
  obtain ⟨s, nB, l, c, r, tt, ls, cs, h1, h2, h3, h4, h5, h6, h7⟩ := D
  have e1 : H1 d = some (.dK (drawKV l c r tt)) := e _ _ h1 (fun _ z => by cases z)
  have e5 : H1 l = some (.lst (ls.map V.int)) := e _ _ h5 (fun _ z => by cases z)
  have e6 : H1 c = some (.lst (cs.map V.int)) := e _ _ h6 (fun _ z => by cases z)
  have fd : d ≠ f := ne_of_none e1 n
  have fl : l ≠ f := ne_of_none e5 n
  have fc : c ≠ f := ne_of_none e6 n
  let B1 : Hp := fun b => if b = d ∨ b = l ∨ b = c then Option.none else upd H1 f o b
  have hB : ∀ b, b ≠ d → b ≠ l → b ≠ c → B1 b = upd H1 f o b := fun b a1 a2 a3 => if_neg (by rintro (z | z | z) <;> contradiction)
  have hN : ∀ b, b = d ∨ b = l ∨ b = c → B1 b = Option.none := fun b z => if_pos z
  -- what is none of the draw's objects
  have oth : ∀ {b : Addr} {u : HO}, H1 b = some u → (∀ kvs, u ≠ .dK kvs) → (∀ xs, u ≠ .lst xs) → B1 b = some u := fun {b u} h a1 a2 => by
    rw [hB b (fun z => by rw [z, e1] at h; cases h; exact a1 _ rfl) (fun z => by rw [z, e5] at h; cases h; exact a2 _ rfl) (fun z => by rw [z, e6] at h; cases h; exact a2 _ rfl), upd_ne (ne_of_none h n)]
    exact h
  have hco : B1 c' = some (CodeO c' q) := oth hc (fun _ z => by unfold CodeO at z; cases z) (fun _ z => by unfold CodeO at z; cases z)
  refine ⟨B1, ⟨fun b x hb => ?_, hN d (.inl rfl), l, c, r, tt, ls, cs, ?_, h2, hN l (.inr (.inl rfl)), hN c (.inr (.inr rfl)), ?_, ?_, h7⟩, fun b u hb hu => ?_, fun p hp => ?_, ?_, hco⟩
  · by_cases z : b = d ∨ b = l ∨ b = c
    · rw [hN b z] at hb
      cases hb
    · rw [hB b (fun y => z (.inl y)) (fun y => z (.inr (.inl y))) (fun y => z (.inr (.inr y)))] at hb
      exact hb
  · rw [upd_ne fd]
    exact e1
  · rw [upd_ne fl]
    exact e5
  · rw [upd_ne fc]
    exact e6
  · have nd : b ≠ d := ne_of_none hb nB
    have nl : b ≠ l := ne_of_none hb h3
    have nc : b ≠ c := ne_of_none hb h4
    have h := e b u (s b u hb) hu
    rw [hB b nd nl nc, upd_ne (ne_of_none h n)]
    exact h
  · obtain ⟨ps, a1, a2, a3⟩ := t p hp
    refine ⟨ps, oth a1 (fun _ z => by cases z) (fun _ z => by cases z), a2, fun pos cv hcv => ?_⟩
    obtain ⟨c0, b1, b2⟩ := a3 pos cv hcv
    exact ⟨c0, b1, oth b2 (fun _ z => by unfold CodeO at z; cases z) (fun _ z => by unfold CodeO at z; cases z)⟩
  · rw [hB f (Ne.symm fd) (Ne.symm fl) (Ne.symm fc), upd_same]
theorem DrawAt.keepS {B H : Hp} {d p : Addr} {o : HO} (D : DrawAt B H d) (h : H p = Option.none) : DrawAt (upd B p o) (upd H p o) d ∧ Same B (upd B p o) := ⟨D.keep h, same_new (D.none h)⟩
theorem DrawAt.grow {B H H' : Hp} {d : Addr} (D : DrawAt B H d) (s : Same H H') : DrawAt B H' d := by
  obtain ⟨s0, nB, l, c, r, tt, ls, cs, h1, h2, h3, h4, h5, h6, h7⟩ := D
  exact ⟨s0.trans s, nB, l, c, r, tt, ls, cs, s _ _ h1, h2, h3, h4, s _ _ h5, s _ _ h6, h7⟩
/-! ### the law's def: its names, what holds while it runs -/
abbrev N_law : List Str := ["script", "draw", "turn", "size", "net", "bad", "work", "lap", "place", "rounds_here", "due", "caught", "great"]
theorem sc_law : FnScope N_law ["script"] (defScope s_law) := ⟨rfl, rfl, rfl, by decide +kernel, rfl, by decide +kernel, by decide +kernel⟩
structure Oth where
  sc : Option V
  tu : Option V
  ba : Option V
  wo : Option V
  la : Option V
  pl : Option V
  ro : Option V
  du : Option V
  ca : Option V
  gr : Option V
abbrev sg (d : Addr) (si ne : Option V) (o : Oth) : L2.St := [o.sc, some (.ref d), o.tu, si, ne, o.ba, o.wo, o.la, o.pl, o.ro, o.du, o.ca, o.gr]
/-- the draw, the tables -/
def J0 (T : List (Addr × Str)) : L2.St → Hp → Prop := fun σ H => ∃ (d : Addr) (si ne : Option V) (o : Oth) (B : Hp), σ = sg d si ne o ∧ DrawAt B H d ∧ Tabs T B
/-- a net of size houses -/
structure NetAt (B : Hp) (t : Addr) (ns : List Int) (n : Nat) : Prop where
  at_ : B t = some (.tup (ns.map V.int))
  len : ns.length = n
  pos : 0 < n
  le : n ≤ 30
  nd : ns.Nodup
  bd : ∀ x ∈ ns, 1 ≤ x ∧ x ≤ 1000000000
def J1 (T : List (Addr × Str)) : L2.St → Hp → Prop := fun σ H => ∃ (d t : Addr) (ns : List Int) (n : Nat) (o : Oth) (B : Hp), σ = sg d (some (.int n)) (some (.ref t)) o ∧ DrawAt B H d ∧ Tabs T B ∧ NetAt B t ns n
theorem J1.j0 {T : List (Addr × Str)} {σ : L2.St} {H : Hp} (h : J1 T σ H) : J0 T σ H := by
  obtain ⟨d, t, ns, n, o, B, rfl, D, tb, _⟩ := h
  exact ⟨d, _, _, o, B, rfl, D, tb⟩
theorem NetAt.extN {B B' : Hp} {t : Addr} {ns : List Int} {n : Nat} (h : NetAt B t ns n) (e : ExtN B B') : NetAt B' t ns n := ⟨e _ _ h.at_ (fun _ z => by cases z), h.len, h.pos, h.le, h.nd, h.bd⟩
theorem NetAt.seq {K : PySem.W.Frag} {B : Hp} {t : Addr} {ns : List Int} {n : Nat} (h : NetAt B t ns n) : SqT K B t (ns.map V.int) := .inl (.inl h.at_)
theorem NetAt.dq {K : PySem.W.Frag} {B : Hp} {t : Addr} {ns : List Int} {n : Nat} (h : NetAt B t ns n) : Dq K B (.ref t) (.tuple (ns.map PyData.int)) := .tup h.seq (dq_ints ns)
theorem NetAt.net {B : Hp} {t : Addr} {ns : List Int} {n : Nat} (h : NetAt B t ns n) : netD (.tuple (ns.map PyData.int)) = true := by
  show (decide (1 ≤ (ns.map PyData.int).length) && decide (((ns.map PyData.int).length : Int) ≤ 400) && (ns.map PyData.int).all (withinD 1 1000000000) && decide (intsD (ns.map PyData.int)).Nodup) = true
  have h1 := h.len
  have h2 := h.pos
  have h3 := h.le
  rw [List.length_map, ints_int, decide_eq_true (show 1 ≤ ns.length by omega), decide_eq_true (show (ns.length : Int) ≤ 400 by omega), decide_eq_true h.nd, Bool.and_true, Bool.and_true, Bool.true_and]
  refine List.all_eq_true.mpr fun d hd => ?_
  obtain ⟨i, hi, rfl⟩ := List.mem_map.mp hd
  have hb := h.bd i hi
  show (decide (1 ≤ i) && decide (i ≤ 1000000000)) = true
  rw [decide_eq_true hb.1, decide_eq_true hb.2]
  rfl
/-- the context of the law's def -/
abbrev XL (P : Program) (w : World) (K : PySem.W.Frag) (mg : Str → Option Value) (base : Heap) (f : Addr) (cdv : Value) (A : Around) (outer : List Env) (s : Shared) (H : Hp) (E : XK) : Cx := (cxOf CX0 P w K mg base N_law "law" (defScope s_law) f cdv A outer s H E).nox
/-- an own def, called -/
structure Own (P : Program) (w : World) (K : PySem.W.Frag) (mg : Str → Option Value) (base : Heap) (CX : CXT) (k : Nat) (x : Str) (ps : List Str) (sp : Sp) where
  f : Addr
  fd : FuncData
  g : mg x = some (.ref f)
  kp : PySem.W.keepIn K (.ref f) = true
  ok : FnOk P w K mg base CX k f fd ps sp
  b : Binds K fd ps []
def forBody : Stmt → List Stmt
  | .For _ _ b _ _ => b
  | _ => []
abbrev s_for : Stmt := (defBody s_law).getD 1 (.Pass ⟨0, 0, 0, 0⟩)
abbrev turnS (i : Nat) : Stmt := (forBody s_for).getD i (.Pass ⟨0, 0, 0, 0⟩)
end K04

set_option maxHeartbeats 4000000
namespace K04
open PySem PySem.Spec PyProof.Rows L2 LamX
section
variable {P : Program} {w : World} {K : PySem.W.Frag} {mg : Str → Option Value} {base : Heap} {f : Addr} {cdv : Value} {A : Around} {outer : List Env} {s : Shared} {H : Hp} {E : XK} {k : Nat} {Tb : List (Addr × Str)}
/-- the size has been drawn -/
def J05 (T : List (Addr × Str)) : L2.St → Hp → Prop := fun σ H => ∃ (d : Addr) (n : Nat) (ne : Option V) (o : Oth) (B : Hp), σ = sg d (some (.int n)) ne o ∧ DrawAt B H d ∧ Tabs T B ∧ 0 < n ∧ n ≤ 30
theorem blk0 (hr : Room k (XL P w K mg base f cdv A outer s H E).A) (TK : Own P w K mg base CX0 k "_law_take" ["draw", "amount"] spTake) : PS (XL P w K mg base f cdv A outer s H E) (turnS 0) (tTo (J0 Tb) (J05 Tb)) := by
  refine PS.imp (ps_set (i := 3) sc_law.nd rfl (Or.inr rfl) (pe_op op_add pe_int (pe_call TK.ok hr rfl TK.g TK.kp TK.b .nil pass0 (pa_cons (pv 1) (pa_cons pe_int pa_nil))))) ?_
  rintro D σ H0 ⟨⟨d, si, ne, o, B, rfl, D0, t0⟩, nx⟩
  refine ⟨_, rfl, d, 30, B, rfl, D0, by decide, by decide, fun H' r D1 r0 r1 => ⟨1, r, rfl, rfl, ?_⟩⟩
  obtain ⟨n, rfl⟩ := Int.eq_ofNat_of_zero_le r0
  have e : (1 : Int) + (n : Int) = ((n + 1 : Nat) : Int) := by omega
  show D.nx (sg d (some (.int (1 + (n : Int)))) ne o) H'
  rw [e]
  exact nx _ _ ⟨d, n + 1, ne, o, B, rfl, D1, t0, by omega, by omega⟩
theorem blk1 (hr : Room k (XL P w K mg base f cdv A outer s H E).A) (NT : Own P w K mg base CX0 k "_law_net" ["draw", "size", "most"] spLawNet) (PK : Own P w K mg base CX0 k "_law_pick" ["draw", "some"] (spPick K)) : PS (XL P w K mg base f cdv A outer s H E) (turnS 1) (tTo (J05 Tb) (J1 Tb)) := by
  refine PS.imp (ps_set (i := 4) sc_law.nd rfl (Or.inr rfl) (pe_call NT.ok hr rfl NT.g NT.kp NT.b .nil pass0 (pa_cons (pv 1) (pa_cons (pv 3) (pa_cons (pe_call PK.ok hr rfl PK.g PK.kp PK.b .nil pass0 (pa_cons (pv 1) (pa_cons (pe_lst (pa_cons (pv 3) (pa_cons pe_int (pa_cons (pe_op op_pow pe_int pe_int) pa_nil)))) pa_nil))) pa_nil))))) ?_
  rintro D σ H0 ⟨⟨d, n, ne, o, B, rfl, D0, t0, n0, n1⟩, nx⟩
  refine ⟨_, rfl, _, rfl, _, rfl, _, rfl, 10, 9, rfl, rfl, ⟨by decide, by decide, by decide⟩, by show 3 ≤ sizeLine; decide, fun p hp => ?_⟩
  obtain ⟨D1, s1⟩ := D0.keepS (o := .lst [.int n, .int 40, .int (10 ^ (9 : Int).toNat)]) hp
  refine ⟨d, p, _, _, rfl, D1, SqL.of upd_same, by show 0 < 3; decide, by show 3 < 1073741824; decide, fun H1 i x D2 hx => ?_⟩
  have hm : ∃ m : Int, x = .int m ∧ (n : Int) ≤ m ∧ 0 < m ∧ m < 1073741824 ∧ m ≤ 1000000000 := by
    match i, hx with
    | 0, hx =>
      cases hx
      exact ⟨n, rfl, by omega, by omega, by omega, by omega⟩
    | 1, hx =>
      cases hx
      exact ⟨40, rfl, by omega, by omega, by omega, by omega⟩
    | 2, hx =>
      cases hx
      exact ⟨1000000000, rfl, by omega, by omega, by omega, by omega⟩
    | i + 3, hx => cases hx
  obtain ⟨m, rfl, m1, m2, m3, m4⟩ := hm
  refine ⟨d, n, m, B, rfl, D2.less s1, n1, m1, m2, m3, fun H2 t ns bt D3 hl nd hb => ?_⟩
  refine nx _ _ ⟨d, t, ns, n, o, _, rfl, D3, Tabs.ext t0 (same_new bt), upd_same, hl, n0, n1, nd, fun x hx => ?_⟩
  have := hb x hx
  omega
theorem pass_no {X : Cx} {P : Program} {w : World} : Passes (L2.CX P w) X (fun _ _ _ => False) := fun _ _ _ _ _ _ _ ⟨_, _, _, _, _, _, _, _, _, _, _, _, z⟩ => z.elim
theorem blk2 (hr : Room k (XL P w K mg base f cdv A outer s H E).A) (IS : Own P w K mg base CX0 k "is_net" ["thing"] (spIsNet K)) (kb : KBn K IS.fd ["thing"] 0 ["thing"] (fun _ ws => ws) (fun _ zs => zs)) : PS (XL P w K mg base f cdv A outer s H E) (turnS 2) (tKeep (J1 Tb)) := by
  refine PS.imp (ps_if (PW.pt (pw_or (pt_cmpR op_isnot_bl (pe_call IS.ok hr rfl IS.g IS.kp IS.b .nil pass0 (pa_cons (pv 4) pa_nil)) pe_bl (nomark _)) (pw_or1 (pt_cmpR op_isnot_bl (pe_callk0 IS.ok hr rfl IS.g IS.kp kb pass0 (pk_cons (pv 4) pk_nil)) pe_bl (nomark _)))))
    (pss_one (ps_ret pe_bl)) pss_nil) ?_
  rintro D σ H0 ⟨⟨d, t, ns, n, o, B, rfl, D0, t0, N⟩, nx⟩
  have hd : Dq K H0 (.ref t) (.tuple (ns.map PyData.int)) := N.dq.same D0.same
  refine ⟨_, rfl, _, _, rfl, hd, fun H1 s1 => ?_⟩
  rw [N.net]
  refine ⟨_, _, rfl, rfl, _, rfl, iteF' rfl ⟨_, rfl, rfl, _, _, rfl, hd.same s1, fun H2 s2 => ?_⟩⟩
  rw [N.net]
  exact ⟨_, _, rfl, rfl, _, rfl, iteF' rfl (nx _ _ ⟨d, t, ns, n, o, B, rfl, (D0.grow s1).grow s2, t0, N⟩)⟩
end
end K04

set_option maxHeartbeats 8000000
namespace K04
open PySem PySem.Spec PyProof.Rows L2 LamX
theorem getD_small {ns : List Int} (h : ∀ x ∈ ns, 1 ≤ x ∧ x ≤ 1000000000) (j : Nat) : (ns.getD j 0).natAbs < 10 ^ 12 := by
  rw [List.getD_eq_getElem?_getD]
  cases e : ns[j]? with
  | none =>
    show (0 : Int).natAbs < 10 ^ 12
    decide
  | some x =>
    have hx := h x (List.mem_of_getElem? e)
    show x.natAbs < 10 ^ 12
    have e2 : (10 : Nat) ^ 12 = 1000000000000 := by decide
    omega
theorem winL_data {ns : List Int} (h : ∀ x ∈ ns, 1 ≤ x ∧ x ≤ 1000000000) (b : Bool) {p r : Int} (r1 : r ≤ 400) : TupData (.tuple ((winL b ns p r).map PyData.int)) := by
  refine tup_data (fun x hx => ?_) ?_
  · rw [winL_eq] at hx
    obtain ⟨i, _, rfl⟩ := List.mem_map.mp hx
    unfold spotL
    split
    · split
      · exact getD_small h _
      · decide
    · exact getD_small h _
  · rw [winL_eq, List.length_map, List.length_range]
    omega
/-- a window of a net, a place and rounds that are right -/
theorem win_ok {K : PySem.W.Frag} {B H : Hp} {t : Addr} {ns : List Int} {n : Nat} {p r : Int} {ok : Hp → Prop} {E : XK} (N : NetAt B t ns n) (p0 : 0 ≤ p) (p1 : p < n) (r0 : 0 ≤ r) (r1 : r ≤ 400)
    (q : ∀ H', Same H H' → ok H') : winOut K H (.tuple (ns.map PyData.int)) (.int p) (.int r) ok E := by
  intro H' s
  have e1 : nsD (.tuple (ns.map PyData.int)) = ns := ints_int ns
  have hl := N.len
  rw [N.net, e1]
  have w1 : withinD 0 ((ns.length : Int) - 1) (.int p) = true := by
    show (decide (0 ≤ p) && decide (p ≤ (ns.length : Int) - 1)) = true
    rw [decide_eq_true p0, decide_eq_true (show p ≤ (ns.length : Int) - 1 by omega)]
    rfl
  have w2 : withinD 0 400 (.int r) = true := by
    show (decide (0 ≤ r) && decide (r ≤ 400)) = true
    rw [decide_eq_true r0, decide_eq_true r1]
    rfl
  rw [w1, w2]
  exact q H' s
theorem ne_self {α : Type} [DecidableEq α] (x : α) : (!decide (x = x)) = false := by simp
section
variable {P : Program} {w : World} {K : PySem.W.Frag} {mg : Str → Option Value} {base : Heap} {f : Addr} {cdv : Value} {A : Around} {outer : List Env} {s : Shared} {H : Hp} {E : XK} {k : Nat} {Tb : List (Addr × Str)}
/-- one window, told and asked by name -/
theorem blk4 (T : Bl mg) (hS : SysIn K) (hr : Room k (XL P w K mg base f cdv A outer s H E).A) (hg : (XL P w K mg base f cdv A outer s H E).A.guards = some [])
    (TK : Own P w K mg base CX0 k "_law_take" ["draw", "amount"] spTake) (PK : Own P w K mg base CX0 k "_law_pick" ["draw", "some"] (spPick K)) (LW : Own P w K mg base CX0 k "_law_window" ["net", "place", "rounds_here", "is_path"] (spLawWin K))
    (RW : Own P w K mg base (L2.CX P w) k "ring_window" ["net", "place", "rounds"] (spWindow K ringL)) (kr : KBn K RW.fd ["net", "place", "rounds"] 0 ["rounds", "place", "net"] (fun _ ws => rev3 ws) (fun _ zs => rev3 zs))
    (PW : Own P w K mg base (L2.CX P w) k "path_window" ["net", "place", "rounds"] (spWindow K pathL)) (kp : KBn K PW.fd ["net", "place", "rounds"] 0 ["rounds", "place", "net"] (fun _ ws => rev3 ws) (fun _ zs => rev3 zs)) :
    PS (XL P w K mg base f cdv A outer s H E) (turnS 4) (tKeep (J1 Tb)) := by
  have hun : (XL P w K mg base f cdv A outer s H E).A.units + 64 < cLine := by have := hr.un; omega
  refine PS.imp (ps_for PassesOwn.never rfl (pi_range1 (by rfl) T.range (pa_cons pe_int pa_nil) (by rfl)) (pg_name (i := 7) sc_law.nd rfl (Or.inl rfl))
    (pss_cons (ps_par (i := 8) (j := 9) rfl sc_law.nd rfl rfl (by decide) rfl rfl (pa_cons (pe_call TK.ok hr rfl TK.g TK.kp TK.b .nil pass0 (pa_cons (pv 1) (pa_cons (pv 3) pa_nil)))
        (pa_cons (pe_call PK.ok hr rfl PK.g PK.kp PK.b .nil pass0 (pa_cons (pv 1) (pa_cons (pe_lst (pa_cons pe_int (pa_cons pe_int (pa_cons pe_int (pa_cons pe_int (pa_cons pe_int pa_nil)))))) pa_nil))) pa_nil)) (by rfl))
    (pss_cons (ps_set (i := 10) sc_law.nd rfl (Or.inl rfl) (pe_call LW.ok hr rfl LW.g LW.kp LW.b .nil pass0 (pa_cons (pv 4) (pa_cons (pv 8) (pa_cons (pv 9) (pa_cons pe_bl pa_nil))))))
    (pss_cons (ps_if (L2.PW.pt (pw_or (pt_cmpR op_ne (pe_callB (call_repr hS hg hun) (by rfl) T.repr boot_repr (pa_cons (pe_call RW.ok hr rfl RW.g RW.kp RW.b .nil pass_no (pa_cons (pv 4) (pa_cons (pv 8) (pa_cons (pv 9) pa_nil)))) pa_nil)) (pe_callB (call_repr hS hg hun) (by rfl) T.repr boot_repr (pa_cons (pv 10) pa_nil)) (nomark _))
        (pw_or1 (pt_cmpR (op_neD hun) (pe_callk0 RW.ok hr rfl RW.g RW.kp kr pass_no (pk_cons (pv 9) (pk_cons (pv 8) (pk_cons (pv 4) pk_nil)))) (pv 10) (nomark _))))) (pss_one (ps_ret pe_bl)) pss_nil)
    (pss_cons (ps_set (i := 10) sc_law.nd rfl (Or.inl rfl) (pe_call LW.ok hr rfl LW.g LW.kp LW.b .nil pass0 (pa_cons (pv 4) (pa_cons (pv 8) (pa_cons (pv 9) (pa_cons pe_bl pa_nil))))))
    (pss_one (ps_if (L2.PW.pt (pw_or (pt_cmpR op_ne (pe_callB (call_repr hS hg hun) (by rfl) T.repr boot_repr (pa_cons (pe_call PW.ok hr rfl PW.g PW.kp PW.b .nil pass_no (pa_cons (pv 4) (pa_cons (pv 8) (pa_cons (pv 9) pa_nil)))) pa_nil)) (pe_callB (call_repr hS hg hun) (by rfl) T.repr boot_repr (pa_cons (pv 10) pa_nil)) (nomark _))
        (pw_or1 (pt_cmpR (op_neD hun) (pe_callk0 PW.ok hr rfl PW.g PW.kp kp pass_no (pk_cons (pv 9) (pk_cons (pv 8) (pk_cons (pv 4) pk_nil)))) (pv 10) (nomark _))))) (pss_one (ps_ret pe_bl)) pss_nil))))))) ?_
  rintro D σ H0 ⟨j0, nx⟩
  refine ⟨3, rfl, by decide, by decide, for_range (fun _ => J1 Tb) j0 ?_ nx⟩
  rintro i σ H1 hi ⟨d, t, ns, n, o, B, rfl, D0, t0, N⟩
  have n1 := N.le
  have n0 := N.pos
  refine ⟨.ref d, rfl, .int n, rfl, d, n, B, rfl, D0, by omega, by omega, fun H2 p D1 p0 p1 => ⟨.ref d, rfl, by show 5 ≤ sizeLine; decide, fun l hl => ?_⟩⟩
  obtain ⟨D2, s2⟩ := D1.keepS (o := .lst [.int 0, .int 1, .int 2, .int 3, .int 40]) hl
  refine ⟨d, l, _, _, rfl, D2, SqL.of upd_same, by show 0 < 5; decide, by show 5 < 1073741824; decide, fun H3 j x D3 hx => ?_⟩
  have hm : ∃ r : Int, x = .int r ∧ 0 ≤ r ∧ r ≤ 400 := by
    match j, hx with
    | 0, hx => cases hx; exact ⟨0, rfl, by decide, by decide⟩
    | 1, hx => cases hx; exact ⟨1, rfl, by decide, by decide⟩
    | 2, hx => cases hx; exact ⟨2, rfl, by decide, by decide⟩
    | 3, hx => cases hx; exact ⟨3, rfl, by decide, by decide⟩
    | 4, hx => cases hx; exact ⟨40, rfl, by decide, by decide⟩
    | j + 5, hx => cases hx
  obtain ⟨r, rfl, r0, r1⟩ := hm
  have D3 := D3.less s2
  refine ⟨_, _, rfl, ?_⟩
  -- the ring
  refine ⟨_, rfl, _, rfl, _, rfl, t, ns, p, r, false, rfl, same_seqT D3.same N.seq, by have := N.len; omega, by have := N.len; omega, p0, by omega, r0, r1, fun H4 a s4 na ha => ?_⟩
  have D4 := D3.grow s4
  have dq4 : ∀ H', Same H4 H' → Dq K H' (.ref t) (.tuple (ns.map PyData.int)) := fun H' s => N.dq.same (D4.grow s).same
  have wd : TupData (.tuple ((winL false ns p r).map PyData.int)) := winL_data N.bd false r1
  refine ⟨_, rfl, _, rfl, _, rfl, _, _, _, _, _, _, rfl, dq4 H4 (Same.refl H4), .int p, .int r, win_ok (t := t) ⟨D4.same _ _ N.at_, N.len, N.pos, N.le, N.nd, N.bd⟩ p0 p1 r0 r1 fun H5 s5 a5 na5 ha5 => ?_⟩
  rw [show nsD (.tuple (ns.map PyData.int)) = ns from ints_int ns] at ha5
  refine ⟨a5, _, rfl, .tup (.inl (.inl ha5)) (dq_ints _), wd.sh, wd.dp, wd.ln, ?_⟩
  refine ⟨_, rfl, a, _, rfl, .tup (.inl (.inl (s5 _ _ ha))) (dq_ints _), wd.sh, wd.dp, wd.ln, rfl, _, rfl, iteF' (ne_self _) ?_⟩
  refine ⟨_, rfl, _, rfl, _, rfl, rfl, _, _, _, _, _, _, rfl, dq4 H5 s5, .int p, .int r, win_ok (t := t) ⟨s5 _ _ (D4.same _ _ N.at_), N.len, N.pos, N.le, N.nd, N.bd⟩ p0 p1 r0 r1 fun H6 s6 a6 na6 ha6 => ?_⟩
  rw [show nsD (.tuple (ns.map PyData.int)) = ns from ints_int ns] at ha6
  refine ⟨_, rfl, _, _, .tup (.inl (.inl ha6)) (dpAll_ints _), .tup (.inl (.inl ((s5.trans s6) _ _ ha))) (dpAll_ints _), wd.shp, wd.shp, _, rfl, iteF' (congrArg Bool.not wd.eq) ?_⟩
  replace D3 := (D4.grow s5).grow s6
  clear D4 dq4 wd
  -- the path
  refine ⟨_, rfl, _, rfl, _, rfl, t, ns, p, r, true, rfl, same_seqT D3.same N.seq, by have := N.len; omega, by have := N.len; omega, p0, by omega, r0, r1, fun H4 a s4 na ha => ?_⟩
  have D4 := D3.grow s4
  have dq4 : ∀ H', Same H4 H' → Dq K H' (.ref t) (.tuple (ns.map PyData.int)) := fun H' s => N.dq.same (D4.grow s).same
  have wd : TupData (.tuple ((winL true ns p r).map PyData.int)) := winL_data N.bd true r1
  refine ⟨_, rfl, _, rfl, _, rfl, _, _, _, _, _, _, rfl, dq4 H4 (Same.refl H4), .int p, .int r, win_ok (t := t) ⟨D4.same _ _ N.at_, N.len, N.pos, N.le, N.nd, N.bd⟩ p0 p1 r0 r1 fun H5 s5 a5 na5 ha5 => ?_⟩
  rw [show nsD (.tuple (ns.map PyData.int)) = ns from ints_int ns] at ha5
  refine ⟨a5, _, rfl, .tup (.inl (.inl ha5)) (dq_ints _), wd.sh, wd.dp, wd.ln, ?_⟩
  refine ⟨_, rfl, a, _, rfl, .tup (.inl (.inl (s5 _ _ ha))) (dq_ints _), wd.sh, wd.dp, wd.ln, rfl, _, rfl, iteF' (ne_self _) ?_⟩
  refine ⟨_, rfl, _, rfl, _, rfl, rfl, _, _, _, _, _, _, rfl, dq4 H5 s5, .int p, .int r, win_ok (t := t) ⟨s5 _ _ (D4.same _ _ N.at_), N.len, N.pos, N.le, N.nd, N.bd⟩ p0 p1 r0 r1 fun H6 s6 a6 na6 ha6 => ?_⟩
  rw [show nsD (.tuple (ns.map PyData.int)) = ns from ints_int ns] at ha6
  refine ⟨_, rfl, _, _, .tup (.inl (.inl ha6)) (dpAll_ints _), .tup (.inl (.inl ((s5.trans s6) _ _ ha))) (dpAll_ints _), wd.shp, wd.shp, _, rfl, iteF' (congrArg Bool.not wd.eq) ?_⟩
  replace D3 := (D4.grow s5).grow s6
  clear D4 dq4 wd
  exact ⟨d, t, ns, n, { o with la := some (.int (0 + (i : Int))), pl := some (.int p), ro := some (.int r), du := some (.ref a) }, B, rfl, D3, t0, N⟩
end
end K04

set_option maxHeartbeats 8000000
namespace K04
open PySem PySem.Spec PyProof.Rows L2 LamX
theorem DrawAt.keepG {B H : Hp} {d p : Addr} (D : DrawAt B H d) (h : H p = Option.none) (o : HO) : ∃ B1, DrawAt B1 (upd H p o) d ∧ Same B B1 ∧ B1 p = some o := ⟨upd B p o, D.keep h, same_new (D.none h), upd_same⟩
def badD (ns : List Int) : List PyData := [.none, .int 5, .tuple [], .list (ns.map PyData.int), .tuple ((ns ++ ns.take 1).map PyData.int), .tuple [.int 0], .tuple [.int 1000000001], .tuple [.bool true], .tuple [.none], .tuple [.str "1"], .tuple ((ns ++ [-1]).map PyData.int), .str "1"]
theorem bad_no {ns : List Int} (h : 0 < ns.length) : ∀ d ∈ badD ns, netD d = false := by
  intro d hd
  unfold badD at hd
  simp only [List.mem_cons, List.not_mem_nil, or_false] at hd
  rcases hd with rfl | rfl | rfl | rfl | rfl | rfl | rfl | rfl | rfl | rfl | rfl | rfl
  · rfl
  · rfl
  · rfl
  · rfl
  · show (lineD 400 1 1000000000 (.tuple ((ns ++ ns.take 1).map PyData.int)) && decide (intsD ((ns ++ ns.take 1).map PyData.int)).Nodup) = false
    rw [ints_int]
    have e : decide (ns ++ ns.take 1).Nodup = false := by
      rw [decide_eq_false_iff_not]
      intro z
      rw [List.nodup_append] at z
      match ns, h, z with
      | x :: r, _, z => exact z.2.2 x List.mem_cons_self x (by simp) rfl
    rw [e, Bool.and_false]
  · rfl
  · rfl
  · rfl
  · rfl
  · rfl
  · show (decide (1 ≤ ((ns ++ [-1]).map PyData.int).length) && decide ((((ns ++ [-1]).map PyData.int).length : Int) ≤ 400) && ((ns ++ [-1]).map PyData.int).all (withinD 1 1000000000) && decide (intsD ((ns ++ [-1]).map PyData.int)).Nodup) = false
    have e : ((ns ++ [-1]).map PyData.int).all (withinD 1 1000000000) = false := by
      rw [List.map_append, List.all_append]
      have e2 : ([(-1 : Int)].map PyData.int).all (withinD 1 1000000000) = false := by decide
      rw [e2, Bool.and_false]
    rw [e, Bool.and_false, Bool.false_and]
  · rfl
def forIter : Stmt → Expr
  | .For _ it _ _ _ => it
  | _ => .Constant .none 0 ⟨0, 0, 0, 0⟩
section
variable {P : Program} {w : World} {K : PySem.W.Frag} {mg : Str → Option Value} {base : Heap} {f : Addr} {cdv : Value} {A : Around} {outer : List Env} {s : Shared} {H : Hp} {E : XK} {k : Nat} {Tb : List (Addr × Str)}
def tBads (K : PySem.W.Frag) : TE := fun σ H Q => ∃ (d t : Addr) (ns : List Int) (n : Nat) (o : Oth) (B : Hp), σ = sg d (some (.int n)) (some (.ref t)) o ∧ DrawAt B H d ∧ NetAt B t ns n ∧
  ∀ H' L B' vs, Same B B' → DrawAt B' H' d → B' L = some (.lst vs) → DqAll K B' vs (badD ns) → Q (.ref L) H'
theorem bads_ok (T : Bl mg) : PE (XL P w K mg base f cdv A outer s H E) (forIter (turnS 3)) (tBads K) := by
  refine PE.imp (pe_lst (pa_cons pe_non (pa_cons pe_int (pa_cons (pe_tup pa_nil) (pa_cons (pe_callTy call_list_of (by rfl) T.list boot_list (pa_cons (pv 4) pa_nil))
    (pa_cons (pe_op op_catT (pv 4) (PE.J (pe_slice sl_tupA (pv 4) po_none (po_some pe_int)))) (pa_cons (pe_tup (pa_cons pe_int pa_nil)) (pa_cons (pe_tup (pa_cons (pe_op op_add (pe_op op_pow pe_int pe_int) pe_int) pa_nil))
    (pa_cons (pe_tup (pa_cons pe_bl pa_nil)) (pa_cons (pe_tup (pa_cons pe_non pa_nil)) (pa_cons (pe_tup (pa_cons pe_str pa_nil)) (pa_cons (pe_op op_catT (pv 4) (pe_tup (pa_cons (pe_un un_neg pe_int) pa_nil))) (pa_cons pe_str pa_nil))))))))))))) ?_
  rintro σ H0 Q ⟨d, t, ns, n, o, B0, rfl, D0, N, q⟩
  have hlen := N.len
  have hpos := N.pos
  have hle := N.le
  refine ⟨Nat.zero_le _, fun p1 h1 => ?_⟩
  obtain ⟨B1, D1, s1, f1⟩ := D0.keepG h1 (.tup [])
  have N1 : B1 t = some (.tup (ns.map V.int)) := s1 _ _ N.at_
  refine ⟨.ref t, rfl, t, _, rfl, .inr (.inl (.inl (D1.same _ _ N1))), fun p2 h2 => ?_⟩
  obtain ⟨B2, D2, s2, f2⟩ := D1.keepG h2 (.lst (ns.map V.int))
  have N2 : B2 t = some (.tup (ns.map V.int)) := s2 _ _ N1
  refine ⟨.ref t, rfl, fun v H' => ∃ (a : Addr) (B3 : Hp), v = .ref a ∧ DrawAt B3 H' d ∧ Same B2 B3 ∧ B3 a = some (.tup ((ns.take 1).map V.int)), ⟨.ref t, rfl, ?_⟩, ?_⟩
  · refine ⟨1, rfl, t, _, rfl, .inl (.inl (D2.same _ _ N2)), fun hw => ?_, fun hw p3 h3 => ?_⟩
    · have hw2 := hw.2
      rw [List.length_map] at hw2
      have e2 : HT.sIx ns.length ns.length (some 1) = min 1 ns.length := HT.sIx_nat _ _ 1
      rw [e2] at hw2
      have e : ns.take 1 = ns := List.take_of_length_le (by omega)
      exact ⟨t, B2, rfl, D2, Same.refl B2, by rw [e]; exact N2⟩
    · obtain ⟨B3, D3, s3, f3⟩ := D2.keepG h3 (.tup (cutV (ns.map V.int) Option.none (some 1)))
      have e : cutV (ns.map V.int) Option.none (some 1) = (ns.take 1).map V.int := by
        unfold cutV
        have e2 : HT.sIx (ns.map V.int).length (ns.map V.int).length (some 1) = min 1 (ns.map V.int).length := HT.sIx_nat _ _ 1
        have e3 : HT.sIx (ns.map V.int).length 0 Option.none = 0 := rfl
        rw [e2, e3, List.length_map, List.drop_zero, List.map_take]
        have e4 : min 1 ns.length - 0 = 1 := by omega
        rw [e4]
      exact ⟨p3, B3, rfl, D3, s3, by rw [f3, e]⟩
  rintro v H3 ⟨a3, B3, rfl, D3, s3, f3⟩
  have N3 : B3 t = some (.tup (ns.map V.int)) := s3 _ _ N2
  refine ⟨t, a3, _, _, rfl, rfl, .inl (.inl (D3.same _ _ N3)), .inl (.inl (D3.same _ _ f3)), ?_, ?_, ?_, fun _ p4 h4 => ?_⟩
  · intro z
    have z2 := congrArg List.length z
    rw [List.length_map] at z2
    have z3 : ns.length = 0 := z2
    omega
  · rw [List.length_map, List.length_map, List.length_take, sizeLine_eq]
    omega
  · intro z
    have z2 := congrArg List.length z
    rw [List.length_map, List.length_take] at z2
    have z3 : min 1 ns.length = 0 := z2
    omega
  obtain ⟨B4, D4, s4, f4⟩ := D3.keepG h4 (.tup (ns.map V.int ++ (ns.take 1).map V.int))
  refine ⟨by show 1 ≤ sizeLine; decide, fun p5 h5 => ?_⟩
  obtain ⟨B5, D5, s5, f5⟩ := D4.keepG h5 (.tup [.int 0])
  refine ⟨_, _, rfl, rfl, ⟨by decide, by decide, by decide⟩, _, _, rfl, rfl, by show 1 ≤ sizeLine; decide, fun p6 h6 => ?_⟩
  obtain ⟨B6, D6, s6, f6⟩ := D5.keepG h6 (.tup [.int 1000000001])
  refine ⟨by show 1 ≤ sizeLine; decide, fun p7 h7 => ?_⟩
  obtain ⟨B7, D7, s7, f7⟩ := D6.keepG h7 (.tup [.bl true])
  refine ⟨by show 1 ≤ sizeLine; decide, fun p8 h8 => ?_⟩
  obtain ⟨B8, D8, s8, f8⟩ := D7.keepG h8 (.tup [.non])
  refine ⟨by show 1 ≤ sizeLine; decide, fun p9 h9 => ?_⟩
  obtain ⟨B9, D9, s9, f9⟩ := D8.keepG h9 (.tup [.str "1"])
  have t9 : Same B3 B9 := (((((s4.trans s5).trans s6).trans s7).trans s8).trans s9)
  refine ⟨.ref t, rfl, 1, rfl, by show 1 ≤ sizeLine; decide, fun p10 h10 => ?_⟩
  obtain ⟨B10, D10, s10, f10⟩ := D9.keepG h10 (.tup [.int (-1)])
  have N10 : B10 t = some (.tup (ns.map V.int)) := s10 _ _ (t9 _ _ N3)
  refine ⟨t, p10, _, _, rfl, rfl, .inl (.inl (D10.same _ _ N10)), .inl (.inl (D10.same _ _ f10)), ?_, ?_, fun z => absurd z (List.cons_ne_nil _ _), fun _ p11 h11 => ?_⟩
  · intro z
    have z2 := congrArg List.length z
    rw [List.length_map] at z2
    have z3 : ns.length = 0 := z2
    omega
  · rw [List.length_map, sizeLine_eq]
    show ns.length + 1 ≤ 16777216
    omega
  obtain ⟨B11, D11, s11, f11⟩ := D10.keepG h11 (.tup (ns.map V.int ++ [.int (-1)]))
  refine ⟨by show 12 ≤ sizeLine; decide, fun L hL => ?_⟩
  obtain ⟨B12, D12, s12, f12⟩ := D11.keepG hL (.lst [.non, .int 5, .ref p1, .ref p2, .ref p4, .ref p5, .ref p6, .ref p7, .ref p8, .ref p9, .ref p11, .str "1"])
  have e11 := s12
  have e10 := s11.trans e11
  have e9 := s10.trans e10
  have e8 := s9.trans e9
  have e7 := s8.trans e8
  have e6 := s7.trans e7
  have e5 := s6.trans e6
  have e4 := s5.trans e5
  have e3 := s4.trans e4
  have e2 := s3.trans e3
  have e1 := s2.trans e2
  have e0 := s1.trans e1
  refine q _ L B12 _ e0 D12 f12 ?_
  have tupI : ∀ {B' : Hp} {p : Addr} {ls : List Int}, B' p = some (.tup (ls.map V.int)) → Dq K B' (.ref p) (.tuple (ls.map PyData.int)) := fun h => .tup (.inl (.inl h)) (dq_ints _)
  refine .cons .non (.cons (.int 5) (.cons (.tup (.inl (.inl (e1 _ _ f1))) .nil) (.cons (.lst (.inl (.inl (e2 _ _ f2))) (dq_ints ns)) (.cons (tupI ?_) (.cons (.tup (.inl (.inl (e5 _ _ f5))) (.cons (.int 0) .nil))
    (.cons (.tup (.inl (.inl (e6 _ _ f6))) (.cons (.int _) .nil)) (.cons (.tup (.inl (.inl (e7 _ _ f7))) (.cons (.bl true) .nil)) (.cons (.tup (.inl (.inl (e8 _ _ f8))) (.cons .non .nil)) (.cons (.tup (.inl (.inl (e9 _ _ f9))) (.cons (.str "1") .nil))
    (.cons (tupI ?_) (.cons (.str "1") .nil)))))))))))
  · rw [List.map_append]
    exact e4 _ _ f4
  · rw [List.map_append]
    exact e11 _ _ f11
end
end K04

set_option maxHeartbeats 8000000
namespace K04
open PySem PySem.Spec PyProof.Rows L2 LamX
def listElts : Expr → List Expr
  | .List es _ => es
  | _ => []
def lamArgs : Expr → Arguments
  | .Lambda a _ _ _ => a
  | _ => { posonlyargs := [], args := [], vararg := none, kwonlyargs := [], kw_defaults := [], kwarg := none, defaults := [] }
def lamBody : Expr → Expr
  | .Lambda _ b _ _ => b
  | e => e
def lamScope : Expr → Scope
  | .Lambda _ _ s _ => s
  | _ => { kind := .function, names := [], isGenerator := false, isCoroutine := false, more := [] }
abbrev s_for3 : Stmt := (forBody (turnS 3)).getD 1 (.Pass ⟨0, 0, 0, 0⟩)
abbrev e_lam3 (i : Nat) : Expr := (listElts (forIter s_for3)).getD i (.Constant .none 0 ⟨0, 0, 0, 0⟩)
def k3 (K : PySem.W.Frag) (b : Bool) : LamK := ⟨lamArgs (e_lam3 b.toNat), lamBody (e_lam3 b.toNat), lamScope (e_lam3 b.toNat), fun E => tCall (spWindow K (winL b)) [] E (tCons (tVar 5) (tCons (tC .non) (tCons (tC .non) tNil)))⟩
/-- the name that the law's lambdas bear -/
abbrev qLam : Str := (("law" : Str) ++ ".<locals>.") ++ "<lambda>"
/-- the lambda's table -/
def Lm (mg : Str → Option Value) (base : Heap) (cdv : Value) (Tb : List (Addr × Str)) : Prop := ∃ c P : Addr, cdv = .ref c ∧ TabB base mg c P ∧ Tb = [(P, qLam)]
section
variable {P : Program} {w : World} {K : PySem.W.Frag} {mg : Str → Option Value} {base : Heap} {f : Addr} {cdv : Value} {A : Around} {outer : List Env} {s : Shared} {H : Hp} {E : XK} {k : Nat} {Tb : List (Addr × Str)}
theorem good3 (RW : Own P w K mg base (L2.CX P w) k "ring_window" ["net", "place", "rounds"] (spWindow K ringL)) (PW : Own P w K mg base (L2.CX P w) k "path_window" ["net", "place", "rounds"] (spWindow K pathL)) (b : Bool) :
    LamGood (XL P w K mg base f cdv A outer s H E) k (k3 K b) := by
  cases b with
  | false =>
    refine ⟨lamS_by (show lamSB (defScope s_law) (lamScope (e_lam3 0)) = true by decide +kernel), fun _ _ _ _ _ => rfl, fun A outer s H E f c' hr _ => ?_⟩
    show PE _ (Expr.Call (Expr.Name _ _) (_ :: _ :: _ :: []) [] _) (tCall (spWindow K ringL) [] E (tCons (tVar 5) (tCons (tC .non) (tCons (tC .non) tNil))))
    exact pe_call RW.ok hr rfl RW.g RW.kp RW.b .nil pass_lam (pa_cons (pv 5) (pa_cons pe_non (pa_cons pe_non pa_nil)))
  | true =>
    refine ⟨lamS_by (show lamSB (defScope s_law) (lamScope (e_lam3 1)) = true by decide +kernel), fun _ _ _ _ _ => rfl, fun A outer s H E f c' hr _ => ?_⟩
    show PE _ (Expr.Call (Expr.Name _ _) (_ :: _ :: _ :: []) [] _) (tCall (spWindow K pathL) [] E (tCons (tVar 5) (tCons (tC .non) (tCons (tC .non) tNil))))
    exact pe_call PW.ok hr rfl PW.g PW.kp PW.b .nil pass_lam (pa_cons (pv 5) (pa_cons pe_non (pa_cons pe_non pa_nil)))
theorem sc_caught : FnScope ["work", "caught", "error"] ["work"] (defScope s_law_caught) := ⟨rfl, rfl, rfl, by decide +kernel, rfl, by decide +kernel, by decide +kernel⟩
theorem kit_self {K : PySem.W.Frag} {m : List Value} {C : Addr} (c : He.ErrC K m C) : PySem.W.kitOne K (.ref C) (.ref C) = some true := by
  rw [c.kit c]
  simp
theorem lam_none {T : List (Addr × Str)} {H H' : Hp} (t : Tabs T H) (s : Same H H') : Tabs T H' := t.ext s
theorem lamO_tbl {q : Str} {cl : List (Str × Addr)} {params : Arguments} {body : Expr} {scope : Scope} {f c' : Addr} : ∀ ps, lamO q cl params body scope f c' ≠ .tbl ps := fun _ z => by
  unfold lamO at z
  cases z
theorem blk3 (T : Bl mg) (C : PlC K mg "BadNet") (gR : mg "RoundError" = some (.ref (He.ga K "RoundError"))) (lm : Lm mg base cdv Tb) (hr : Room (k + 2) (XL P w K mg base f cdv A outer s H E).A) (IS : Own P w K mg base CX0 (k + 2) "is_net" ["thing"] (spIsNet K))
    (RW : Own P w K mg base (L2.CX P w) k "ring_window" ["net", "place", "rounds"] (spWindow K ringL)) (PW : Own P w K mg base (L2.CX P w) k "path_window" ["net", "place", "rounds"] (spWindow K pathL))
    {fC : Addr} {fdC : FuncData} (FC : FnP K "_law_caught" s_law_caught fC fdC) (gC : mg "_law_caught" = some (.ref fC)) (bC : Binds K fdC ["work"] []) : PS (XL P w K mg base f cdv A outer s H E) (turnS 3) (tKeep (J1 Tb)) := by
  obtain ⟨c, Pt, rfl, TB, rfl⟩ := lm
  have hT : (Pt, (XL P w K mg base f (.ref c) A outer s H E).env.qual ++ "<lambda>") ∈ [(Pt, qLam)] := List.mem_singleton.mpr rfl
  have hu : ∀ p ∈ [(Pt, qLam)], p.1 = Pt → p.2 = (XL P w K mg base f (.ref c) A outer s H E).env.qual ++ "<lambda>" := fun p hp _ => by rw [List.mem_singleton.mp hp]; rfl
  refine PS.imp (ps_for PassesOwn.never rfl (pi_list (bads_ok T)) (pg_name (i := 5) sc_law.nd rfl (Or.inr rfl))
    (pss_cons (ps_if (pt_cmpR op_isnot_bl (pe_call IS.ok hr rfl IS.g IS.kp IS.b .nil pass0 (pa_cons (pv 5) pa_nil)) pe_bl (nomark _)) (pss_one (ps_ret pe_bl)) pss_nil)
    (pss_one (ps_for PassesOwn.never rfl (pi_list (pe_lst (pa_cons (pe_lamV TB rfl hT hu (by rfl) (good3 (k := k) RW PW false).sc) (pa_cons (pe_lamV TB rfl hT hu (by rfl) (good3 (k := k) RW PW true).sc) pa_nil)))) (pg_name (i := 6) sc_law.nd rfl (Or.inr rfl))
      (pss_one (ps_if (pt_not (pt_val (pe_callB call_isC (by rfl) T.isi (by decide +kernel) (pa_cons (pe_caughtF (κ := k3 K) FC bC rfl sc_caught (Or.inl rfl) rfl rfl rfl gR (pv 6) (by rfl) gC hr (good3 RW PW)) (pa_cons (pe_glob (v := .ref _) (by rfl) C.g rfl) pa_nil)))))
        (pss_one (ps_ret pe_bl)) pss_nil)))))) ?_
  rintro D σ H0 ⟨⟨d, t, ns, n, o, B, rfl, D0, t0, N⟩, nx⟩
  refine ⟨d, t, ns, n, o, B, rfl, D0, N, fun H1 L B1 vs s1 D1 fL hd => ⟨L, rfl, ⟨_, SqL.of (D1.same _ _ fL)⟩, ?_⟩⟩
  have N1 : NetAt B1 t ns n := N.extN s1.extN
  refine for_list (K := K) (a := L) (xs := vs) (fun _ σ H => ∃ (o' : Oth) (B' : Hp), σ = sg d (some (.int n)) (some (.ref t)) o' ∧ DrawAt B' H d ∧ Tabs [(Pt, qLam)] B' ∧ ExtN B1 B')
    ⟨o, B1, rfl, D1, lam_none t0 s1, ExtN.refl B1⟩ (fun i σ H' _ ⟨o', B', _, D', _, e'⟩ => SqL.of (D'.same _ _ (e' _ _ fL (fun _ z => by cases z)))) ?_ ?_
  · rintro i x σ H2 hx ⟨o', B', rfl, D2, t2, e2⟩
    obtain ⟨dx, hdx, hqx⟩ := hd.at hx
    have hno := bad_no (ns := ns) (by have := N.len; have := N.pos; omega) dx (List.mem_of_getElem? hdx)
    have hxH : Dq K H2 x dx := (hqx.extN e2).same D2.same
    refine ⟨x, rfl, x, dx, rfl, hxH, fun H3 s3 => ?_⟩
    rw [hno]
    refine ⟨_, _, rfl, rfl, _, rfl, iteF' rfl ?_⟩
    have D3 := D2.grow s3
    refine ⟨lam_none t2 D3.same, fun f1 c1 H4 x1 tt1 n1 n1' k1 => ?_⟩
    obtain ⟨B4, D4, e4, t4, f4, g4⟩ := D3.lam (o := lamOf (XL P w K mg base f (.ref c) A outer s H E) (k3 K false) f1 c1) x1 tt1 n1 k1
    refine ⟨lam_none t4 D4.same, fun f2 c2 H5 x2 tt2 n2 n2' k2 => ?_⟩
    obtain ⟨B5, D5, e5, t5, f5, g5⟩ := D4.lam (o := lamOf (XL P w K mg base f (.ref c) A outer s H E) (k3 K true) f2 c2) x2 tt2 n2 k2
    refine ⟨by show 2 ≤ sizeLine; decide, fun Lw hLw => ?_⟩
    obtain ⟨B6, D6, s6, f6⟩ := D5.keepG hLw (.lst [.ref f1, .ref f2])
    have e16 : ExtN B1 B6 := ((e2.trans e4).trans e5).trans s6.extN
    have fam : ∀ (i : Nat) (y : V), [V.ref f1, V.ref f2][i]? = some y → ∃ (b : Bool) (fb cb : Addr), y = .ref fb ∧ B6 fb = some (lamOf (XL P w K mg base f (.ref c) A outer s H E) (k3 K b) fb cb) ∧ B6 cb = some (CodeO cb qLam) := fun i y hy => by
      match i, hy with
      | 0, hy =>
        cases hy
        exact ⟨false, f1, c1, rfl, s6 _ _ (e5 _ _ f4 lamO_tbl), s6 _ _ (e5 _ _ g4 codeO_ne)⟩
      | 1, hy =>
        cases hy
        exact ⟨true, f2, c2, rfl, s6 _ _ f5, s6 _ _ g5⟩
      | i + 2, hy => cases hy
    refine ⟨Lw, rfl, ⟨_, SqL.of (D6.same _ _ f6)⟩, for_list (K := K) (a := Lw) (xs := [.ref f1, .ref f2]) (fun _ σ H => ∃ (o'' : Oth) (B'' : Hp), σ = sg d (some (.int n)) (some (.ref t)) o'' ∧ o''.ba = some x ∧ DrawAt B'' H d ∧ Tabs [(Pt, qLam)] B'' ∧ ExtN B6 B'')
      ⟨{ o' with ba := some x }, B6, rfl, rfl, D6, lam_none t5 s6, ExtN.refl B6⟩ (fun i σ H' _ ⟨o'', B'', _, _, D', _, e'⟩ => SqL.of (D'.same _ _ (e' _ _ f6 (fun _ z => by cases z)))) ?_ ?_⟩
    · rintro j y σ H7 hy ⟨o'', B'', rfl, hb, D7, t7, e7⟩
      obtain ⟨b, fb, cb, rfl, hf, hc⟩ := fam j y hy
      have hx7 : Dq K H7 x dx := ((hqx.extN e16).extN e7).same D7.same
      refine ⟨_, rfl, b, fb, cb, rfl, D7.same _ _ (e7 _ _ hf lamO_tbl), D7.same _ _ (e7 _ _ hc codeO_ne), ?_⟩
      refine ⟨x, congrArg some hb, x, .non, .non, dx, .none, .none, rfl, hx7, .non, .non, fun H8 s8 => iteF' hno ⟨C.rm, fun a na => ?_⟩⟩
      refine ⟨a, _, Option.none, _, .ref (He.ga K "BadNet"), true, rfl, upd_same, (fun dd z => by cases z), C.c.ec, .own _, kit_self C.c, ?_⟩
      refine ⟨_, rfl, iteF' rfl ?_⟩
      exact ⟨{ o'' with wo := some (.ref fb) }, B'', rfl, hb, (D7.grow s8).drop na, t7, e7⟩
    · rintro σ H7 ⟨o'', B'', rfl, _, D7, t7, e7⟩
      exact ⟨o'', B'', rfl, D7, t7, e16.trans e7⟩
  · rintro σ H2 ⟨o', B', rfl, D2, t2, e2⟩
    exact nx _ _ ⟨d, t, ns, n, o', B', rfl, D2, t2, N1.extN e2⟩
end
end K04

set_option maxHeartbeats 8000000
namespace K04
open PySem PySem.Spec PyProof.Rows L2 LamX
/-- an own def, held by a name of the law -/
structure OwnV (P : Program) (w : World) (K : PySem.W.Frag) (mg : Str → Option Value) (base : Heap) (CX : CXT) (k : Nat) (ps : List Str) (sp : Sp) where
  f : Addr
  fd : FuncData
  kp : PySem.W.keepIn K (.ref f) = true
  ok : FnOk P w K mg base CX k f fd ps sp
  b : Binds K fd ps []
def asgVal : Stmt → Expr
  | .Assign _ e _ => e
  | _ => .Constant .none 0 ⟨0, 0, 0, 0⟩
def callArg : Expr → Expr
  | .Call _ (e :: _) _ _ => e
  | e => e
abbrev e_lam5 (i : Nat) : Expr := callArg (asgVal ((forBody (turnS 5)).getD i (.Pass ⟨0, 0, 0, 0⟩)))
abbrev tWork (K : PySem.W.Frag) (fw : Bool → Addr) (E : XK) (t : TA) : TE := fun σ H Q => ∃ j : Bool, σ[6]? = some (some (.ref (fw j))) ∧ t σ H fun vs H1 => spWindow K (winL j) vs H1 Q E
abbrev tPickL (K : PySem.W.Frag) (t : TA) : TE := tCall (spPick K) [] E0 (tCons (tVar 1) (tCons (tLst t) tNil))
def k5a (K : PySem.W.Frag) (fw : Bool → Addr) (_ : Unit) : LamK := ⟨lamArgs (e_lam5 0), lamBody (e_lam5 0), lamScope (e_lam5 0), fun E => tWork K fw E
  (tCons (tVar 4) (tCons (tPickL K (tCons (tC .non) (tCons (tUn (rU fun i => .int (-i)) (tC (.int 1))) (tCons (tVar 3) (tCons (tC (.bl true)) (tCons (tC (.str "0")) tNil)))))) (tCons (tC .non) tNil)))⟩
def k5b (K : PySem.W.Frag) (fw : Bool → Addr) (_ : Unit) : LamK := ⟨lamArgs (e_lam5 2), lamBody (e_lam5 2), lamScope (e_lam5 2), fun E => tWork K fw E
  (tCons (tVar 4) (tCons (tC (.int 0)) (tCons (tPickL K (tCons (tC .non) (tCons (tUn (rU fun i => .int (-i)) (tC (.int 1))) (tCons (tC (.int 401)) (tCons (tC (.bl true)) (tCons (tC (.str "0")) tNil)))))) tNil)))⟩
section
variable {P : Program} {w : World} {K : PySem.W.Frag} {mg : Str → Option Value} {base : Heap} {f : Addr} {cdv : Value} {A : Around} {outer : List Env} {s : Shared} {H : Hp} {E : XK} {k : Nat} {Tb : List (Addr × Str)}
theorem good5a (PK : Own P w K mg base CX0 k "_law_pick" ["draw", "some"] (spPick K)) (WW : ∀ b : Bool, OwnV P w K mg base (L2.CX P w) k ["net", "place", "rounds"] (spWindow K (winL b))) (u : Unit) :
    LamGood (XL P w K mg base f cdv A outer s H E) k (k5a K (fun b => (WW b).f) u) := by
  refine ⟨lamS_by (show lamSB (defScope s_law) (lamScope (e_lam5 0)) = true by decide +kernel), fun _ _ _ _ _ => rfl, fun A outer s H E f c' hr _ => ?_⟩
  show PE _ (Expr.Call (Expr.Name _ _) (_ :: _ :: _ :: []) [] _) (tWork K (fun b => (WW b).f) E (tCons (tVar 4) (tCons (tPickL K (tCons (tC .non) (tCons (tUn (rU fun i => .int (-i)) (tC (.int 1))) (tCons (tVar 3) (tCons (tC (.bl true)) (tCons (tC (.str "0")) tNil)))))) (tCons (tC .non) tNil))))
  exact pe_callVar (i := 6) (fun b => (WW b).ok) hr rfl (Or.inr (Or.inr rfl)) (fun b => (WW b).kp) (fun b => (WW b).b) pass_lam
    (pa_cons (pv 4) (pa_cons (pe_call PK.ok hr rfl PK.g PK.kp PK.b .nil pass0 (pa_cons (pv 1) (pa_cons (pe_lst (pa_cons pe_non (pa_cons (pe_un un_neg pe_int) (pa_cons (pv 3) (pa_cons pe_bl (pa_cons pe_str pa_nil)))))) pa_nil))) (pa_cons pe_non pa_nil)))
theorem good5b (PK : Own P w K mg base CX0 k "_law_pick" ["draw", "some"] (spPick K)) (WW : ∀ b : Bool, OwnV P w K mg base (L2.CX P w) k ["net", "place", "rounds"] (spWindow K (winL b))) (u : Unit) :
    LamGood (XL P w K mg base f cdv A outer s H E) k (k5b K (fun b => (WW b).f) u) := by
  refine ⟨lamS_by (show lamSB (defScope s_law) (lamScope (e_lam5 2)) = true by decide +kernel), fun _ _ _ _ _ => rfl, fun A outer s H E f c' hr _ => ?_⟩
  show PE _ (Expr.Call (Expr.Name _ _) (_ :: _ :: _ :: []) [] _) (tWork K (fun b => (WW b).f) E (tCons (tVar 4) (tCons (tC (.int 0)) (tCons (tPickL K (tCons (tC .non) (tCons (tUn (rU fun i => .int (-i)) (tC (.int 1))) (tCons (tC (.int 401)) (tCons (tC (.bl true)) (tCons (tC (.str "0")) tNil)))))) tNil))))
  exact pe_callVar (i := 6) (fun b => (WW b).ok) hr rfl (Or.inr (Or.inr rfl)) (fun b => (WW b).kp) (fun b => (WW b).b) pass_lam
    (pa_cons (pv 4) (pa_cons pe_int (pa_cons (pe_call PK.ok hr rfl PK.g PK.kp PK.b .nil pass0 (pa_cons (pv 1) (pa_cons (pe_lst (pa_cons pe_non (pa_cons (pe_un un_neg pe_int) (pa_cons pe_int (pa_cons pe_bl (pa_cons pe_str pa_nil)))))) pa_nil))) pa_nil)))
theorem out5a {B H0 : Hp} {d t : Addr} {ns : List Int} {n : Nat} {o : Oth} {fw : Bool → Addr} {b : Bool} {E : XK} {Q : VK} (D0 : DrawAt B H0 d) (N : NetAt B t ns n) (hw : o.wo = some (.ref (fw b)))
    (q : ∀ H' dx, DrawAt B H' d → H' dx = some (exd dx [("part", .str "place")]) → E (.ref (He.ga K "BadNumber")) (some dx) H') : (k5a K fw ()).t E (sg d (some (.int n)) (some (.ref t)) o) H0 Q := by
  refine ⟨b, congrArg some hw, .ref t, rfl, .ref d, rfl, 1, rfl, .int n, rfl, by show 5 ≤ sizeLine; decide, fun l hl => ?_⟩
  obtain ⟨D1, s1⟩ := D0.keepS (o := .lst [.non, .int (-1), .int n, .bl true, .str "0"]) hl
  refine ⟨d, l, _, _, rfl, D1, SqL.of upd_same, by show 0 < 5; decide, by show 5 < 1073741824; decide, fun H2 i x D2 hx => ?_⟩
  replace D2 := D2.less s1
  have hpos := N.pos
  have hlen := N.len
  have hm : ∃ dx, Dq K H2 x dx ∧ withinD 0 ((ns.length : Int) - 1) dx = false := by
    match i, hx with
    | 0, hx => cases hx; exact ⟨_, .non, rfl⟩
    | 1, hx => cases hx; exact ⟨_, .int _, rfl⟩
    | 2, hx =>
      cases hx
      refine ⟨_, .int _, ?_⟩
      show (decide ((0 : Int) ≤ n) && decide ((n : Int) ≤ (ns.length : Int) - 1)) = false
      rw [decide_eq_false (show ¬ (n : Int) ≤ (ns.length : Int) - 1 by omega), Bool.and_false]
    | 3, hx => cases hx; exact ⟨_, .bl true, rfl⟩
    | 4, hx => cases hx; exact ⟨_, .str "0", rfl⟩
    | i + 5, hx => cases hx
  obtain ⟨dx, hdq, hno⟩ := hm
  have hnet : Dq K H2 (.ref t) (.tuple (ns.map PyData.int)) := N.dq.same D2.same
  refine ⟨.ref t, x, .non, _, dx, .none, rfl, hnet, hdq, .non, fun H3 s3 => ?_⟩
  rw [N.net, show nsD (.tuple (ns.map PyData.int)) = ns from ints_int ns, hno]
  exact fun da _ hda => q H3 da (D2.grow s3) hda
theorem out5b {B H0 : Hp} {d t : Addr} {ns : List Int} {n : Nat} {o : Oth} {fw : Bool → Addr} {b : Bool} {E : XK} {Q : VK} (D0 : DrawAt B H0 d) (N : NetAt B t ns n) (hw : o.wo = some (.ref (fw b)))
    (q : ∀ H' dx, DrawAt B H' d → H' dx = some (exd dx [("part", .str "rounds")]) → E (.ref (He.ga K "BadNumber")) (some dx) H') : (k5b K fw ()).t E (sg d (some (.int n)) (some (.ref t)) o) H0 Q := by
  refine ⟨b, congrArg some hw, .ref t, rfl, .ref d, rfl, 1, rfl, by show 5 ≤ sizeLine; decide, fun l hl => ?_⟩
  obtain ⟨D1, s1⟩ := D0.keepS (o := .lst [.non, .int (-1), .int 401, .bl true, .str "0"]) hl
  refine ⟨d, l, _, _, rfl, D1, SqL.of upd_same, by show 0 < 5; decide, by show 5 < 1073741824; decide, fun H2 i x D2 hx => ?_⟩
  replace D2 := D2.less s1
  have hpos := N.pos
  have hlen := N.len
  have hm : ∃ dx, Dq K H2 x dx ∧ withinD 0 (400) dx = false := by
    match i, hx with
    | 0, hx => cases hx; exact ⟨_, .non, rfl⟩
    | 1, hx => cases hx; exact ⟨_, .int _, rfl⟩
    | 2, hx =>
      cases hx
      refine ⟨_, .int _, ?_⟩
      rfl
    | 3, hx => cases hx; exact ⟨_, .bl true, rfl⟩
    | 4, hx => cases hx; exact ⟨_, .str "0", rfl⟩
    | i + 5, hx => cases hx
  obtain ⟨dx, hdq, hno⟩ := hm
  have hnet : Dq K H2 (.ref t) (.tuple (ns.map PyData.int)) := N.dq.same D2.same
  refine ⟨.ref t, .int 0, x, _, .int 0, dx, rfl, hnet, .int 0, hdq, fun H3 s3 => ?_⟩
  have w1 : withinD 0 ((ns.length : Int) - 1) (.int 0) = true := by
    show (decide ((0 : Int) ≤ 0) && decide ((0 : Int) ≤ (ns.length : Int) - 1)) = true
    rw [decide_eq_true (show (0 : Int) ≤ (ns.length : Int) - 1 by omega)]
    rfl
  rw [N.net, show nsD (.tuple (ns.map PyData.int)) = ns from ints_int ns, w1, hno]
  exact fun da _ hda => q H3 da (D2.grow s3) hda
theorem blk5 {k1 : Nat} (T : Bl mg) (C : FdC P w K mg base k1 "BadNumber" "part") (gR : mg "RoundError" = some (.ref (He.ga K "RoundError"))) (lm : Lm mg base cdv Tb) (hr : Room (k + 2) (XL P w K mg base f cdv A outer s H E).A)
    (PK : Own P w K mg base CX0 k "_law_pick" ["draw", "some"] (spPick K)) (WW : ∀ b : Bool, OwnV P w K mg base (L2.CX P w) k ["net", "place", "rounds"] (spWindow K (winL b))) (gW0 : mg "ring_window" = some (.ref (WW false).f)) (gW1 : mg "path_window" = some (.ref (WW true).f))
    {fC : Addr} {fdC : FuncData} (FC : FnP K "_law_caught" s_law_caught fC fdC) (gC : mg "_law_caught" = some (.ref fC)) (bC : Binds K fdC ["work"] []) : PS (XL P w K mg base f cdv A outer s H E) (turnS 5) (tKeep (J1 Tb)) := by
  obtain ⟨c, Pt, rfl, TB, rfl⟩ := lm
  have hT : (Pt, (XL P w K mg base f (.ref c) A outer s H E).env.qual ++ "<lambda>") ∈ [(Pt, qLam)] := List.mem_singleton.mpr rfl
  have hu : ∀ p ∈ [(Pt, qLam)], p.1 = Pt → p.2 = (XL P w K mg base f (.ref c) A outer s H E).env.qual ++ "<lambda>" := fun p hp _ => by rw [List.mem_singleton.mp hp]; rfl
  refine PS.imp (ps_for PassesOwn.never rfl (pi_list (pe_lst (pa_cons (pe_glob (v := .ref (WW false).f) (by rfl) gW0 rfl) (pa_cons (pe_glob (v := .ref (WW true).f) (by rfl) gW1 rfl) pa_nil)))) (pg_name (i := 6) sc_law.nd rfl (Or.inr rfl))
    (pss_cons (ps_set (i := 11) sc_law.nd rfl (Or.inl rfl) (pe_caughtF (κ := k5a K (fun b => (WW b).f)) FC bC rfl sc_caught (Or.inl rfl) rfl rfl rfl gR (pe_lamV TB rfl hT hu (by rfl) (good5a (k := k) PK WW ()).sc) (by rfl) gC hr (good5a PK WW)))
    (pss_cons (ps_if (L2.PW.pt (pw_or (pt_not (pt_val (pe_callB call_isC (by rfl) T.isi (by decide +kernel) (pa_cons (pv 11) (pa_cons (pe_glob (v := .ref _) (by rfl) C.g rfl) pa_nil))))) (pw_or1 (pt_cmpR op_ne (pe_exc (pv 11)) pe_str (nomark _))))) (pss_one (ps_ret pe_bl)) pss_nil)
    (pss_cons (ps_set (i := 11) sc_law.nd rfl (Or.inl rfl) (pe_caughtF (κ := k5b K (fun b => (WW b).f)) FC bC rfl sc_caught (Or.inl rfl) rfl rfl rfl gR (pe_lamV TB rfl hT hu (by rfl) (good5b (k := k) PK WW ()).sc) (by rfl) gC hr (good5b PK WW)))
    (pss_one (ps_if (L2.PW.pt (pw_or (pt_not (pt_val (pe_callB call_isC (by rfl) T.isi (by decide +kernel) (pa_cons (pv 11) (pa_cons (pe_glob (v := .ref _) (by rfl) C.g rfl) pa_nil))))) (pw_or1 (pt_cmpR op_ne (pe_exc (pv 11)) pe_str (nomark _))))) (pss_one (ps_ret pe_bl)) pss_nil)))))) ?_
  rintro D σ H0 ⟨⟨d, t, ns, n, o, B, rfl, D0, t0, N⟩, nx⟩
  refine ⟨by show 2 ≤ sizeLine; decide, fun L hL => ?_⟩
  obtain ⟨B1, D1, s1, fL⟩ := D0.keepG hL (.lst [.ref (WW false).f, .ref (WW true).f])
  replace N := N.extN s1.extN
  refine ⟨L, rfl, ⟨_, SqL.of (D1.same _ _ fL)⟩, for_list (K := K) (a := L) (xs := [.ref (WW false).f, .ref (WW true).f]) (fun _ σ H => ∃ (o' : Oth) (B' : Hp), σ = sg d (some (.int n)) (some (.ref t)) o' ∧ DrawAt B' H d ∧ Tabs [(Pt, qLam)] B' ∧ ExtN B1 B')
    ⟨o, B1, rfl, D1, lam_none t0 s1, ExtN.refl B1⟩ (fun i σ H' _ ⟨o', B', _, D', _, e'⟩ => SqL.of (D'.same _ _ (e' _ _ fL (fun _ z => by cases z)))) ?_ ?_⟩
  · rintro i x σ H2 hx ⟨o', B2, rfl, D2, t2, EE2⟩
    have hb : ∃ b : Bool, x = .ref (WW b).f := by
      match i, hx with
      | 0, hx => cases hx; exact ⟨false, rfl⟩
      | 1, hx => cases hx; exact ⟨true, rfl⟩
      | i + 2, hx => cases hx
    obtain ⟨b, rfl⟩ := hb
    -- place
    refine ⟨lam_none t2 D2.same, fun f2 c2 H3 x2 tt2 n2 n2' k2 => ?_⟩
    obtain ⟨B3, D3, e3, t3, f3', g3⟩ := D2.lam (o := lamOf (XL P w K mg base f (.ref c) A outer s H E) (k5a K (fun b => (WW b).f) ()) f2 c2) x2 tt2 n2 k2
    refine ⟨(), f2, c2, rfl, upd_same, D3.same _ _ g3, out5a (b := b) (o := { o' with wo := some (.ref (WW b).f) }) D3 ((N.extN EE2).extN e3) rfl fun H5 dx D5 hdx => ⟨C.rm, fun a na => ?_⟩⟩
    have ndx : dx ≠ a := ne_of_none hdx na
    have D6 := D5.drop (o := exv a (.ref (He.ga K "BadNumber")) (some dx)) na
    have hdx' : (upd H5 a (exv a (.ref (He.ga K "BadNumber")) (some dx))) dx = some (exd dx [("part", .str "place")]) := by rw [upd_ne ndx]; exact hdx
    refine ⟨.ref a, rfl, a, _, some dx, _, .ref (He.ga K "BadNumber"), true, rfl, upd_same, (fun dd z => by cases z; exact ⟨_, hdx'⟩), C.c.ec, .own _, kit_self C.c, ?_⟩
    refine ⟨_, rfl, iteF' rfl ⟨.ref a, rfl, a, _, dx, _, .str "place", rfl, C.c.ec, C.no, upd_same, hdx', by simp [List.lookup], rfl, _, rfl, iteF' (ne_self _) ?_⟩⟩
    clear hdx' ndx
    have t6 : Tabs [(Pt, qLam)] B3 := t3
    have EE6 : ExtN B1 B3 := EE2.trans e3
    -- rounds
    refine ⟨lam_none t6 D6.same, fun f6 c6 H7 x6 tt6 n6 n6' k6 => ?_⟩
    obtain ⟨B7, D7, e7, t7, f7', g7⟩ := D6.lam (o := lamOf (XL P w K mg base f (.ref c) A outer s H E) (k5b K (fun b => (WW b).f) ()) f6 c6) x6 tt6 n6 k6
    refine ⟨(), f6, c6, rfl, upd_same, D7.same _ _ g7, out5b (b := b) (o := { o' with wo := some (.ref (WW b).f), ca := some (.ref a) }) D7 ((N.extN EE6).extN e7) rfl fun H9 dy D9 hdy => ⟨C.rm, fun a2 na2 => ?_⟩⟩
    have ndy : dy ≠ a2 := ne_of_none hdy na2
    have D10 := D9.drop (o := exv a2 (.ref (He.ga K "BadNumber")) (some dy)) na2
    have hdy' : (upd H9 a2 (exv a2 (.ref (He.ga K "BadNumber")) (some dy))) dy = some (exd dy [("part", .str "rounds")]) := by rw [upd_ne ndy]; exact hdy
    refine ⟨.ref a2, rfl, a2, _, some dy, _, .ref (He.ga K "BadNumber"), true, rfl, upd_same, (fun dd z => by cases z; exact ⟨_, hdy'⟩), C.c.ec, .own _, kit_self C.c, ?_⟩
    refine ⟨_, rfl, iteF' rfl ⟨.ref a2, rfl, a2, _, dy, _, .str "rounds", rfl, C.c.ec, C.no, upd_same, hdy', by simp [List.lookup], rfl, _, rfl, iteF' (ne_self _) ?_⟩⟩
    exact ⟨{ o' with wo := some (.ref (WW b).f), ca := some (.ref a2) }, B7, rfl, D10, t7, EE6.trans e7⟩
  · rintro σ H2 ⟨o', B', rfl, D2, t2, e2⟩
    exact nx _ _ ⟨d, t, ns, n, o', B', rfl, D2, t2, N.extN e2⟩
end
end K04

set_option maxHeartbeats 8000000
namespace K04
open PySem PySem.Spec PyProof.Rows L2 LamX
abbrev lawS (i : Nat) : Stmt := (defBody s_law).getD i (.Pass ⟨0, 0, 0, 0⟩)
def gnsN (n : Nat) : List Int := (List.range n).map fun (i : Nat) => 1 + (i : Int)
theorem gns_len (n : Nat) : (gnsN n).length = n := by
  unfold gnsN
  rw [List.length_map, List.length_range]
theorem net_of {ns : List Int} (h1 : 1 ≤ ns.length) (h2 : ns.length ≤ 400) (nd : ns.Nodup) (hb : ∀ x ∈ ns, 1 ≤ x ∧ x ≤ 1000000000) : netD (.tuple (ns.map PyData.int)) = true := by
  show (decide (1 ≤ (ns.map PyData.int).length) && decide (((ns.map PyData.int).length : Int) ≤ 400) && (ns.map PyData.int).all (withinD 1 1000000000) && decide (intsD (ns.map PyData.int)).Nodup) = true
  rw [List.length_map, ints_int, decide_eq_true h1, decide_eq_true (show (ns.length : Int) ≤ 400 by omega), decide_eq_true nd, Bool.and_true, Bool.and_true, Bool.true_and]
  refine List.all_eq_true.mpr fun d hd => ?_
  obtain ⟨i, hi, rfl⟩ := List.mem_map.mp hd
  have := hb i hi
  show (decide (1 ≤ i) && decide (i ≤ 1000000000)) = true
  rw [decide_eq_true this.1, decide_eq_true this.2]
  rfl
theorem net_great : netD (.tuple ((gnsN 401).map PyData.int)) = false := by
  show (decide (1 ≤ ((gnsN 401).map PyData.int).length) && decide ((((gnsN 401).map PyData.int).length : Int) ≤ 400) && ((gnsN 401).map PyData.int).all (withinD 1 1000000000) && decide (intsD ((gnsN 401).map PyData.int)).Nodup) = false
  rw [List.length_map, gns_len, decide_eq_false (show ¬ ((401 : Nat) : Int) ≤ 400 by omega), Bool.and_false, Bool.false_and, Bool.false_and]
theorem net_less : netD (.tuple ((gnsN 400).map PyData.int)) = true := by
  refine net_of (by rw [gns_len]; omega) (by rw [gns_len]; omega) ?_ fun x hx => ?_
  · exact List.pairwise_map.mpr (List.nodup_range.imp fun {a b} h => by intro z; exact h (by omega))
  · obtain ⟨i, hi, rfl⟩ := List.mem_map.mp hx
    have := List.mem_range.mp hi
    omega
theorem cut_eq : cutV ((gnsN 401).map V.int) Option.none (some 400) = (gnsN 400).map V.int := by
  unfold cutV
  have e2 : HT.sIx ((gnsN 401).map V.int).length ((gnsN 401).map V.int).length (some 400) = min 400 ((gnsN 401).map V.int).length := HT.sIx_nat _ _ 400
  have e3 : HT.sIx ((gnsN 401).map V.int).length 0 Option.none = 0 := rfl
  rw [e2, e3, List.length_map, gns_len, List.drop_zero, ← List.map_take]
  unfold gnsN
  rw [← List.map_take, List.take_range]
  rfl
theorem cut_not : ¬ (HT.sIx ((gnsN 401).map V.int).length 0 Option.none = 0 ∧ HT.sIx ((gnsN 401).map V.int).length ((gnsN 401).map V.int).length (some 400) = ((gnsN 401).map V.int).length) := fun ⟨_, h⟩ => by
  have e2 : HT.sIx ((gnsN 401).map V.int).length ((gnsN 401).map V.int).length (some 400) = min 400 ((gnsN 401).map V.int).length := HT.sIx_nat _ _ 400
  rw [e2, List.length_map, gns_len] at h
  omega
theorem rg_eq : rgV 1 402 = (gnsN 401).map V.int := by
  unfold rgV gnsN
  rw [List.map_map]
  rfl
section
variable {P : Program} {w : World} {K : PySem.W.Frag} {mg : Str → Option Value} {base : Heap} {f : Addr} {cdv : Value} {A : Around} {outer : List Env} {s : Shared} {H : Hp} {E : XK} {k : Nat} {Tb : List (Addr × Str)}
/-- the last two statements -/
theorem tail_ok (T : Bl mg) (hr : Room k (XL P w K mg base f cdv A outer s H E).A) (IS : Own P w K mg base CX0 k "is_net" ["thing"] (spIsNet K)) (RW : Own P w K mg base (L2.CX P w) k "ring_window" ["net", "place", "rounds"] (spWindow K ringL)) :
    PSs (XL P w K mg base f cdv A outer s H E) [lawS 2, lawS 3] (fun D σ H => J0 Tb σ H ∧ ∀ H', D.rt (.bl true) H') := by
  refine PSs.imp (pss_cons (ps_set (i := 12) sc_law.nd rfl (Or.inl rfl) (pe_tupRg rfl (by rfl) T.tuple (prg_2 (by rfl) T.range pe_int pe_int)))
    (pss_one (ps_ret (pe_and (pe_cmpR op_is_bl (pe_call IS.ok hr rfl IS.g IS.kp IS.b .nil pass0 (pa_cons (pv 12) pa_nil)) pe_bl (nomark _))
      (pe_and (pe_cmpR op_is_bl (pe_call IS.ok hr rfl IS.g IS.kp IS.b .nil pass0 (pa_cons (pe_slice sl_tup (pv 12) po_none (po_some pe_int)) pa_nil)) pe_bl (nomark _))
        (pe_one (pe_cmpR op_eq (pe_callB (r := rLenS K) call_lenK (by rfl) T.len PySem.boot_len (pa_cons (pe_call RW.ok hr rfl RW.g RW.kp RW.b .nil pass_no (pa_cons (pe_slice sl_tup (pv 12) po_none (po_some pe_int)) (pa_cons pe_int (pa_cons pe_int pa_nil)))) pa_nil)) pe_int (nomark _)))))))) ?_
  rintro D σ H0 ⟨⟨d, si, ne, o, B, rfl, D0, t0⟩, q⟩
  refine ⟨1, 402, rfl, rfl, RgOk.of_le (by decide) (by decide) (by decide) (by decide), fun g hg => ?_⟩
  have fg : (upd H0 g (.tup (rgV 1 402))) g = some (.tup ((gnsN 401).map V.int)) := by rw [upd_same, rg_eq]
  generalize upd H0 g (.tup (rgV 1 402)) = H1 at fg ⊢
  have hs : ∀ H', Same H1 H' → SqT K H' g ((gnsN 401).map V.int) := fun H' s => .inl (.inl (s _ _ fg))
  refine ⟨.ref g, rfl, .ref g, _, rfl, .tup (hs H1 (Same.refl H1)) (dq_ints _), fun H2 s2 => ?_⟩
  rw [net_great]
  refine ⟨_, _, rfl, rfl, _, rfl, iteT' rfl ?_⟩
  refine ⟨.ref g, rfl, 400, rfl, g, _, rfl, hs H2 s2, cut_not, fun g2 hg2 => ?_⟩
  rw [cut_eq]
  refine ⟨.ref g2, _, rfl, .tup (.inl (.inl upd_same)) (dq_ints _), fun H3 s3 => ?_⟩
  rw [net_less]
  refine ⟨_, _, rfl, rfl, _, rfl, iteT' rfl ?_⟩
  have s13 : Same H1 H3 := (s2.trans (same_new hg2)).trans s3
  refine ⟨.ref g, rfl, 400, rfl, g, _, rfl, hs H3 s13, cut_not, fun g3 hg3 => ?_⟩
  rw [cut_eq]
  refine ⟨_, _, _, _, .int 399, .int 400, rfl, .tup (.inl (.inl upd_same)) (dq_ints _), .int 399, .int 400, fun H4 s4 => ?_⟩
  have e1 : nsD (.tuple ((gnsN 400).map PyData.int)) = gnsN 400 := ints_int _
  rw [net_less, e1]
  have w1 : withinD 0 (((gnsN 400).length : Int) - 1) (.int 399) = true := by
    rw [gns_len]
    decide
  have w2 : withinD 0 400 (.int 400) = true := by decide
  rw [w1, w2]
  intro a na ha
  refine ⟨a, _, rfl, .inr (.inl (.inl ha)), rfl, ?_⟩
  have e2 : ((ringL (gnsN 400) 399 400).map V.int).length = 801 := by
    rw [List.length_map]
    unfold ringL
    rw [List.length_map, List.length_range]
    decide
  show D.rt (.bl (decide (V.int ((((ringL (gnsN 400) 399 400).map V.int).length : Nat) : Int) = V.int 801))) H4
  rw [e2]
  exact q H4
def spLaw (K : PySem.W.Frag) (Tb : List (Addr × Str)) : Sp := fun vs H Q _ => ∃ (a : Addr) (ns : List Int), vs = [.ref a] ∧ SqL K H a (ns.map V.int) ∧ ns.length ≤ 63 ∧ Tabs Tb H ∧ ∀ H', Q (.bl true) H'
theorem law_body (T : Bl mg) (BG : Own P w K mg base CX0 k "_law_begun" ["script"] (spBegun K)) (hr : Room k (XL P w K mg base f cdv A outer s H E).A)
    (b0 : PS (XL P w K mg base f cdv A outer s H E) (turnS 0) (tTo (J0 Tb) (J05 Tb))) (b1 : PS (XL P w K mg base f cdv A outer s H E) (turnS 1) (tTo (J05 Tb) (J1 Tb)))
    (b2 : PS (XL P w K mg base f cdv A outer s H E) (turnS 2) (tKeep (J1 Tb))) (b3 : PS (XL P w K mg base f cdv A outer s H E) (turnS 3) (tKeep (J1 Tb))) (b4 : PS (XL P w K mg base f cdv A outer s H E) (turnS 4) (tKeep (J1 Tb))) (b5 : PS (XL P w K mg base f cdv A outer s H E) (turnS 5) (tKeep (J1 Tb)))
    (tl : PSs (XL P w K mg base f cdv A outer s H E) [lawS 2, lawS 3] (fun D σ H => J0 Tb σ H ∧ ∀ H', D.rt (.bl true) H')) :
    ∃ t, PSs (XL P w K mg base f cdv A outer s H E) (defBody s_law) t ∧ ∀ (vs : List V) (H : Hp) (Q : VK) (E' : XK), spLaw K Tb vs H Q E' → t { nx := fun _ H' => Q .non H', rt := Q } (L2.start N_law vs) H := by
  refine ⟨_, pss_cons (ps_set (i := 1) sc_law.nd rfl (Or.inr rfl) (pe_call BG.ok hr rfl BG.g BG.kp BG.b .nil pass0 (pa_cons (pv 0) pa_nil)))
    (pss_cons (ps_for PassesOwn.never rfl (pi_range1 (by rfl) T.range (pa_cons (pe_op op_add pe_int (pe_callB (call_min2 rfl) (by rfl) T.min (by decide +kernel) (pa_cons (pe_callB (r := rLenS K) call_lenK (by rfl) T.len PySem.boot_len (pa_cons (pv 0) pa_nil)) (pa_cons pe_int pa_nil)))) pa_nil) (by rfl)) (pg_name (i := 2) sc_law.nd rfl (Or.inl rfl))
      (pss_cons b0 (pss_cons b1 (pss_cons b2 (pss_cons b3 (pss_cons b4 (pss_one b5))))))) tl), ?_⟩
  rintro vs H Q E' ⟨a, ns, rfl, hS, hl, ht, q⟩
  refine ⟨.ref a, rfl, a, ns, rfl, hS, hl, fun H1 d D1 => ?_⟩
  have hS1 := D1.same.seq hS
  refine ⟨.ref a, rfl, a, _, rfl, .inl hS1, _, _, rfl, _, _, rfl, rfl, ?_⟩
  refine ⟨_, rfl, ?_, ?_, for_range (fun _ => J0 Tb) ?_ ?_ ?_⟩
  · have h0 : (0 : Int) ≤ (if (6 : Int) < (((ns.map V.int).length : Nat) : Int) then 6 else (((ns.map V.int).length : Nat) : Int)) := by split <;> omega
    show -(2 ^ 62) ≤ (2 : Int) + (if (6 : Int) < (((ns.map V.int).length : Nat) : Int) then 6 else (((ns.map V.int).length : Nat) : Int))
    omega
  · have h0 : (if (6 : Int) < (((ns.map V.int).length : Nat) : Int) then 6 else (((ns.map V.int).length : Nat) : Int)) ≤ 6 := by split <;> omega
    show (2 : Int) + (if (6 : Int) < (((ns.map V.int).length : Nat) : Int) then 6 else (((ns.map V.int).length : Nat) : Int)) < 2 ^ 62
    omega
  · exact ⟨d, Option.none, Option.none, ⟨some (.ref a), Option.none, Option.none, Option.none, Option.none, Option.none, Option.none, Option.none, Option.none, Option.none⟩, H, rfl, D1, ht⟩
  · rintro i σ H2 hi ⟨d, si, ne, o, B, rfl, D2, t2⟩
    refine ⟨⟨d, si, ne, { o with tu := some (.int (0 + (i : Int))) }, B, rfl, D2, t2⟩, fun σ1 H3 j05 => ⟨j05, fun σ2 H4 j1 => ⟨j1, fun σ3 H5 j1 => ⟨j1, fun σ4 H6 j1 => ⟨j1, fun σ5 H7 j1 => ⟨j1, fun σ6 H8 j1 => j1.j0⟩⟩⟩⟩⟩⟩
  · exact fun σ H2 j0 => ⟨j0, q⟩
end
end K04

set_option maxHeartbeats 16000000
namespace K04
open PySem PySem.Spec PyProof.Rows L2 LamX
def Own.mono {P : Program} {w : World} {K : PySem.W.Frag} {mg : Str → Option Value} {base : Heap} {CX : CXT} {j k : Nat} {x : Str} {ps : List Str} {sp : Sp} (h : Own P w K mg base CX j x ps sp) (l : j ≤ k) : Own P w K mg base CX k x ps sp := ⟨h.f, h.fd, h.g, h.kp, h.ok.mono l, h.b⟩
theorem mR_ok {K : PySem.W.Frag} : PySem.HandSPX.refsVE (mR K) = true := by
  unfold mR
  rfl
abbrev pL : He.Defn := ("law", none)
theorem facts {P : Program} {w : World} {K : PySem.W.Frag} {h : Heap} {mg : Str → Option Value} {f : Addr} (X : K.In h) (G : h.Ns mainGlobals mg) (hfa : mg ("law" : Str) = some (.ref f)) (c : He.SaysS fa fn tf sd file ex h K) (hP : SupP P file) :
    ∃ fd : FuncData, (∀ (s : Shared) (v : Value), BindsTo s fd ⟨[v], []⟩ [("script", v)]) ∧ ∀ base : Heap, K.In base → base.Ns mainGlobals mg → (∀ p ∈ [(He.cT K pL).2], base.BuiltinsAt mg p ∧ mainGlobals ≠ p) →
      FnOkG P w K mg base CX0 11 f fd ["script"] (spLaw K [((He.cT K pL).2, qLam)]) := by
  have e := c.y.more
  unfold ex at e
  rw [Bool.and_eq_true, Bool.and_eq_true, Bool.and_eq_true, Bool.and_eq_true, Bool.and_eq_true] at e
  obtain ⟨e1, e2, e3, e5, e6, e7⟩ := e
  have e5 := List.all_eq_true.mp e5
  have e6 := List.all_eq_true.mp e6
  have iR := He.initB_ok e3
  have pl : ∀ x ∈ plainE, PlC K mg x := fun x hx => by
    have z := e5 x hx
    rw [Bool.and_eq_true, Bool.and_eq_true, Bool.and_eq_true] at z
    exact ⟨He.glo_ok X G z.1, He.errB_ok mR_ok z.2.1, (He.initB_ok z.2.2.1).1, iR.2, of_decide_eq_true z.2.2.2⟩
  have T : Bl mg := ⟨He.free_ok X G (c.y.d.fact 21 (f := .free "ValueError") rfl), He.free_ok X G (c.y.d.fact 22 (f := .free "abs") rfl), He.free_ok X G (c.y.d.fact 23 (f := .free "all") rfl), He.free_ok X G (c.y.d.fact 24 (f := .free "bool") rfl), He.free_ok X G (c.y.d.fact 25 (f := .free "int") rfl), He.free_ok X G (c.y.d.fact 26 (f := .free "isinstance") rfl), He.free_ok X G (c.y.d.fact 27 (f := .free "len") rfl), He.free_ok X G (c.y.d.fact 28 (f := .free "list") rfl), He.free_ok X G (c.y.d.fact 29 (f := .free "min") rfl), He.free_ok X G (c.y.d.fact 30 (f := .free "range") rfl), He.free_ok X G (c.y.d.fact 31 (f := .free "repr") rfl), He.free_ok X G (c.y.d.fact 32 (f := .free "set") rfl), He.free_ok X G (c.y.d.fact 33 (f := .free "str") rfl), He.free_ok X G (c.y.d.fact 34 (f := .free "super") rfl), He.free_ok X G (c.y.d.fact 35 (f := .free "tuple") rfl)⟩
  have gR := He.glo_ok X G (c.y.d.fact 20 (f := .glo "RoundError") rfl)
  have m_1 := He.int_ok X G (c.y.d.fact 36 (f := .int "MOST_HOUSES" 400) rfl)
  have m_2 := He.int_ok X G (c.y.d.fact 37 (f := .int "MOST_NAME" 1000000000) rfl)
  have m_3 := He.int_ok X G (c.y.d.fact 38 (f := .int "_MOST_ROUNDS" 400) rfl)
  obtain ⟨d_is_number, F_is_number⟩ := c.y.d.def_ 0 (d := ds_is_number) rfl
  have g_is_number := He.glo_ok X G (c.y.d.fact 0 (f := .glo "is_number") rfl)
  obtain ⟨d_is_within, F_is_within⟩ := c.y.d.def_ 1 (d := ds_is_within) rfl
  have g_is_within := He.glo_ok X G (c.y.d.fact 1 (f := .glo "is_within") rfl)
  obtain ⟨d_are_within, F_are_within⟩ := c.y.d.def_ 2 (d := ds_are_within) rfl
  have g_are_within := He.glo_ok X G (c.y.d.fact 2 (f := .glo "are_within") rfl)
  obtain ⟨d_is_line_of, F_is_line_of⟩ := c.y.d.def_ 3 (d := ds_is_line_of) rfl
  have g_is_line_of := He.glo_ok X G (c.y.d.fact 3 (f := .glo "is_line_of") rfl)
  obtain ⟨d_are_unlike, F_are_unlike⟩ := c.y.d.def_ 4 (d := ds_are_unlike) rfl
  have g_are_unlike := He.glo_ok X G (c.y.d.fact 4 (f := .glo "are_unlike") rfl)
  obtain ⟨d_words, F_words⟩ := c.y.d.def_ 5 (d := ds_words) rfl
  have g_words := He.glo_ok X G (c.y.d.fact 5 (f := .glo "_words") rfl)
  obtain ⟨d_is_net, F_is_net⟩ := c.y.d.def_ 6 (d := ds_is_net) rfl
  have g_is_net := He.glo_ok X G (c.y.d.fact 6 (f := .glo "is_net") rfl)
  obtain ⟨d_check_net, F_check_net⟩ := c.y.d.def_ 7 (d := ds_check_net) rfl
  have g_check_net := He.glo_ok X G (c.y.d.fact 7 (f := .glo "check_net") rfl)
  obtain ⟨d_check_window, F_check_window⟩ := c.y.d.def_ 8 (d := ds_check_window) rfl
  have g_check_window := He.glo_ok X G (c.y.d.fact 8 (f := .glo "_check_window") rfl)
  obtain ⟨d_around_ring, F_around_ring⟩ := c.y.d.def_ 9 (d := ds_around_ring) rfl
  have g_around_ring := He.glo_ok X G (c.y.d.fact 9 (f := .glo "around_ring") rfl)
  obtain ⟨d_ring_window, F_ring_window⟩ := c.y.d.def_ 10 (d := ds_ring_window) rfl
  have g_ring_window := He.glo_ok X G (c.y.d.fact 10 (f := .glo "ring_window") rfl)
  obtain ⟨d_path_window, F_path_window⟩ := c.y.d.def_ 11 (d := ds_path_window) rfl
  have g_path_window := He.glo_ok X G (c.y.d.fact 11 (f := .glo "path_window") rfl)
  obtain ⟨d_law_begun, F_law_begun⟩ := c.y.d.def_ 12 (d := ds_law_begun) rfl
  have g_law_begun := He.glo_ok X G (c.y.d.fact 12 (f := .glo "_law_begun") rfl)
  obtain ⟨d_law_mixed, F_law_mixed⟩ := c.y.d.def_ 13 (d := ds_law_mixed) rfl
  have g_law_mixed := He.glo_ok X G (c.y.d.fact 13 (f := .glo "_law_mixed") rfl)
  obtain ⟨d_law_take, F_law_take⟩ := c.y.d.def_ 14 (d := ds_law_take) rfl
  have g_law_take := He.glo_ok X G (c.y.d.fact 14 (f := .glo "_law_take") rfl)
  obtain ⟨d_law_pick, F_law_pick⟩ := c.y.d.def_ 15 (d := ds_law_pick) rfl
  have g_law_pick := He.glo_ok X G (c.y.d.fact 15 (f := .glo "_law_pick") rfl)
  obtain ⟨d_law_caught, F_law_caught⟩ := c.y.d.def_ 16 (d := ds_law_caught) rfl
  have g_law_caught := He.glo_ok X G (c.y.d.fact 16 (f := .glo "_law_caught") rfl)
  obtain ⟨d_law_net, F_law_net⟩ := c.y.d.def_ 17 (d := ds_law_net) rfl
  have g_law_net := He.glo_ok X G (c.y.d.fact 17 (f := .glo "_law_net") rfl)
  obtain ⟨d_law_window, F_law_window⟩ := c.y.d.def_ 18 (d := ds_law_window) rfl
  have g_law_window := He.glo_ok X G (c.y.d.fact 18 (f := .glo "_law_window") rfl)
  obtain ⟨d_law, F_law⟩ := c.y.d.def_ 19 (d := ds_law) rfl
  have g_law := He.glo_ok X G (c.y.d.fact 19 (f := .glo "law") rfl)
  obtain ⟨d_RoundError, F_RoundError⟩ := c.y.d.def_ 20 (d := di_RoundError) rfl
  obtain ⟨cc_BadNumber, cda_BadNumber, d_BadNumber, Z_BadNumber⟩ := c.sup 0 (d := q_BadNumber) rfl
  have el := hfa.symm.trans g_law
  cases el
  have bs := FunD.bindsA (ps := ["script"]) F_law fun _ _ _ _ _ _ us hl => match us, hl with | [_], _ => rfl
  refine ⟨d_law, fun s v => bs s [v] rfl, fun base KB GB hB => ?_⟩
  have b_is_number : Binds K d_is_number ["thing"] [] := FunD.bindsN F_is_number fun _ _ _ _ _ _ us hl => match us, hl with | [_], _ => rfl
  have b_is_within : Binds K d_is_within ["thing", "low", "high"] [] := FunD.bindsN F_is_within fun _ _ _ _ _ _ us hl => match us, hl with | [_, _, _], _ => rfl
  have b_are_within : Binds K d_are_within ["things", "low", "high"] [] := FunD.bindsN F_are_within fun _ _ _ _ _ _ us hl => match us, hl with | [_, _, _], _ => rfl
  have b_is_line_of : Binds K d_is_line_of ["thing", "most", "low", "high"] [] := FunD.bindsN F_is_line_of fun _ _ _ _ _ _ us hl => match us, hl with | [_, _, _, _], _ => rfl
  have b_are_unlike : Binds K d_are_unlike ["things"] [] := FunD.bindsN F_are_unlike fun _ _ _ _ _ _ us hl => match us, hl with | [_], _ => rfl
  have b_words : Binds K d_words ["words", "told"] [] := FunD.bindsN F_words fun _ _ _ _ _ _ us hl => match us, hl with | [_, _], _ => rfl
  have b_is_net : Binds K d_is_net ["thing"] [] := FunD.bindsN F_is_net fun _ _ _ _ _ _ us hl => match us, hl with | [_], _ => rfl
  have b_check_net : Binds K d_check_net ["net"] [] := FunD.bindsN F_check_net fun _ _ _ _ _ _ us hl => match us, hl with | [_], _ => rfl
  have b_check_window : Binds K d_check_window ["net", "place", "rounds"] [] := FunD.bindsN F_check_window fun _ _ _ _ _ _ us hl => match us, hl with | [_, _, _], _ => rfl
  have b_around_ring : Binds K d_around_ring ["line", "place", "rounds"] [] := FunD.bindsN F_around_ring fun _ _ _ _ _ _ us hl => match us, hl with | [_, _, _], _ => rfl
  have b_ring_window : Binds K d_ring_window ["net", "place", "rounds"] [] := FunD.bindsN F_ring_window fun _ _ _ _ _ _ us hl => match us, hl with | [_, _, _], _ => rfl
  have b_path_window : Binds K d_path_window ["net", "place", "rounds"] [] := FunD.bindsN F_path_window fun _ _ _ _ _ _ us hl => match us, hl with | [_, _, _], _ => rfl
  have b_law_begun : Binds K d_law_begun ["script"] [] := FunD.bindsN F_law_begun fun _ _ _ _ _ _ us hl => match us, hl with | [_], _ => rfl
  have b_law_mixed : Binds K d_law_mixed ["draw"] [] := FunD.bindsN F_law_mixed fun _ _ _ _ _ _ us hl => match us, hl with | [_], _ => rfl
  have b_law_take : Binds K d_law_take ["draw", "amount"] [] := FunD.bindsN F_law_take fun _ _ _ _ _ _ us hl => match us, hl with | [_, _], _ => rfl
  have b_law_pick : Binds K d_law_pick ["draw", "some"] [] := FunD.bindsN F_law_pick fun _ _ _ _ _ _ us hl => match us, hl with | [_, _], _ => rfl
  have b_law_caught : Binds K d_law_caught ["work"] [] := FunD.bindsN F_law_caught fun _ _ _ _ _ _ us hl => match us, hl with | [_], _ => rfl
  have b_law_net : Binds K d_law_net ["draw", "size", "most"] [] := FunD.bindsN F_law_net fun _ _ _ _ _ _ us hl => match us, hl with | [_, _, _], _ => rfl
  have b_law_window : Binds K d_law_window ["net", "place", "rounds_here", "is_path"] [] := FunD.bindsN F_law_window fun _ _ _ _ _ _ us hl => match us, hl with | [_, _, _, _], _ => rfl
  have b_RoundError : Binds K d_RoundError ["self", "message"] [] := by
    obtain ⟨ds, r, b⟩ := FunD.binds1 (ps := ["self", "message"]) F_RoundError 2 1 (by intro z; cases z) rfl (fun T kV doc pm an cdv ct us its l1 l2 => match us, its, l1, l2 with | [_, _], [_], _, _ => ⟨_, rfl, rfl⟩)
    have z : ds = [] := List.eq_nil_of_length_eq_zero r.length.symm
    rw [z] at b
    exact b
  have b_BadNumber : Binds K d_BadNumber ["self", "part"] [] := Z_BadNumber.binds fun _ _ _ _ us hl => match us, hl with | [_, _], _ => rfl
  have z_BadNumber := e6 ("BadNumber", "part") (by decide)
  rw [Bool.and_eq_true, Bool.and_eq_true, Bool.and_eq_true, Bool.and_eq_true, Bool.and_eq_true] at z_BadNumber
  have G_words : FnOk P w K mg base CX0 1 _ d_words ["words", "told"] (spWords K) := ok_words F_words T
  have G_RoundError : FnOk P w K mg base CX0 1 _ d_RoundError ["self", "message"] (spRound K) := ok_round F_RoundError T
  have G_BadNumber : FnOk P w K mg base CX0 2 _ d_BadNumber ["self", "part"] (spField K (He.ga K "BadNumber") "part") := ok_BadNumber Z_BadNumber ⟨_, _, _, _, G_RoundError, b_RoundError, g_words, F_words.kp, G_words, b_words, T.sup⟩ hP (He.supCB_ok z_BadNumber.2.2.2.2.2) (He.errB_ok mR_ok z_BadNumber.2.1).ox (of_decide_eq_true z_BadNumber.2.2.2.1)
  have C1 : PlC K mg "BadNet" := pl "BadNet" (by decide)
  have C2 : FdC P w K mg base 5 "BadNumber" "part" := by
    have z := z_BadNumber
    exact ⟨He.glo_ok X G z.1, He.errB_ok mR_ok z.2.1, (He.initB_ok z.2.2.1).1, (He.initB_ok z.2.2.1).2, of_decide_eq_true z.2.2.2.1, of_decide_eq_true z.2.2.2.2.1, ⟨d_BadNumber, G_BadNumber.mono (by decide), b_BadNumber⟩⟩
  have G_num : FnOk P w K mg base CX0 1 _ d_is_number ["thing"] (spNum K) := ok_is_number F_is_number T
  have G_within : FnOk P w K mg base CX0 2 _ d_is_within ["thing", "low", "high"] (spWithin K) := ok_is_within F_is_within G_num g_is_number F_is_number.kp b_is_number
  have G_are : FnOk P w K mg base CX0 3 _ d_are_within ["things", "low", "high"] (spAreWithin K) := ok_are_within F_are_within T G_within g_is_within F_is_within.kp b_is_within
  have G_line : FnOk P w K mg base CX0 4 _ d_is_line_of ["thing", "most", "low", "high"] (spLineOf K) := ok_is_line_of F_is_line_of T G_are g_are_within F_are_within.kp b_are_within
  have G_unl : FnOk P w K mg base CX0 4 _ d_are_unlike ["things"] (spUnlike K) := (ok_are_unlike (k := 0) F_are_unlike T).mono (by decide)
  have G_net : FnOk P w K mg base CX0 5 _ d_is_net ["thing"] (spIsNet K) := ok_is_net F_is_net G_line g_is_line_of F_is_line_of.kp b_is_line_of G_unl g_are_unlike F_are_unlike.kp b_are_unlike m_1 m_2
  have G_chk : FnOk P w K mg base (L2.CX P w) 6 _ d_check_net ["net"] (spCheckNet K) := ok_check_net F_check_net G_net g_is_net F_is_net.kp b_is_net C1 (G_RoundError.mono (by decide)) b_RoundError
  have G_cw : FnOk P w K mg base (L2.CX P w) 7 _ d_check_window ["net", "place", "rounds"] (spCheckWin K) := ok_check_window F_check_window T G_chk g_check_net F_check_net.kp b_check_net (G_within.mono (by decide)) g_is_within F_is_within.kp b_is_within C2 m_3
  have G_around : FnOk P w K mg base CX0 7 _ d_around_ring ["line", "place", "rounds"] (spAround K) := (ok_around (k := 0) F_around_ring T).mono (by decide)
  have G_ring : FnOk P w K mg base (L2.CX P w) 8 _ d_ring_window ["net", "place", "rounds"] (spWindow K ringL) := ok_ring_window F_ring_window G_cw g_check_window F_check_window.kp b_check_window G_around g_around_ring F_around_ring.kp b_around_ring
  have G_path : FnOk P w K mg base (L2.CX P w) 8 _ d_path_window ["net", "place", "rounds"] (spWindow K pathL) := ok_path_window F_path_window T G_cw g_check_window F_check_window.kp b_check_window
  have G_begun : FnOk P w K mg base CX0 1 _ d_law_begun ["script"] (spBegun K) := ok_begun F_law_begun T
  have G_mixed : FnOk P w K mg base CX0 1 _ d_law_mixed ["draw"] spMixed := ok_mixed F_law_mixed T
  have G_take : FnOk P w K mg base CX0 2 _ d_law_take ["draw", "amount"] spTake := ok_take F_law_take T G_mixed g_law_mixed F_law_mixed.kp b_law_mixed
  have G_pick : FnOk P w K mg base CX0 3 _ d_law_pick ["draw", "some"] (spPick K) := ok_pick F_law_pick T G_take g_law_take F_law_take.kp b_law_take
  have G_lnet : FnOk P w K mg base CX0 3 _ d_law_net ["draw", "size", "most"] spLawNet := ok_net F_law_net T G_take g_law_take F_law_take.kp b_law_take
  have G_lwin : FnOk P w K mg base CX0 1 _ d_law_window ["net", "place", "rounds_here", "is_path"] (spLawWin K) := ok_win F_law_window T
  let BG : Own P w K mg base CX0 10 "_law_begun" ["script"] (spBegun K) := ⟨_, _, g_law_begun, F_law_begun.kp, G_begun.mono (by decide), b_law_begun⟩
  let TK : Own P w K mg base CX0 10 "_law_take" ["draw", "amount"] spTake := ⟨_, _, g_law_take, F_law_take.kp, G_take.mono (by decide), b_law_take⟩
  let PK8 : Own P w K mg base CX0 8 "_law_pick" ["draw", "some"] (spPick K) := ⟨_, _, g_law_pick, F_law_pick.kp, G_pick.mono (by decide), b_law_pick⟩
  let PK : Own P w K mg base CX0 10 "_law_pick" ["draw", "some"] (spPick K) := ⟨_, _, g_law_pick, F_law_pick.kp, G_pick.mono (by decide), b_law_pick⟩
  let NT : Own P w K mg base CX0 10 "_law_net" ["draw", "size", "most"] spLawNet := ⟨_, _, g_law_net, F_law_net.kp, G_lnet.mono (by decide), b_law_net⟩
  let LW : Own P w K mg base CX0 10 "_law_window" ["net", "place", "rounds_here", "is_path"] (spLawWin K) := ⟨_, _, g_law_window, F_law_window.kp, G_lwin.mono (by decide), b_law_window⟩
  let IS : Own P w K mg base CX0 10 "is_net" ["thing"] (spIsNet K) := ⟨_, d_is_net, g_is_net, F_is_net.kp, G_net.mono (by decide), b_is_net⟩
  let RW8 : Own P w K mg base (L2.CX P w) 8 "ring_window" ["net", "place", "rounds"] (spWindow K ringL) := ⟨_, d_ring_window, g_ring_window, F_ring_window.kp, G_ring, b_ring_window⟩
  let PW8 : Own P w K mg base (L2.CX P w) 8 "path_window" ["net", "place", "rounds"] (spWindow K pathL) := ⟨_, d_path_window, g_path_window, F_path_window.kp, G_path, b_path_window⟩
  let RW : Own P w K mg base (L2.CX P w) 10 "ring_window" ["net", "place", "rounds"] (spWindow K ringL) := ⟨_, d_ring_window, g_ring_window, F_ring_window.kp, G_ring.mono (by decide), b_ring_window⟩
  let PW : Own P w K mg base (L2.CX P w) 10 "path_window" ["net", "place", "rounds"] (spWindow K pathL) := ⟨_, d_path_window, g_path_window, F_path_window.kp, G_path.mono (by decide), b_path_window⟩
  let WW : ∀ b : Bool, OwnV P w K mg base (L2.CX P w) 8 ["net", "place", "rounds"] (spWindow K (winL b)) := fun b => match b with
    | false => ⟨_, d_ring_window, F_ring_window.kp, G_ring, b_ring_window⟩
    | true => ⟨_, d_path_window, F_path_window.kp, G_path, b_path_window⟩
  have kI : KBn K d_is_net ["thing"] 0 ["thing"] (fun _ ws => ws) (fun _ zs => zs) := kb0 (ks := ["thing"]) (g := fun ws => ws) (gV := fun zs => zs) F_is_net (fun _ _ _ _ _ _ ws hl => match ws, hl with | [_], _ => rfl) (fun r => r)
  have kR : KBn K d_ring_window ["net", "place", "rounds"] 0 ["rounds", "place", "net"] (fun _ ws => rev3 ws) (fun _ zs => rev3 zs) := kb0 (ks := ["rounds", "place", "net"]) (g := rev3) (gV := rev3) F_ring_window (fun _ _ _ _ _ _ ws hl => match ws, hl with | [_, _, _], _ => rfl) vals_rev3
  have kP : KBn K d_path_window ["net", "place", "rounds"] 0 ["rounds", "place", "net"] (fun _ ws => rev3 ws) (fun _ zs => rev3 zs) := kb0 (ks := ["rounds", "place", "net"]) (g := rev3) (gV := rev3) F_path_window (fun _ _ _ _ _ _ ws hl => match ws, hl with | [_, _, _], _ => rfl) vals_rev3
  obtain ⟨oc, od, dV, kV, doc, pm, an, cdv, ct, osl, rfl, lk, hcd, _, _⟩ := F_law.ex
  obtain ⟨cc, rfl⟩ := He.codeIn_ref hcd
  have ec : He.codeOf K pL = cc := He.codeOf_eq lk rfl
  have hh : PySem.W.codeHdIn K cc (He.cT K pL).2 = true := by
    have z := c.y.hd pL (by decide)
    rw [← ec]
    exact z
  obtain ⟨hb1, hb2⟩ := hB _ (List.mem_singleton.mpr rfl)
  have lm : Lm mg base (.ref cc) [((He.cT K pL).2, qLam)] := ⟨cc, _, rfl, ⟨PySem.W.codeHd_of_K KB hh, hb1, hb2⟩, rfl⟩
  refine fn_ofG lk hcd sc_law (fun vs H Q E h => ?_) (fun A outer s H vs Q E hg hr hsp => ?_)
  · obtain ⟨a, ns, rfl, _⟩ := h
    rfl
  · obtain ⟨t, h1, h2⟩ := law_body (k := 10) (E := E) (H := H) (s := s) (outer := outer) (A := A) (cdv := .ref cc) (Tb := [((He.cT K pL).2, qLam)]) T BG hr (blk0 hr TK) (blk1 hr NT PK) (blk2 hr IS kI) (blk3 (k := 8) T C1 gR lm hr IS RW8 PW8 F_law_caught g_law_caught b_law_caught)
      (blk4 T (He.sysB_ok e1) hr hg TK PK LW RW kR PW kP) (blk5 (k := 8) T C2 gR lm hr PK8 WW g_ring_window g_path_window F_law_caught g_law_caught b_law_caught) (tail_ok T hr IS RW)
    exact ⟨t, PSs.nox h1, h2 vs H Q E hsp⟩
end K04
open PySem PySem.W PySem.Calls PyProof.Rows
theorem PySem.Challenge.cw_roundwright_k04_nets_and_windows_holds : PySem.Challenge.rw_roundwright_k04_nets_and_windows.Holds := by
  w_on; o_law
  refine HandSHeadRun.head_any (r := OpenLaw.row PySem.Challenge.rw_roundwright_k04_nets_and_windows) (q := view (OpenLaw.row PySem.Challenge.rw_roundwright_k04_nets_and_windows).prog [29]) (H := K04.hk) (ob := K04.ob) (M := 20000) (loose := K04.loose1) (d := HandSHeadRun.topDef (OpenLaw.row PySem.Challenge.rw_roundwright_k04_nets_and_windows).prog 29) (kwd := []) K04.ob_eq
    (by kernel_rfl) (fun s => by kernel_rfl) K04.run (by kernel_rfl) (by kernel_rfl) (by kernel_rfl) (by rfl) (by first | assumption | decide +kernel) (by decide +kernel) ⟨rfl, rfl, rfl, rfl, rfl, by decide +kernel⟩ ?hw ?hc
  case hw => w_witness2
  case hc =>
    refine L2.walk_ofTG (l := PySem.Challenge.rw_roundwright_k04_nets_and_windows) (n := 63) (k := 11) (x := "script") (CX := L2.CX0) rfl (by decide) (by kernel_rfl) ⟨rfl, by decide, by decide⟩ ?F (fun _ _ _ _ z => z)
    intro w mg fa h Y G hmg0
    obtain ⟨K, KX, c⟩ := Y
    have hmg : mg ("law" : PySem.Str) = some (.ref fa) := by
      have e : (HandSHeadRun.topDef (OpenLaw.row PySem.Challenge.rw_roundwright_k04_nets_and_windows).prog 29).name = ("law" : PySem.Str) := by kernel_rfl
      rw [← e]
      exact hmg0
    obtain ⟨fd, hb, hF⟩ := K04.facts (P := (PySem.Challenge.rw_roundwright_k04_nets_and_windows).prog) (w := w) KX G hmg c ⟨by kernel_rfl, by kernel_rfl⟩
    have mem : K04.pL ∈ K04.tf := by decide
    refine ⟨K, [(He.cT K K04.pL).2], fd, _, KX, fun p hp => ?_, fun p hp => ?_, fun p hp => ?_, hb, fun H a ns hl _ hH hS => ⟨a, ns, rfl, hS, hl, fun p hp => ?_, fun _ => rfl⟩, hF⟩
    · rw [List.mem_singleton.mp hp]
      exact c.y.empty _ mem
    · rw [List.mem_singleton.mp hp]
      exact c.y.out _ mem
    · rw [List.mem_singleton.mp hp]
      exact ⟨_, c.y.hd _ mem⟩
    · rw [List.mem_singleton.mp hp]
      exact LamX.TabS.nil (hH _ (List.mem_singleton.mpr rfl))
#print axioms PySem.Challenge.cw_roundwright_k04_nets_and_windows_holds
