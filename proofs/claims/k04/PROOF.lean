import PyProof.Rows.All
import Wide.All
import OpenK.AllK
import Wide.FinOn
import KE.KExcIs
import HandS.ForMost
import HandS.Exc
import HandS.ExcOwn
import HandS.ExcInit
import HandS.ExcBuiltin
import HandS.IsInst
import HandS.Head0
import HandS.Head1
import HandS.Head2
import HandS.HeadEnd
import HandS.HeadHook1
import HandS.HeadHook2
import HandS.HeadHook3
import HandS.HeadHook4
import HandS.Evl
import HandS.ExcValue
import HandS.Walk
import PySem.Challenge.RW_crewlags_k04_exceptions
set_option Elab.async false
set_option linter.all false
set_option maxRecDepth 100000
set_option maxHeartbeats 4000000
namespace PySem
namespace Kw4
open PySem.W PySem.Calls PyProof.Rows PySem.HandSPX
section
variable {M : Model} {A : Around} {E : Value → Shared → Prop} {h : Heap} {g : Array GenState} {d : Drawn} {t : Nat} {os : OsState}
variable {nm q : Str} {C N : Addr} {bs tl tlB : List Value} {hdct : Bool} {sn : List Str} {sub : List Value} {ab : Bool} {col : Option Bool} {dd : Option Addr} {k0 k1 k2 k3 k5 : Option Value} {B nId iId : String}
theorem any_args (a b : String) (n : Nat) (f s1 : String) (kw : List Str) : Bind.check ⟨.any, f, s1, .cls, [⟨"args", .varPos, false⟩, ⟨"kwargs", .varKw, false⟩]⟩ a b n kw = pure () := by
  simp [Bind.check]
theorem chk_new (F : ExcBaseFacts B nId iId tlB) (hT : ∀ Z : String, tl.contains (.type Z) = tlB.contains (.type Z)) {vs : List Value} {kw : List (Str × Value)} {Q : Unit → Shared → Prop}
    (hC : h.get? C = some (excClassObj nm q C N bs tl hdct sn sub ab col dd k0 k1 k2 k3 k5 nId)) (z : Q () ⟨h, g, d, t, os⟩) :
    wpAny M A (checkBuiltinCall nId ⟨.ref C :: vs, kw⟩) Q E ⟨h, g, d, t, os⟩ := by
  have c1 : (Value.ref C :: tl).contains (.type B) = true := by
    rw [List.contains_cons, hT, F.hasB]
    exact Bool.or_true _
  have c2 := F.noStar
  simp only [checkBuiltinCall, F.newKind,
    F.newSplit, F.newRow]
  repeat (first
    | refine wpAny_loadPart_at hC ?_
    | (refine wpAny_isSubtype_exc hC ?_; rw [c1])
    | refine wpAny_staticBase_exc hC ?_
    | refine wpAny_madeBy_exc hC ?_
    | simp only [bne_self_eq_false, Bool.false_eq_true, if_false]
    | wp_step)
  exact z
theorem chk_type {M : Model} {vs : List Value} {kw : List (Str × Value)} {Q : Unit → Shared → Prop} (hC : h.get? C = some (excClassObj nm q C N bs tl hdct sn sub ab col dd k0 k1 k2 k3 k5 nId))
    (z : Q () ⟨h, g, d, t, os⟩) : wpAny M A (checkBuiltinCall "type.__call__" ⟨.ref C :: vs, kw⟩) Q E ⟨h, g, d, t, os⟩ := by
  have f3 := tc_sub
  have T0 : (⟨h, g, d, t, os⟩ : Shared).TypeIs (.ref C) "type" := ⟨_, hC, rfl⟩
  simp only [checkBuiltinCall, tc_kind, tc_split]
  repeat (any_goals (first
    | assumption
    | with_reducible refine wpAny_loadPart_at hC ?_
    | with_reducible refine wpAny_onRaise ?_
    | with_reducible refine wpAny_map ?_
    | wp_step))
end
section
variable {prog : Program} {w : World} {A : Around} {E : Value → Shared → Prop} {R : Result → Shared → Prop} {h : Heap} {g : Array GenState} {d : Drawn} {t : Nat} {os : OsState}
variable {nm q : Str} {C N : Addr} {bs tl tlB : List Value} {hdct : Bool} {sn : List Str} {sub : List Value} {ab : Bool} {col : Option Bool} {dd : Option Addr} {k0 k1 k2 k3 k5 : Option Value} {B nId iId : String}
theorem own_new (F : ExcBaseFacts B nId iId tlB) (hT : ∀ Z : String, tl.contains (.type Z) = tlB.contains (.type Z)) {vs : List Value} {kw : List (Str × Value)}
    (hC : h.get? C = some (excClassObj nm q C N bs tl hdct sn sub ab col dd k0 k1 k2 k3 k5 nId))
    (z : R (.ok (.ret (.ref (h.objs.size + 1)))) ⟨(h.push (W.kdv_tup vs)).push (excO C h.objs.size), g, d, t, os⟩) (hl : vs.length ≤ sizeLine) :
    codeAny (model prog w) A (.builtin nId ⟨.ref C :: vs, kw⟩) R ⟨h, g, d, t, os⟩ := by
  have e0 := F.ends
  have cB : (Value.ref C :: tl).contains (.type B) = true := by
    rw [List.contains_cons, hT, F.hasB]
    exact Bool.or_true _
  have cA : (Value.ref C :: tl).contains (.type "AttributeError") = false := by
    rw [List.contains_cons, hT, F.noAttr]
    rfl
  have cN : (Value.ref C :: tl).contains (.type "NameError") = false := by
    rw [List.contains_cons, hT, F.noName]
    rfl
  refine codeAny_builtinAt F.entry ?_
  unfold Builtin.«BaseException.__new__»
  refine wpAt_bind ?_
  show wpAt _ _ _ (stack >>= _) _ _ _
  refine wpAt_bind (wpAt_stack fun p1 p2 => wpAt_of_wpAny ?_)
  wp_walk
  refine wpAt_of_wpAny ?_
  rw [F.owner]
  repeat (first
    | with_reducible refine wpAny_madeHere_exc F.canon hC ?_
    | with_reducible refine wpAny_loadPart_at hC ?_
    | (with_reducible refine wpAny_isSubtype_exc hC ?_; first | rw [cB] | rw [cA] | rw [cN])
    | wp_step)
  show R _ _
  rw [Heap.size_push]
  exact z
theorem own_type (F : ExcBaseFacts B nId iId tlB) (hT : ∀ Z : String, tl.contains (.type Z) = tlB.contains (.type Z)) {vs : List Value} {kw : List (Str × Value)} {fI : Addr} {Q : Fin → Shared → Prop}
    (hC : h.get? C = some (excClassObj nm q C N bs tl hdct sn sub ab col dd k0 k1 k2 k3 k5 nId))
    (hi : W.Looks (model prog w) h (typeLookup (.ref C) "__init__") (some (.ref fI))) (hb : ∀ x, W.Looks (model prog w) h (bindSpecial (.ref fI) x) (.ref fI, [x])) (hl : vs.length ≤ sizeLine)
    (z : codeAny (model prog w) A (.call (.ref fI) ⟨.ref (h.objs.size + 1) :: vs, kw⟩)
      (fun r s' => match r with | .ok (.ret v) => v = .none ∧ Q (.done (.ret (.ref (h.objs.size + 1)))) s' | .ok _ => False | .error e => E e s')
      ⟨(h.push (W.kdv_tup vs)).push (excO C h.objs.size), g, d, t, os⟩) :
    wpAny (model prog w) A (Builtin.«type.__call__» ⟨.ref C :: vs, kw⟩) Q E ⟨h, g, d, t, os⟩ := by
  repeat (first
    | with_reducible refine wpAny_loadPart_at hC ?_
    | with_reducible refine wpAny_madeBy_exc hC ?_
    | wp_step)
  refine codeAny_call_builtin_code (Code.quiet_builtin _ F.quiet) (chk_new F hT hC ?_)
  refine own_new F hT hC ?_ hl
  show wpAny _ _ _ _ _ _
  have k : ∀ b o, h.get? b = some o → ((h.push (W.kdv_tup vs)).push (excO C h.objs.size)).get? b = some o :=
    fun b o e => Heap.get?_push_of_some _ (Heap.get?_push_of_some _ e)
  have C1 := k _ _ hC
  have e1 : ((h.push (W.kdv_tup vs)).push (excO C h.objs.size)).get? (h.objs.size + 1) = some (excO C h.objs.size) := by heap_get
  have e2 : (Value.ref C :: tl).contains (.ref C) = true := by simp
  have i1 := hi.keeps k
  have b1 := (hb (.ref (h.objs.size + 1))).keeps k
  unfold isInstance
  repeat (first
    | with_reducible refine wpAny_loadPart_at e1 ?_
    | (with_reducible refine wpAny_isSubtype_exc C1 ?_; rw [e2])
    | wp_step)
  show wpAny _ _ (typeLookup (.ref C) _) _ _ _
  refine i1.at ?_
  refine wpAny_holding (wpAny_bind (b1.at ?_))
  refine wpAny_bind (wpAny_call (codeAny_mono z fun r s' y => ?_))
  rcases r with e | (v | _ | _ | _) <;> first | exact y | exact y.elim | skip
  obtain ⟨rfl, y⟩ := y
  first
    | exact wpAny_pure (wpAny_pure y)
    | (wp_walk; exact y)
/-- an own exception class with an own __init__ called, keywords among the arguments -/
theorem own_call (F : ExcBaseFacts B nId iId tlB) (hT : ∀ Z : String, tl.contains (.type Z) = tlB.contains (.type Z)) {vs : List Value} {kw : List (Str × Value)} {fI : Addr}
    (hC : h.get? C = some (excClassObj nm q C N bs tl hdct sn sub ab col dd k0 k1 k2 k3 k5 nId))
    (hi : W.Looks (model prog w) h (typeLookup (.ref C) "__init__") (some (.ref fI))) (hb : ∀ x, W.Looks (model prog w) h (bindSpecial (.ref fI) x) (.ref fI, [x])) (hl : vs.length ≤ sizeLine)
    (z : codeAny (model prog w) (A.under (.builtin "type.__call__" ⟨.ref C :: vs, kw⟩)) (.call (.ref fI) ⟨.ref (h.objs.size + 1) :: vs, kw⟩) (W.InitBack (h.objs.size + 1) R)
      ⟨(h.push (W.kdv_tup vs)).push (excO C h.objs.size), g, d, t, os⟩) :
    codeAny (model prog w) A (.call (.ref C) ⟨vs, kw⟩) R ⟨h, g, d, t, os⟩ := by
  have f1 := tc_lookup
  have f2 := tc_bind (.ref C)
  have T0 : (⟨h, g, d, t, os⟩ : Shared).TypeIs (.ref C) "type" := ⟨_, hC, rfl⟩
  refine codeAny_of_tree ?_
  show wpAny _ _ (callAny (.ref C) _) _ _ _
  repeat (any_goals (first
    | assumption
    | with_reducible refine wpAny_loadPart_at hC ?_
    | wp_step))
  refine ⟨rfl, ?_⟩
  refine codeAny_call_builtin_at (Code.quiet_builtin _ (by decide +kernel)) entry_typeCall
    (chk_type hC (own_type F hT hC hi hb hl ?_))
  refine codeAny_mono z fun r s' y => ?_
  rcases r with e | (v | _ | _ | _) <;> exact y
end
end Kw4
end PySem


set_option Elab.async false
set_option autoImplicit false
set_option linter.all false
set_option maxRecDepth 100000
set_option maxHeartbeats 4000000
namespace K4
open PySem PySem.Spec PyProof.Rows L2 Evl
/-! ### an exception of an own class, as a value -/
def ExAt (H : Hp) (a C : Addr) (fs : List (Str × V)) : Prop := ∃ d, H a = some (exo a C (some d)) ∧ H d = some (exd d fs)
theorem ExAt.up {H H' : Hp} {a C : Addr} {fs : List (Str × V)} (s : Ex H H') : ExAt H a C fs → ExAt H' a C fs := fun ⟨d, h1, h2⟩ => ⟨d, s _ _ h1, s _ _ h2⟩
section
variable {X : Cx} {pins : List (Addr × Obj)} {σ : L2.St} {H : Hp} {s : Shared} {Q : VK} {C fI : Addr} {k : Nat} {fd : FuncData} {ps : List Str} {sp : Sp} {us us' : List Value} {kw : List (Str × Value)} {ys : List V}
theorem run_exv (T : OexC X.K C) (iC : PySem.W.findIn X.K (.ref C) "__init__" = some (some (.ref fI))) (tI : PySem.W.typeIn X.K (.ref fI) = some (.type "function"))
    (G : FnOk X.prog X.w X.K X.mg X.base CX0 k fI fd ps sp) (hr : Room (k + 1) X.A)
    (hb : ∀ (s : Shared) (a : Addr), BindsTo s fd ⟨.ref a :: us, kw⟩ (ps.zip (.ref a :: us'))) (hl : us.length ≤ sizeLine)
    (I : Inv X pins σ H s) (r : Vals ys us')
    (h : ∀ a, H a = none → sp (.ref a :: ys) (upd H a (exo a C none)) (fun v H2 => v = .non ∧ Q (.ref a) H2) E0) :
    wpAny (model X.prog X.w) X.A (call (.ref C) us kw) (EP X pins σ Q) X.xe s := by
  obtain ⟨nm, q, N, bs, bm, sn, sub, ab, col, dd, k0, k1, k2, k3, k5, hC, hbm⟩ := T.cls
  obtain ⟨hp, g, dr, tk, os⟩ := s
  have sz1 : hp.objs.size ≤ hp.objs.size + 1 := Nat.le_succ _
  have n1 : H (hp.objs.size + 1) = none := I.hok.fresh sz1
  have q1 := h (hp.objs.size + 1) n1
  have kk : ∀ b o, hp.get? b = some o → ((hp.push (PySem.W.kdv_tup us)).push (PySem.HandSPX.excO C hp.objs.size)).get? b = some o :=
    fun b o e => Heap.get?_push_of_some _ (Heap.get?_push_of_some _ e)
  have g1 : ((hp.push (PySem.W.kdv_tup us)).push (PySem.HandSPX.excO C hp.objs.size)).get? (hp.objs.size + 1) = some (PySem.HandSPX.excO C hp.objs.size) := by heap_get
  have J : Inv X pins σ (upd H (hp.objs.size + 1) (exo (hp.objs.size + 1) C none)) ⟨(hp.push (PySem.W.kdv_tup us)).push (PySem.HandSPX.excO C hp.objs.size), g, dr, tk, os⟩ :=
    I.laid (t' := tk) kk sz1 (exo_ok g1)
  have r2 : Vals (V.ref (hp.objs.size + 1) :: ys) (Value.ref (hp.objs.size + 1) :: us') := .cons rfl r
  refine wpAny_call (Kw4.own_call F.excBase_ValueError (fun Y => PySem.HandSPX.refsVE_contains Y bm hbm) (I.kIn _ _ hC)
    (PySem.W.looks_findIn I.kIn iC) (fun x => PySem.W.bind_fn I.kIn x tI) hl ?_)
  refine codeAny_mono (G.run _ X.stack _ _ ⟨Value.ref (hp.objs.size + 1) :: us, kw⟩ (Value.ref (hp.objs.size + 1) :: us') _ _ E0 (hr.make C us kw)
    (J.env0.make C us kw) (hb _ _) r2 q1) fun r s' y => ?_
  cases r with
  | error er => exact False.elim y
  | ok fl =>
    cases fl with
    | ret u =>
      obtain ⟨v, H', I3, rv, ev, q3⟩ := J.after y
      subst ev
      exact ⟨rv, ⟨V.ref (hp.objs.size + 1), H', I3, rfl, q3⟩⟩
    | next => exact False.elim y
    | brk => exact False.elim y
    | cont => exact False.elim y
end
/-! ### classes with one field, with two: what their __init__ promises -/
def spI1 (K : PySem.W.Frag) (f : Str) : Sp := fun vs H Q _ => ∃ (a C : Addr) (v : V), vs = [.ref a, v] ∧ H a = some (exo a C none) ∧ OexC K C ∧ PySem.W.findIn K (.ref C) f = some none ∧
  ∀ d, H d = none → d ≠ a → Q .non (upd (upd H d (exd d [(f, v)])) a (exo a C (some d)))
def spI2 (K : PySem.W.Frag) (f g : Str) : Sp := fun vs H Q _ => ∃ (a C : Addr) (v z : V), vs = [.ref a, v, z] ∧ H a = some (exo a C none) ∧ OexC K C ∧ PySem.W.findIn K (.ref C) f = some none ∧ PySem.W.findIn K (.ref C) g = some none ∧
  ∀ d H', H d = none → d ≠ a → H' a = some (exo a C (some d)) → H' d = some (exd d [(g, z), (f, v)]) → (∀ b, b ≠ a → b ≠ d → H' b = H b) → Q .non H'
/-- what the written part says of such a class -/
structure XC (K : PySem.W.Frag) (mg : Str → Option Value) (x : Str) (C : Addr) : Prop where
  oc : OexC K C
  gC : mg x = some (.ref C)
  ga : PySem.W.findIn K (.ref C) "__getattribute__" = some (some (.builtin "BaseException.__getattribute__"))
  gg : PySem.W.findIn K (.ref C) "__getattr__" = some none
  hd : PySem.W.hasDictIn K C = true
  ci : (PySem.W.clsIn K C).isSome = true
  ha : PySem.W.findIn K (.ref C) "__class__" = some (some (.builtin "object.__class__"))
  hn : PySem.W.specialIn K (.builtin "object.__class__") "__get__" = some (some (.builtin "getset_descriptor.__get__"))
  ht : PySem.W.takesIn K (.builtin "object.__class__") = some true
  hm : PySem.W.mroIn K C (.type "object") = some true
structure X1 (P : Program) (w : World) (K : PySem.W.Frag) (mg : Str → Option Value) (base : Heap) (x f : Str) (C : Addr) : Prop where
  xc : XC K mg x C
  nf : PySem.W.findIn K (.ref C) f = some none
  mkr : ∃ (fI : Addr) (fd : FuncData), PySem.W.findIn K (.ref C) "__init__" = some (some (.ref fI)) ∧ PySem.W.typeIn K (.ref fI) = some (.type "function") ∧
    FnOk P w K mg base CX0 1 fI fd ["self", f] (spI1 K f) ∧ (∀ (s : Shared) (a : Addr) (u : Value), BindsTo s fd ⟨[.ref a, u], []⟩ ((["self", f] : List Str).zip [.ref a, u])) ∧
    (∀ (s : Shared) (a : Addr) (u : Value), BindsTo s fd ⟨[.ref a], [(f, u)]⟩ ((["self", f] : List Str).zip [.ref a, u]))
structure X2 (P : Program) (w : World) (K : PySem.W.Frag) (mg : Str → Option Value) (base : Heap) (x f g : Str) (C : Addr) : Prop where
  xc : XC K mg x C
  nf : PySem.W.findIn K (.ref C) f = some none
  ng : PySem.W.findIn K (.ref C) g = some none
  mkr : ∃ (fI : Addr) (fd : FuncData), PySem.W.findIn K (.ref C) "__init__" = some (some (.ref fI)) ∧ PySem.W.typeIn K (.ref fI) = some (.type "function") ∧
    FnOk P w K mg base CX0 1 fI fd ["self", f, g] (spI2 K f g) ∧ (∀ (s : Shared) (a : Addr) (u v : Value), BindsTo s fd ⟨[.ref a, u, v], []⟩ ((["self", f, g] : List Str).zip [.ref a, u, v])) ∧
    (∀ (s : Shared) (a : Addr) (u v : Value), BindsTo s fd ⟨[.ref a], [(g, v), (f, u)]⟩ ((["self", f, g] : List Str).zip [.ref a, u, v]))
def tX1 (C : Addr) (f : Str) (te : TE) : TE := fun σ H Q => te σ H fun v H1 => ∀ a H2, H1 a = none → Ex H1 H2 → ExAt H2 a C [(f, v)] → Q (.ref a) H2
def tX2 (C : Addr) (f g : Str) (te tu : TE) : TE := fun σ H Q => te σ H fun v H1 => tu σ H1 fun z H2 => ∀ a H3, H2 a = none → Ex H2 H3 → ExAt H3 a C [(g, z), (f, v)] → Q (.ref a) H3
def tX2k (C : Addr) (f g : Str) (te tu : TE) : TE := fun σ H Q => tu σ H fun z H1 => te σ H1 fun v H2 => ∀ a H3, H2 a = none → Ex H2 H3 → ExAt H3 a C [(g, z), (f, v)] → Q (.ref a) H3
section
variable {X : Cx} {x f g : Str} {C : Addr} {e e1 e2 : Expr} {te tu : TE} {p pos q1 q2 : Pos}
theorem one_end {H : Hp} {Q : VK} {v : V} (h : ∀ a H2, H a = none → Ex H H2 → ExAt H2 a C [(f, v)] → Q (.ref a) H2) (B : OexC X.K C) (nf : PySem.W.findIn X.K (.ref C) f = some none) (a : Addr) (na : H a = none) :
    spI1 X.K f [.ref a, v] (upd H a (exo a C none)) (fun v H2 => v = .non ∧ Q (.ref a) H2) E0 := by
  refine ⟨a, C, v, rfl, upd_same, B, nf, fun d nd ne => ⟨rfl, ?_⟩⟩
  rw [upd_ne ne] at nd
  refine h a _ na (fun b o hb => ?_) ⟨d, upd_same, ?_⟩
  · rw [upd_ne (ne_of_none hb na), upd_ne (ne_of_none hb nd), upd_ne (ne_of_none hb na)]
    exact hb
  · rw [upd_ne ne, upd_same]
theorem two_end {H : Hp} {Q : VK} {v z : V} (h : ∀ a H2, H a = none → Ex H H2 → ExAt H2 a C [(g, z), (f, v)] → Q (.ref a) H2) (B : OexC X.K C) (nf : PySem.W.findIn X.K (.ref C) f = some none) (ng : PySem.W.findIn X.K (.ref C) g = some none) (a : Addr) (na : H a = none) :
    spI2 X.K f g [.ref a, v, z] (upd H a (exo a C none)) (fun v H2 => v = .non ∧ Q (.ref a) H2) E0 := by
  refine ⟨a, C, v, z, rfl, upd_same, B, nf, ng, fun d H' nd ne h1 h2 h3 => ⟨rfl, ?_⟩⟩
  rw [upd_ne ne] at nd
  refine h a _ na (fun b o hb => ?_) ⟨d, h1, h2⟩
  rw [h3 b (ne_of_none hb na) (ne_of_none hb nd), upd_ne (ne_of_none hb na)]
  exact hb
def on1 (k : V → Hp → Prop) : List V → Hp → Prop := fun vs H => match vs with
  | [v] => k v H
  | _ => False
def on2 (k : V → V → Hp → Prop) : List V → Hp → Prop := fun vs H => match vs with
  | [v, z] => k v z H
  | _ => False
theorem on1_of {k : V → Hp → Prop} {vs : List V} {H : Hp} (h : on1 k vs H) : ∃ v, vs = [v] ∧ k v H := by
  match vs, h with
  | [v], h => exact ⟨v, rfl, h⟩
theorem on2_of {k : V → V → Hp → Prop} {vs : List V} {H : Hp} (h : on2 k vs H) : ∃ v z, vs = [v, z] ∧ k v z H := by
  match vs, h with
  | [v, z], h => exact ⟨v, z, rfl, h⟩
theorem vals_1 {v : V} {us : List Value} (r : Vals [v] us) : ∃ u, us = [u] ∧ RelV v u := by
  cases r with
  | cons h t =>
    cases t
    exact ⟨_, rfl, h⟩
theorem vals_2 {v z : V} {us : List Value} (r : Vals [v, z] us) : ∃ u y, us = [u, y] ∧ RelV v u ∧ RelV z y := by
  cases r with
  | cons h t =>
    obtain ⟨y, rfl, h2⟩ := vals_1 t
    exact ⟨_, y, rfl, h, h2⟩
theorem few {n : Nat} (h : n ≤ 1000) : n ≤ sizeLine := Nat.le_of_lt (small1000 h)
theorem pe_x1 (B : X1 X.prog X.w X.K X.mg X.base x f C) (hr : Room 2 X.A) (ha : PA X [e] (tCons te tNil)) (hg : Gl X x := by rfl) (hx : (x == ("__debug__" : Str)) = false := by decide)
    (hs : starEach [e] X.env = (false, eval e X.env) :: starEach [] X.env := by rfl) (hp : (backTo pos (starEach [] X.env)).any (·.1) = false := by rfl) : PE X (.Call (.Name x p) [e] [] pos) (tX1 C f te) := by
  obtain ⟨fI, fd, i1, i2, G, b1, b2⟩ := B.mkr
  refine ⟨fun pins s σ H Q I h => ?_⟩
  refine wpAny_Call_Name_kw (ld_glob I hg B.xc.gC ?_ hx)
  refine PySem.W.callWith_K (h₀ := X.base) I.ok.mod.kin B.xc.oc.kC (thn (ha.run pos pins s σ H (on1 fun v H1 => ∀ a H2, H1 a = none → Ex H1 H2 → ExAt H2 a C [(f, v)] → Q (.ref a) H2) I h) fun us s1 h1 => ?_) hs hp
  obtain ⟨vs, H1, I1, r1, hv⟩ := h1
  obtain ⟨v, rfl, k⟩ := on1_of hv
  obtain ⟨u, rfl, ru⟩ := vals_1 r1
  refine ⟨I1.kIn, ?_⟩
  exact run_exv (us := [u]) (us' := [u]) (kw := []) (ys := [v]) B.xc.oc i1 i2 G hr (fun s a => b1 s a u) (few (by show 1 ≤ 1000; decide)) I1 r1 (one_end k B.xc.oc B.nf)
theorem pe_x2 (B : X2 X.prog X.w X.K X.mg X.base x f g C) (hr : Room 2 X.A) (ha : PA X [e1, e2] (tCons te (tCons tu tNil))) (hg : Gl X x := by rfl) (hx : (x == ("__debug__" : Str)) = false := by decide)
    (hs : starEach [e1, e2] X.env = (false, eval e1 X.env) :: starEach [e2] X.env := by rfl) (hp : (backTo pos (starEach [e2] X.env)).any (·.1) = false := by rfl) : PE X (.Call (.Name x p) [e1, e2] [] pos) (tX2 C f g te tu) := by
  obtain ⟨fI, fd, i1, i2, G, b1, b2⟩ := B.mkr
  refine ⟨fun pins s σ H Q I h => ?_⟩
  refine wpAny_Call_Name_kw (ld_glob I hg B.xc.gC ?_ hx)
  refine PySem.W.callWith_K (h₀ := X.base) I.ok.mod.kin B.xc.oc.kC (thn (ha.run pos pins s σ H (on2 fun v z H2 => ∀ a H3, H2 a = none → Ex H2 H3 → ExAt H3 a C [(g, z), (f, v)] → Q (.ref a) H3) I h) fun us s1 h1 => ?_) hs hp
  obtain ⟨vs, H1, I1, r1, hv⟩ := h1
  obtain ⟨v, z, rfl, k⟩ := on2_of hv
  obtain ⟨u, y, rfl, ru, ry⟩ := vals_2 r1
  refine ⟨I1.kIn, ?_⟩
  exact run_exv (us := [u, y]) (us' := [u, y]) (kw := []) (ys := [v, z]) B.xc.oc i1 i2 G hr (fun s a => b1 s a u y) (few (by show 2 ≤ 1000; decide)) I1 r1 (two_end k B.xc.oc B.nf B.ng)
theorem pe_x1k {kws : List Keyword} (B : X1 X.prog X.w X.K X.mg X.base x f C) (hr : Room 2 X.A) (ha : PK X kws (tCons te tNil)) (hg : Gl X x := by rfl)
    (hall : (backToKw pos (keywordEach kws X.env)).all (·.1.isSome) = true := by rfl) (hks : (backToKw pos (keywordEach kws X.env)).filterMap (·.1) = [f] := by rfl) (hx : (x == ("__debug__" : Str)) = false := by decide)
    (hp : ((backTo pos (starEach [] X.env)).any (·.1) || (backToKw pos (keywordEach kws X.env)).any (·.1.isNone)) = false := by rfl) : PE X (.Call (.Name x p) [] kws pos) (tX1 C f te) := by
  obtain ⟨fI, fd, i1, i2, G, b1, b2⟩ := B.mkr
  refine ⟨fun pins s σ H Q I h => ?_⟩
  refine wpAny_Call_Name_kw (ld_glob I hg B.xc.gC ?_ hx)
  refine PySem.W.callWith_KW0 (h₀ := X.base) I.ok.mod.kin B.xc.oc.kC hall ?_ hp
  refine thn (ha.run pos pins s σ H (on1 fun v H1 => ∀ a H2, H1 a = none → Ex H1 H2 → ExAt H2 a C [(f, v)] → Q (.ref a) H2) I h) fun us s1 h1 => ?_
  obtain ⟨vs, H1, I1, r1, hv⟩ := h1
  obtain ⟨v, rfl, k⟩ := on1_of hv
  obtain ⟨u, rfl, ru⟩ := vals_1 r1
  refine ⟨I1.kIn, ?_⟩
  rw [hks]
  exact run_exv (us := []) (us' := [u]) (kw := [(f, u)]) (ys := [v]) B.xc.oc i1 i2 G hr (fun s a => b2 s a u) (Nat.zero_le _) I1 r1 (one_end k B.xc.oc B.nf)
theorem pe_x2k {kws : List Keyword} (B : X2 X.prog X.w X.K X.mg X.base x f g C) (hr : Room 2 X.A) (ha : PK X kws (tCons tu (tCons te tNil))) (hg : Gl X x := by rfl)
    (hall : (backToKw pos (keywordEach kws X.env)).all (·.1.isSome) = true := by rfl) (hks : (backToKw pos (keywordEach kws X.env)).filterMap (·.1) = [g, f] := by rfl) (hx : (x == ("__debug__" : Str)) = false := by decide)
    (hp : ((backTo pos (starEach [] X.env)).any (·.1) || (backToKw pos (keywordEach kws X.env)).any (·.1.isNone)) = false := by rfl) : PE X (.Call (.Name x p) [] kws pos) (tX2k C f g te tu) := by
  obtain ⟨fI, fd, i1, i2, G, b1, b2⟩ := B.mkr
  refine ⟨fun pins s σ H Q I h => ?_⟩
  refine wpAny_Call_Name_kw (ld_glob I hg B.xc.gC ?_ hx)
  refine PySem.W.callWith_KW0 (h₀ := X.base) I.ok.mod.kin B.xc.oc.kC hall ?_ hp
  refine thn (ha.run pos pins s σ H (on2 fun z v H2 => ∀ a H3, H2 a = none → Ex H2 H3 → ExAt H3 a C [(g, z), (f, v)] → Q (.ref a) H3) I h) fun us s1 h1 => ?_
  obtain ⟨vs, H1, I1, r1, hv⟩ := h1
  obtain ⟨z, v, rfl, k⟩ := on2_of hv
  obtain ⟨y, u, rfl, ry, ru⟩ := vals_2 r1
  refine ⟨I1.kIn, ?_⟩
  rw [hks]
  exact run_exv (us := []) (us' := [u, y]) (kw := [(g, y), (f, u)]) (ys := [v, z]) B.xc.oc i1 i2 G hr (fun s a => b2 s a u y) (Nat.zero_le _) I1 (.cons ru (.cons ry .nil)) (two_end k B.xc.oc B.nf B.ng)
/-- e.f, e such an exception -/
def tXat (K : PySem.W.Frag) (mg : Str → Option Value) (f : Str) (te : TE) : TE := fun σ H Q => te σ H fun x H1 => ∃ (a C : Addr) (y : Str) (fs : List (Str × V)) (v : V), x = .ref a ∧ XC K mg y C ∧ PySem.W.findIn K (.ref C) f = some none ∧ ExAt H1 a C fs ∧ fs.lookup f = some v ∧ Q v H1
theorem ex_inst {H : Hp} {h : Heap} {P : Program} {w : World} {a : Addr} {fs : List (Str × V)} (hok : HOk P w H h) (e : ExAt H a C fs) :
    ∃ (ox od : Obj), PySem.W.InstAt h a ox C (some od) ∧ ∀ f v, fs.lookup f = some v → ∃ u, RelV v u ∧ PySem.W.lookIn f od = some (some u) := by
  obtain ⟨d, e1, e2⟩ := e
  obtain ⟨t1, g1⟩ := exo_at hok e1
  obtain ⟨mA, hns, hr⟩ := exd_at hok e2
  obtain ⟨od, ho, hl⟩ := lookIn_ns hns
  refine ⟨_, od, ⟨g1, rfl, rfl, ho⟩, fun f v hv => ?_⟩
  obtain ⟨u, hu, ru⟩ := RelO.some_of (v := v) (o := mA f) (by rw [← hv]; exact hr f)
  exact ⟨u, ru, by rw [hl, hu]⟩
theorem pe_xat (he : PE X e te) (hb : attributeBase e f X.env (eval e X.env) = eval e X.env := by rfl) : PE X (.Attribute e f pos) (tXat X.K X.mg f te) := by
  refine ⟨fun pins s σ H Q I h => ?_⟩
  refine attr_of hb (thn (he.run pins s σ H _ I h) fun u s1 hh => ?_)
  obtain ⟨z, H1, I1, rz, a, C, y, fs, v, rfl, B, nf, ea, el, q⟩ := hh
  obtain rfl : u = Value.ref a := rz
  obtain ⟨ox, od, J, hl⟩ := ex_inst I1.hok ea
  obtain ⟨u, ru, hu⟩ := hl f v el
  exact HandSPX.exc_get I1.kIn J B.ga B.gg B.oc.exC (PySem.W.findObj_own B.hd nf rfl hu) (handed_of ru) ⟨v, H1, I1.tok _, ru, q⟩
/-- isinstance(e, c), e such an exception -/
def rXis (K : PySem.W.Frag) (mg : Str → Option Value) : List V → Hp → VK → Prop := fun xs H Q => ∃ (a C : Addr) (y : Str) (fs : List (Str × V)) (c : V) (u : Value) (b : Bool), xs = [.ref a, c] ∧ ClsV c u ∧ XC K mg y C ∧ ExAt H a C fs ∧ PySem.W.kitOne K (.ref C) u = some b ∧ Q (.bl b) H
theorem call_xis : CallR X (.builtin "isinstance") (rXis X.K X.mg) := by
  intro pins s σ H xs us Q I r h
  obtain ⟨a, C, y, fs, c, u, b, rfl, k, B, ea, e, q⟩ := h
  obtain ⟨u1, u2, rfl, r1, r2⟩ := vals2 r
  have e2 := k.eq r2
  subst e2
  obtain rfl : u1 = Value.ref a := r1
  obtain ⟨ox, od, J, _⟩ := ex_inst I.hok ea
  exact PySem.W.kia_one (PySem.W.kitx_exc B.ci B.ga B.gg B.oc.exC B.ha B.hn B.ht B.hm) I.kIn J e (fun z => nomatch z) fun tk => ⟨.bl b, H, I.tok tk, rfl, q⟩
/-- a ValueError as a value -/
def vex (a : Addr) : HO := .ext fun h => ∃ o : Obj, h.get? a = some o ∧ o.cls = .type "ValueError"
theorem vex_ok {P : Program} {w : World} {H : Hp} {h : Heap} {a : Addr} {o : Obj} (e : h.get? a = some o) (c : o.cls = .type "ValueError") : ObjOk P w H h a (vex a) :=
  ⟨⟨o, e, c⟩, ⟨o, e⟩, fun _ _ ⟨o, q, c⟩ k => ⟨o, k o q, c⟩⟩
theorem vex_at {P : Program} {w : World} {H : Hp} {h : Heap} {a : Addr} (hok : HOk P w H h) (e : H a = some (vex a)) : ∃ o : Obj, h.get? a = some o ∧ o.cls = .type "ValueError" := by
  have x : ObjOk P w H h a (.ext fun h => ∃ o : Obj, h.get? a = some o ∧ o.cls = .type "ValueError") := hok a _ e
  exact x.1
theorem pe_ve {m : Str} {j : Nat} (hm : X.mg "ValueError" = none) (hg : Gl X "ValueError" := by rfl)
    (hs : starEach [.Constant (.str m) j q1] X.env = (false, eval (.Constant (.str m) j q1) X.env) :: starEach [] X.env := by rfl) (hp : (backTo pos (starEach [] X.env)).any (·.1) = false := by rfl) :
    PE X (.Call (.Name "ValueError" p) [.Constant (.str m) j q1] [] pos) (fun _ H Q => ∀ a, H a = none → Q (.ref a) (upd H a (vex a))) := by
  refine ⟨fun pins s σ H Q I h => ?_⟩
  refine wpAny_Call_Name_kw (ld_blt I hg hm boot_ValueError ?_)
  refine PyProof.Rows.callWith_type1 (thn ((pa_cons pe_str pa_nil).run pos pins s σ H (on1 fun _ H1 => ∀ a, H1 a = none → Q (.ref a) (upd H1 a (vex a))) I h) fun us s1 hh => ?_) hs hp
  obtain ⟨vs, H1, I1, r1, q0⟩ := hh
  obtain ⟨v, rfl, k⟩ := on1_of q0
  obtain ⟨hp1, g1, d1, tk1, os1⟩ := s1
  refine wpAny_call_exc exb_ValueError.call (fun h' a mk => ?_) (by rw [← r1.length]; exact few (by show 1 ≤ 1000; decide))
  obtain ⟨t, e1, e2, e3⟩ := mk.there
  have na : H1 a = none := I1.hok.gone mk.new
  exact ⟨.ref a, _, I1.laidN (t' := tk1) mk.keeps mk.new na (vex_ok e1 rfl), rfl, k a na⟩
def rVis (K : PySem.W.Frag) : List V → Hp → VK → Prop := fun xs H Q => ∃ (a : Addr) (c : V) (u : Value) (b : Bool), xs = [.ref a, c] ∧ ClsV c u ∧ H a = some (vex a) ∧ PySem.W.kitOne K (.type "ValueError") u = some b ∧ Q (.bl b) H
theorem call_vis : CallR X (.builtin "isinstance") (rVis X.K) := by
  intro pins s σ H xs us Q I r h
  obtain ⟨a, c, u, b, rfl, k, ea, e, q⟩ := h
  obtain ⟨u1, u2, rfl, r1, r2⟩ := vals2 r
  have e2 := k.eq r2
  subst e2
  obtain rfl : u1 = Value.ref a := r1
  obtain ⟨o, g1, c1⟩ := vex_at I.hok ea
  exact PySem.W.kia_one (PySem.W.kitx_bexc (T := "ValueError") PySem.F.excAttr_ValueError (by kernel_rfl) (by kernel_rfl) (by kernel_rfl)) I.kIn ⟨o, g1, c1⟩ e (fun z => nomatch z) fun tk => ⟨.bl b, H, I.tok tk, rfl, q⟩
end
end K4


set_option Elab.async false
set_option autoImplicit false
set_option linter.all false
set_option maxRecDepth 100000
set_option maxHeartbeats 0
namespace K4
open PySem PySem.Spec PyProof.Rows L2 Evl He
def top (i : Nat) : Stmt := PySem.Challenge.pw_crewlags_k04_exceptions.main.body.getD i (.Pass ⟨0, 0, 0, 0⟩)
abbrev sI (i : Nat) : Stmt := inClass (top i) 0
abbrev FnP (K : PySem.W.Frag) (x : Str) (st : Stmt) (f : Addr) (fd : FuncData) : Prop := FunD K x x (defArgs st) (defBody st) (defScope st) [] [] f fd
/-! ### what is asked of a class -/
def clB (K : PySem.W.Frag) (C : Addr) : Bool := match K.lookup C with
  | some ⟨c, _, .cls cd, sl⟩ => decide (c = .type "type") && (match cd.mro, sl.toList with
    | .ref D :: tl, [_, _, _, _, some (.builtin n), _] => decide (D = C) && (decide (n = "ValueError.__new__") && (!cd.hasDel && (cd.hasDict && PySem.HandSPX.refsVE tl)))
    | _, _ => false)
  | _ => false
theorem clB_ok {K : PySem.W.Frag} {C : Addr} (h : clB K C = true) : ∃ nm q N bs bm sn sub ab col dd k0 k1 k2 k3 k5, K.lookup C = some (excClassObj nm q C N bs bm true sn sub ab col dd k0 k1 k2 k3 k5 "ValueError.__new__") ∧ PySem.HandSPX.refsVE bm = true := by
  unfold clB at h
  split at h
  · rename_i c dd cd sl ho
    obtain ⟨h0, h⟩ := ba h
    have g0 : c = Value.type "type" := of_decide_eq_true h0
    split at h
    · rename_i D tl k0 k1 k2 k3 n k5 hm hs
      obtain ⟨h1, h⟩ := ba h
      obtain ⟨h2, h⟩ := ba h
      obtain ⟨h3, h⟩ := ba h
      obtain ⟨h4, h5⟩ := ba h
      have g1 : D = C := of_decide_eq_true h1
      have g2 : n = "ValueError.__new__" := of_decide_eq_true h2
      subst g1
      subst g2
      subst g0
      obtain ⟨nm, bs, mro, ns, qn, hd, sn, sub, ab, col, del⟩ := cd
      dsimp only at hm h3 h4
      subst hm h4
      have h6 : del = false := by
        cases del with
        | true => cases h3
        | false => rfl
      subst h6
      have h7 : sl = #[k0, k1, k2, k3, some (.builtin "ValueError.__new__"), k5] := by
        obtain ⟨l⟩ := sl
        simp only at hs
        rw [hs]
      subst h7
      exact ⟨nm, qn, ns, bs, tl, sn, sub, ab, col, dd, k0, k1, k2, k3, k5, ho, h5⟩
    · cases h
  · cases h
def xB (K : PySem.W.Frag) (x : Str) (fs : List Str) : Bool :=
  eqO (PySem.W.nsIn K mainGlobals x) (some (some (.ref (ga K x)))) && (clB K (ga K x) && (eqO (PySem.W.findIn K (.ref (ga K x)) "__setattr__") (some (some (.builtin "object.__setattr__"))) &&
  (decide (PySem.W.subIn K (.ref (ga K x)) (.type "BaseException") = some true) && (decide (PySem.W.typeIn K (.ref (ga K x)) = some (.type "type")) && (PySem.W.keepIn K (.ref (ga K x)) &&
  (eqO (PySem.W.findIn K (.ref (ga K x)) "__getattribute__") (some (some (.builtin "BaseException.__getattribute__"))) && (eqO (PySem.W.findIn K (.ref (ga K x)) "__getattr__") (some none) &&
  (PySem.W.hasDictIn K (ga K x) && ((PySem.W.clsIn K (ga K x)).isSome && (eqO (PySem.W.findIn K (.ref (ga K x)) "__class__") (some (some (.builtin "object.__class__"))) &&
  (eqO (PySem.W.specialIn K (.builtin "object.__class__") "__get__") (some (some (.builtin "getset_descriptor.__get__"))) && (decide (PySem.W.takesIn K (.builtin "object.__class__") = some true) &&
  (decide (PySem.W.mroIn K (ga K x) (.type "object") = some true) && (eqO (PySem.W.findIn K (.ref (ga K x)) "__init__") (some (some (.ref (ma K (ga K x) "__init__")))) &&
  (decide (PySem.W.typeIn K (.ref (ma K (ga K x) "__init__")) = some (.type "function")) && fs.all fun f => eqO (PySem.W.findIn K (.ref (ga K x)) f) (some none))))))))))))))))
structure XF (K : PySem.W.Frag) (mg : Str → Option Value) (x : Str) (fs : List Str) : Prop where
  xc : XC K mg x (ga K x)
  ini : PySem.W.findIn K (.ref (ga K x)) "__init__" = some (some (.ref (ma K (ga K x) "__init__")))
  tyI : PySem.W.typeIn K (.ref (ma K (ga K x) "__init__")) = some (.type "function")
  nof : ∀ f ∈ fs, PySem.W.findIn K (.ref (ga K x)) f = some none
theorem xB_ok {K : PySem.W.Frag} {h : Heap} {mg : Str → Option Value} {x : Str} {fs : List Str} (X : K.In h) (G : h.Ns mainGlobals mg) (c : xB K x fs = true) : XF K mg x fs := by
  obtain ⟨c1, c⟩ := ba c
  obtain ⟨c2, c⟩ := ba c
  obtain ⟨c3, c⟩ := ba c
  obtain ⟨c4, c⟩ := ba c
  obtain ⟨c5, c⟩ := ba c
  obtain ⟨c6, c⟩ := ba c
  obtain ⟨c7, c⟩ := ba c
  obtain ⟨c8, c⟩ := ba c
  obtain ⟨c9, c⟩ := ba c
  obtain ⟨c10, c⟩ := ba c
  obtain ⟨c11, c⟩ := ba c
  obtain ⟨c12, c⟩ := ba c
  obtain ⟨c13, c⟩ := ba c
  obtain ⟨c14, c⟩ := ba c
  obtain ⟨c15, c⟩ := ba c
  obtain ⟨c16, c17⟩ := ba c
  exact ⟨⟨⟨clB_ok c2, eqO_ok c3, of_decide_eq_true c4, of_decide_eq_true c5, c6⟩, PySem.W.mg_of X G (eqO_ok c1), eqO_ok c7, eqO_ok c8, c9, c10, eqO_ok c11, eqO_ok c12, of_decide_eq_true c13, of_decide_eq_true c14⟩,
    eqO_ok c15, of_decide_eq_true c16, fun f hf => eqO_ok (List.all_eq_true.mp c17 f hf)⟩
/-! ### the text -/
def cls : List (Str × List Str) := [("NoNumber", ["part"]), ("NoShape", ["part", "index"]), ("NoSet", ["some"]), ("NoDurations", ["index"]), ("NoWeights", ["index"]), ("NoBound", ["part", "index"]), ("NoPairs", ["index"]), ("NoOrder", ["index"]), ("NoGraph", ["index"]), ("NoStarts", ["index"]), ("NoSchedule", ["fault"]), ("NoActivity", ["one"]), ("NoText", ["line"]), ("NoChange", ["word"]), ("NoCalendar", ["part", "index"]), ("NoProject", ["part", "index"]), ("NoChoice", ["index"]), ("NoAhead", ["index"]), ("NoDerivation", ["part", "index"]), ("NoPlan", ["fault"]), ("NoRota", ["part", "index"]), ("NoMix", ["index"]), ("NoBlind", ["part", "index"]), ("NoFixed", ["index"]), ("NotBeside", ["part"]), ("NoBox", ["index"]), ("TooGreat", ["most"])]
def nms : List Str := cls.map (·.1)
def kB (K : PySem.W.Frag) : Bool := ((List.range 27).all fun i => (List.range 27).all fun j => decide (PySem.W.kitOne K (.ref (ga K (nms.getD i ""))) (.ref (ga K (nms.getD j ""))) = some (decide (j = i)))) && (nms.all (fun x => decide (PySem.W.kitOne K (.ref (ga K x)) (.ref (ga K "CrewError")) = some true) && decide (PySem.W.kitOne K (.ref (ga K x)) (.type "ValueError") = some true)) && decide (PySem.W.kitOne K (.type "ValueError") (.ref (ga K "CrewError")) = some false))
def exB (K : PySem.W.Frag) : Bool := (cls.all fun p => xB K p.1 p.2) && kB K
def dI2 : DefD := ⟨("NoNumber", some "__init__"), "__init__", "NoNumber.__init__", defArgs (sI 2), defBody (sI 2), defScope (sI 2), [], []⟩
def dI3 : DefD := ⟨("NoShape", some "__init__"), "__init__", "NoShape.__init__", defArgs (sI 3), defBody (sI 3), defScope (sI 3), [], []⟩
def dI4 : DefD := ⟨("NoSet", some "__init__"), "__init__", "NoSet.__init__", defArgs (sI 4), defBody (sI 4), defScope (sI 4), [], []⟩
def dI5 : DefD := ⟨("NoDurations", some "__init__"), "__init__", "NoDurations.__init__", defArgs (sI 5), defBody (sI 5), defScope (sI 5), [], []⟩
def dI6 : DefD := ⟨("NoWeights", some "__init__"), "__init__", "NoWeights.__init__", defArgs (sI 6), defBody (sI 6), defScope (sI 6), [], []⟩
def dI7 : DefD := ⟨("NoBound", some "__init__"), "__init__", "NoBound.__init__", defArgs (sI 7), defBody (sI 7), defScope (sI 7), [], []⟩
def dI8 : DefD := ⟨("NoPairs", some "__init__"), "__init__", "NoPairs.__init__", defArgs (sI 8), defBody (sI 8), defScope (sI 8), [], []⟩
def dI9 : DefD := ⟨("NoOrder", some "__init__"), "__init__", "NoOrder.__init__", defArgs (sI 9), defBody (sI 9), defScope (sI 9), [], []⟩
def dI10 : DefD := ⟨("NoGraph", some "__init__"), "__init__", "NoGraph.__init__", defArgs (sI 10), defBody (sI 10), defScope (sI 10), [], []⟩
def dI11 : DefD := ⟨("NoStarts", some "__init__"), "__init__", "NoStarts.__init__", defArgs (sI 11), defBody (sI 11), defScope (sI 11), [], []⟩
def dI12 : DefD := ⟨("NoSchedule", some "__init__"), "__init__", "NoSchedule.__init__", defArgs (sI 12), defBody (sI 12), defScope (sI 12), [], []⟩
def dI13 : DefD := ⟨("NoActivity", some "__init__"), "__init__", "NoActivity.__init__", defArgs (sI 13), defBody (sI 13), defScope (sI 13), [], []⟩
def dI14 : DefD := ⟨("NoText", some "__init__"), "__init__", "NoText.__init__", defArgs (sI 14), defBody (sI 14), defScope (sI 14), [], []⟩
def dI15 : DefD := ⟨("NoChange", some "__init__"), "__init__", "NoChange.__init__", defArgs (sI 15), defBody (sI 15), defScope (sI 15), [], []⟩
def dI16 : DefD := ⟨("NoCalendar", some "__init__"), "__init__", "NoCalendar.__init__", defArgs (sI 16), defBody (sI 16), defScope (sI 16), [], []⟩
def dI17 : DefD := ⟨("NoProject", some "__init__"), "__init__", "NoProject.__init__", defArgs (sI 17), defBody (sI 17), defScope (sI 17), [], []⟩
def dI18 : DefD := ⟨("NoChoice", some "__init__"), "__init__", "NoChoice.__init__", defArgs (sI 18), defBody (sI 18), defScope (sI 18), [], []⟩
def dI19 : DefD := ⟨("NoAhead", some "__init__"), "__init__", "NoAhead.__init__", defArgs (sI 19), defBody (sI 19), defScope (sI 19), [], []⟩
def dI20 : DefD := ⟨("NoDerivation", some "__init__"), "__init__", "NoDerivation.__init__", defArgs (sI 20), defBody (sI 20), defScope (sI 20), [], []⟩
def dI21 : DefD := ⟨("NoPlan", some "__init__"), "__init__", "NoPlan.__init__", defArgs (sI 21), defBody (sI 21), defScope (sI 21), [], []⟩
def dI22 : DefD := ⟨("NoRota", some "__init__"), "__init__", "NoRota.__init__", defArgs (sI 22), defBody (sI 22), defScope (sI 22), [], []⟩
def dI23 : DefD := ⟨("NoMix", some "__init__"), "__init__", "NoMix.__init__", defArgs (sI 23), defBody (sI 23), defScope (sI 23), [], []⟩
def dI24 : DefD := ⟨("NoBlind", some "__init__"), "__init__", "NoBlind.__init__", defArgs (sI 24), defBody (sI 24), defScope (sI 24), [], []⟩
def dI25 : DefD := ⟨("NoFixed", some "__init__"), "__init__", "NoFixed.__init__", defArgs (sI 25), defBody (sI 25), defScope (sI 25), [], []⟩
def dI26 : DefD := ⟨("NotBeside", some "__init__"), "__init__", "NotBeside.__init__", defArgs (sI 26), defBody (sI 26), defScope (sI 26), [], []⟩
def dI27 : DefD := ⟨("NoBox", some "__init__"), "__init__", "NoBox.__init__", defArgs (sI 27), defBody (sI 27), defScope (sI 27), [], []⟩
def dI28 : DefD := ⟨("TooGreat", some "__init__"), "__init__", "TooGreat.__init__", defArgs (sI 28), defBody (sI 28), defScope (sI 28), [], []⟩
def d_law_draw : DefD := ⟨("_law_draw", none), "_law_draw", "_law_draw", defArgs (top 30), defBody (top 30), defScope (top 30), [], []⟩
def d_law_one : DefD := ⟨("_law_one", none), "_law_one", "_law_one", defArgs (top 31), defBody (top 31), defScope (top 31), [], []⟩
def d_law_taken : DefD := ⟨("_law_taken", none), "_law_taken", "_law_taken", defArgs (top 32), defBody (top 32), defScope (top 32), [], []⟩
def d_law_by_place : DefD := ⟨("_law_by_place", none), "_law_by_place", "_law_by_place", defArgs (top 33), defBody (top 33), defScope (top 33), [], []⟩
def d_law_by_name : DefD := ⟨("_law_by_name", none), "_law_by_name", "_law_by_name", defArgs (top 34), defBody (top 34), defScope (top 34), [], []⟩
def d_law_fields : DefD := ⟨("_law_fields", none), "_law_fields", "_law_fields", defArgs (top 35), defBody (top 35), defScope (top 35), [], []⟩
def d_law_right : DefD := ⟨("_law_right", none), "_law_right", "_law_right", defArgs (top 36), defBody (top 36), defScope (top 36), [], []⟩
def dlaw : DefD := ⟨("law", none), "law", "law", defArgs (top 37), defBody (top 37), defScope (top 37), [], []⟩
def fn : List DefD := [dI2, dI3, dI4, dI5, dI6, dI7, dI8, dI9, dI10, dI11, dI12, dI13, dI14, dI15, dI16, dI17, dI18, dI19, dI20, dI21, dI22, dI23, dI24, dI25, dI26, dI27, dI28, d_law_draw, d_law_one, d_law_taken, d_law_by_place, d_law_by_name, d_law_fields, d_law_right, dlaw]
def fa : List Fa := [.glo "_law_draw", .glo "_law_one", .glo "_law_taken", .glo "_law_by_place", .glo "_law_by_name", .glo "_law_fields", .glo "_law_right", .glo "law", .glo "CrewError", .free "isinstance", .free "len", .free "range", .free "enumerate", .free "int", .free "ValueError"]
abbrev R : PySem.W.OpenRow := PySem.W.OpenLaw.row PySem.Challenge.rw_crewlags_k04_exceptions
abbrev hk : PySem.W.Hook := He.hookX 5 fa fn [] [] exB
def ob (s : PySem.W.SharedT) : He.AlX := He.obsX 5 fa fn [] [] exB (HandSHeadRun.getT s)
theorem ob_eq (s : PySem.W.SharedT) : ob s = hk.obs s.abs := He.obsX_eq (HandSHeadRun.getT_eq s)
def loose : List Str := (["CrewError", "NoNumber", "NoShape", "NoSet", "NoDurations", "NoWeights", "NoBound", "NoPairs", "NoOrder", "NoGraph", "NoStarts", "NoSchedule"] : List Str) ++ (["NoActivity", "NoText", "NoChange", "NoCalendar", "NoProject", "NoChoice", "NoAhead", "NoDerivation", "NoPlan", "NoRota", "NoMix", "NoBlind"] : List Str) ++ (["NoFixed", "NotBeside", "NoBox", "TooGreat", "_law_draw", "_law_one", "_law_taken", "_law_by_place", "_law_by_name", "_law_fields", "_law_right"] : List Str)
theorem run (w : World) : HandSHeadRun.RunEq R (PySem.W.view R.prog [37]) hk ob 9000 loose w := by
  intro os
  kernel_rfl
end K4


set_option Elab.async false
set_option autoImplicit false
set_option linter.all false
set_option maxRecDepth 100000
set_option maxHeartbeats 4000000
namespace K4
open PySem PySem.Spec PyProof.Rows L2 Evl He
section
variable {P : Program} {w : World} {K : PySem.W.Frag} {mg : Str → Option Value} {base : Heap} {f : Addr} {fd : FuncData}
theorem read1 {K : PySem.W.Frag} {f : Str} {vs : List V} {H : Hp} {Q : VK} {E : XK} (h : spI1 K f vs H Q E) : tOst K f (tVar 0) (tVar 1) { nx := fun _ H' => Q .non H', rt := Q } (vs.map some) H := by
  obtain ⟨a, C, v, rfl, e, T, nf, k⟩ := h
  exact ⟨_, rfl, _, rfl, a, C, rfl, T, nf, .inl ⟨e, fun dx n ne => k dx n ne⟩⟩
theorem read2 {K : PySem.W.Frag} {f g : Str} {vs : List V} {H : Hp} {Q : VK} {E : XK} (h : spI2 K f g vs H Q E) : tSeq (tOst K f (tVar 0) (tVar 1)) (tOst K g (tVar 0) (tVar 2)) { nx := fun _ H' => Q .non H', rt := Q } (vs.map some) H := by
  obtain ⟨a, C, v, z, rfl, e, T, nf, ng, k⟩ := h
  refine ⟨_, rfl, _, rfl, a, C, rfl, T, nf, .inl ⟨e, fun dx n ne => ?_⟩⟩
  refine ⟨_, rfl, _, rfl, a, C, rfl, T, ng, .inr ⟨dx, _, upd_same, (by rw [upd_ne ne, upd_same]), (by show 1 ≤ 900; decide), ?_⟩⟩
  refine k dx _ n ne (by rw [upd_ne ne.symm, upd_same]) upd_same fun b h1 h2 => ?_
  rw [upd_ne h2, upd_ne h1, upd_ne h2]
theorem sc2 : FnScope ["self", "part"] ["self", "part"] (defScope (sI 2)) := ⟨rfl, rfl, rfl, by decide +kernel, rfl, by decide +kernel, by decide +kernel⟩
theorem okI2 (F : FunD K "__init__" "NoNumber.__init__" (defArgs (sI 2)) (defBody (sI 2)) (defScope (sI 2)) [] [] f fd) : FnOk P w K mg base CX0 1 f fd ["self", "part"] (spI1 K "part") := by
  refine F.ok sc2 (fun vs H Q E h => ?_) (fun cdv A outer s H vs Q E hr h => ⟨_, PSs.nox (pss_one (ps_ost (pv 0) (pv 1))), ?_⟩)
  · obtain ⟨a, C, v, rfl, _⟩ := h
    rfl
  · have e : start ["self", "part"] vs = vs.map some := by
      obtain ⟨a, C, v, rfl, _⟩ := h
      rfl
    rw [e]
    exact read1 h
theorem sc3 : FnScope ["self", "part", "index"] ["self", "part", "index"] (defScope (sI 3)) := ⟨rfl, rfl, rfl, by decide +kernel, rfl, by decide +kernel, by decide +kernel⟩
theorem okI3 (F : FunD K "__init__" "NoShape.__init__" (defArgs (sI 3)) (defBody (sI 3)) (defScope (sI 3)) [] [] f fd) : FnOk P w K mg base CX0 1 f fd ["self", "part", "index"] (spI2 K "part" "index") := by
  refine F.ok sc3 (fun vs H Q E h => ?_) (fun cdv A outer s H vs Q E hr h => ⟨_, PSs.nox (pss_cons (ps_ost (pv 0) (pv 1)) (pss_one (ps_ost (pv 0) (pv 2)))), ?_⟩)
  · obtain ⟨a, C, v, z, rfl, _⟩ := h
    rfl
  · have e : start ["self", "part", "index"] vs = vs.map some := by
      obtain ⟨a, C, v, z, rfl, _⟩ := h
      rfl
    rw [e]
    exact read2 h
theorem sc4 : FnScope ["self", "some"] ["self", "some"] (defScope (sI 4)) := ⟨rfl, rfl, rfl, by decide +kernel, rfl, by decide +kernel, by decide +kernel⟩
theorem okI4 (F : FunD K "__init__" "NoSet.__init__" (defArgs (sI 4)) (defBody (sI 4)) (defScope (sI 4)) [] [] f fd) : FnOk P w K mg base CX0 1 f fd ["self", "some"] (spI1 K "some") := by
  refine F.ok sc4 (fun vs H Q E h => ?_) (fun cdv A outer s H vs Q E hr h => ⟨_, PSs.nox (pss_one (ps_ost (pv 0) (pv 1))), ?_⟩)
  · obtain ⟨a, C, v, rfl, _⟩ := h
    rfl
  · have e : start ["self", "some"] vs = vs.map some := by
      obtain ⟨a, C, v, rfl, _⟩ := h
      rfl
    rw [e]
    exact read1 h
theorem sc5 : FnScope ["self", "index"] ["self", "index"] (defScope (sI 5)) := ⟨rfl, rfl, rfl, by decide +kernel, rfl, by decide +kernel, by decide +kernel⟩
theorem okI5 (F : FunD K "__init__" "NoDurations.__init__" (defArgs (sI 5)) (defBody (sI 5)) (defScope (sI 5)) [] [] f fd) : FnOk P w K mg base CX0 1 f fd ["self", "index"] (spI1 K "index") := by
  refine F.ok sc5 (fun vs H Q E h => ?_) (fun cdv A outer s H vs Q E hr h => ⟨_, PSs.nox (pss_one (ps_ost (pv 0) (pv 1))), ?_⟩)
  · obtain ⟨a, C, v, rfl, _⟩ := h
    rfl
  · have e : start ["self", "index"] vs = vs.map some := by
      obtain ⟨a, C, v, rfl, _⟩ := h
      rfl
    rw [e]
    exact read1 h
theorem sc6 : FnScope ["self", "index"] ["self", "index"] (defScope (sI 6)) := ⟨rfl, rfl, rfl, by decide +kernel, rfl, by decide +kernel, by decide +kernel⟩
theorem okI6 (F : FunD K "__init__" "NoWeights.__init__" (defArgs (sI 6)) (defBody (sI 6)) (defScope (sI 6)) [] [] f fd) : FnOk P w K mg base CX0 1 f fd ["self", "index"] (spI1 K "index") := by
  refine F.ok sc6 (fun vs H Q E h => ?_) (fun cdv A outer s H vs Q E hr h => ⟨_, PSs.nox (pss_one (ps_ost (pv 0) (pv 1))), ?_⟩)
  · obtain ⟨a, C, v, rfl, _⟩ := h
    rfl
  · have e : start ["self", "index"] vs = vs.map some := by
      obtain ⟨a, C, v, rfl, _⟩ := h
      rfl
    rw [e]
    exact read1 h
theorem sc7 : FnScope ["self", "part", "index"] ["self", "part", "index"] (defScope (sI 7)) := ⟨rfl, rfl, rfl, by decide +kernel, rfl, by decide +kernel, by decide +kernel⟩
theorem okI7 (F : FunD K "__init__" "NoBound.__init__" (defArgs (sI 7)) (defBody (sI 7)) (defScope (sI 7)) [] [] f fd) : FnOk P w K mg base CX0 1 f fd ["self", "part", "index"] (spI2 K "part" "index") := by
  refine F.ok sc7 (fun vs H Q E h => ?_) (fun cdv A outer s H vs Q E hr h => ⟨_, PSs.nox (pss_cons (ps_ost (pv 0) (pv 1)) (pss_one (ps_ost (pv 0) (pv 2)))), ?_⟩)
  · obtain ⟨a, C, v, z, rfl, _⟩ := h
    rfl
  · have e : start ["self", "part", "index"] vs = vs.map some := by
      obtain ⟨a, C, v, z, rfl, _⟩ := h
      rfl
    rw [e]
    exact read2 h
theorem sc8 : FnScope ["self", "index"] ["self", "index"] (defScope (sI 8)) := ⟨rfl, rfl, rfl, by decide +kernel, rfl, by decide +kernel, by decide +kernel⟩
theorem okI8 (F : FunD K "__init__" "NoPairs.__init__" (defArgs (sI 8)) (defBody (sI 8)) (defScope (sI 8)) [] [] f fd) : FnOk P w K mg base CX0 1 f fd ["self", "index"] (spI1 K "index") := by
  refine F.ok sc8 (fun vs H Q E h => ?_) (fun cdv A outer s H vs Q E hr h => ⟨_, PSs.nox (pss_one (ps_ost (pv 0) (pv 1))), ?_⟩)
  · obtain ⟨a, C, v, rfl, _⟩ := h
    rfl
  · have e : start ["self", "index"] vs = vs.map some := by
      obtain ⟨a, C, v, rfl, _⟩ := h
      rfl
    rw [e]
    exact read1 h
theorem sc9 : FnScope ["self", "index"] ["self", "index"] (defScope (sI 9)) := ⟨rfl, rfl, rfl, by decide +kernel, rfl, by decide +kernel, by decide +kernel⟩
theorem okI9 (F : FunD K "__init__" "NoOrder.__init__" (defArgs (sI 9)) (defBody (sI 9)) (defScope (sI 9)) [] [] f fd) : FnOk P w K mg base CX0 1 f fd ["self", "index"] (spI1 K "index") := by
  refine F.ok sc9 (fun vs H Q E h => ?_) (fun cdv A outer s H vs Q E hr h => ⟨_, PSs.nox (pss_one (ps_ost (pv 0) (pv 1))), ?_⟩)
  · obtain ⟨a, C, v, rfl, _⟩ := h
    rfl
  · have e : start ["self", "index"] vs = vs.map some := by
      obtain ⟨a, C, v, rfl, _⟩ := h
      rfl
    rw [e]
    exact read1 h
theorem sc10 : FnScope ["self", "index"] ["self", "index"] (defScope (sI 10)) := ⟨rfl, rfl, rfl, by decide +kernel, rfl, by decide +kernel, by decide +kernel⟩
theorem okI10 (F : FunD K "__init__" "NoGraph.__init__" (defArgs (sI 10)) (defBody (sI 10)) (defScope (sI 10)) [] [] f fd) : FnOk P w K mg base CX0 1 f fd ["self", "index"] (spI1 K "index") := by
  refine F.ok sc10 (fun vs H Q E h => ?_) (fun cdv A outer s H vs Q E hr h => ⟨_, PSs.nox (pss_one (ps_ost (pv 0) (pv 1))), ?_⟩)
  · obtain ⟨a, C, v, rfl, _⟩ := h
    rfl
  · have e : start ["self", "index"] vs = vs.map some := by
      obtain ⟨a, C, v, rfl, _⟩ := h
      rfl
    rw [e]
    exact read1 h
theorem sc11 : FnScope ["self", "index"] ["self", "index"] (defScope (sI 11)) := ⟨rfl, rfl, rfl, by decide +kernel, rfl, by decide +kernel, by decide +kernel⟩
theorem okI11 (F : FunD K "__init__" "NoStarts.__init__" (defArgs (sI 11)) (defBody (sI 11)) (defScope (sI 11)) [] [] f fd) : FnOk P w K mg base CX0 1 f fd ["self", "index"] (spI1 K "index") := by
  refine F.ok sc11 (fun vs H Q E h => ?_) (fun cdv A outer s H vs Q E hr h => ⟨_, PSs.nox (pss_one (ps_ost (pv 0) (pv 1))), ?_⟩)
  · obtain ⟨a, C, v, rfl, _⟩ := h
    rfl
  · have e : start ["self", "index"] vs = vs.map some := by
      obtain ⟨a, C, v, rfl, _⟩ := h
      rfl
    rw [e]
    exact read1 h
theorem sc12 : FnScope ["self", "fault"] ["self", "fault"] (defScope (sI 12)) := ⟨rfl, rfl, rfl, by decide +kernel, rfl, by decide +kernel, by decide +kernel⟩
theorem okI12 (F : FunD K "__init__" "NoSchedule.__init__" (defArgs (sI 12)) (defBody (sI 12)) (defScope (sI 12)) [] [] f fd) : FnOk P w K mg base CX0 1 f fd ["self", "fault"] (spI1 K "fault") := by
  refine F.ok sc12 (fun vs H Q E h => ?_) (fun cdv A outer s H vs Q E hr h => ⟨_, PSs.nox (pss_one (ps_ost (pv 0) (pv 1))), ?_⟩)
  · obtain ⟨a, C, v, rfl, _⟩ := h
    rfl
  · have e : start ["self", "fault"] vs = vs.map some := by
      obtain ⟨a, C, v, rfl, _⟩ := h
      rfl
    rw [e]
    exact read1 h
theorem sc13 : FnScope ["self", "one"] ["self", "one"] (defScope (sI 13)) := ⟨rfl, rfl, rfl, by decide +kernel, rfl, by decide +kernel, by decide +kernel⟩
theorem okI13 (F : FunD K "__init__" "NoActivity.__init__" (defArgs (sI 13)) (defBody (sI 13)) (defScope (sI 13)) [] [] f fd) : FnOk P w K mg base CX0 1 f fd ["self", "one"] (spI1 K "one") := by
  refine F.ok sc13 (fun vs H Q E h => ?_) (fun cdv A outer s H vs Q E hr h => ⟨_, PSs.nox (pss_one (ps_ost (pv 0) (pv 1))), ?_⟩)
  · obtain ⟨a, C, v, rfl, _⟩ := h
    rfl
  · have e : start ["self", "one"] vs = vs.map some := by
      obtain ⟨a, C, v, rfl, _⟩ := h
      rfl
    rw [e]
    exact read1 h
theorem sc14 : FnScope ["self", "line"] ["self", "line"] (defScope (sI 14)) := ⟨rfl, rfl, rfl, by decide +kernel, rfl, by decide +kernel, by decide +kernel⟩
theorem okI14 (F : FunD K "__init__" "NoText.__init__" (defArgs (sI 14)) (defBody (sI 14)) (defScope (sI 14)) [] [] f fd) : FnOk P w K mg base CX0 1 f fd ["self", "line"] (spI1 K "line") := by
  refine F.ok sc14 (fun vs H Q E h => ?_) (fun cdv A outer s H vs Q E hr h => ⟨_, PSs.nox (pss_one (ps_ost (pv 0) (pv 1))), ?_⟩)
  · obtain ⟨a, C, v, rfl, _⟩ := h
    rfl
  · have e : start ["self", "line"] vs = vs.map some := by
      obtain ⟨a, C, v, rfl, _⟩ := h
      rfl
    rw [e]
    exact read1 h
theorem sc15 : FnScope ["self", "word"] ["self", "word"] (defScope (sI 15)) := ⟨rfl, rfl, rfl, by decide +kernel, rfl, by decide +kernel, by decide +kernel⟩
theorem okI15 (F : FunD K "__init__" "NoChange.__init__" (defArgs (sI 15)) (defBody (sI 15)) (defScope (sI 15)) [] [] f fd) : FnOk P w K mg base CX0 1 f fd ["self", "word"] (spI1 K "word") := by
  refine F.ok sc15 (fun vs H Q E h => ?_) (fun cdv A outer s H vs Q E hr h => ⟨_, PSs.nox (pss_one (ps_ost (pv 0) (pv 1))), ?_⟩)
  · obtain ⟨a, C, v, rfl, _⟩ := h
    rfl
  · have e : start ["self", "word"] vs = vs.map some := by
      obtain ⟨a, C, v, rfl, _⟩ := h
      rfl
    rw [e]
    exact read1 h
theorem sc16 : FnScope ["self", "part", "index"] ["self", "part", "index"] (defScope (sI 16)) := ⟨rfl, rfl, rfl, by decide +kernel, rfl, by decide +kernel, by decide +kernel⟩
theorem okI16 (F : FunD K "__init__" "NoCalendar.__init__" (defArgs (sI 16)) (defBody (sI 16)) (defScope (sI 16)) [] [] f fd) : FnOk P w K mg base CX0 1 f fd ["self", "part", "index"] (spI2 K "part" "index") := by
  refine F.ok sc16 (fun vs H Q E h => ?_) (fun cdv A outer s H vs Q E hr h => ⟨_, PSs.nox (pss_cons (ps_ost (pv 0) (pv 1)) (pss_one (ps_ost (pv 0) (pv 2)))), ?_⟩)
  · obtain ⟨a, C, v, z, rfl, _⟩ := h
    rfl
  · have e : start ["self", "part", "index"] vs = vs.map some := by
      obtain ⟨a, C, v, z, rfl, _⟩ := h
      rfl
    rw [e]
    exact read2 h
theorem sc17 : FnScope ["self", "part", "index"] ["self", "part", "index"] (defScope (sI 17)) := ⟨rfl, rfl, rfl, by decide +kernel, rfl, by decide +kernel, by decide +kernel⟩
theorem okI17 (F : FunD K "__init__" "NoProject.__init__" (defArgs (sI 17)) (defBody (sI 17)) (defScope (sI 17)) [] [] f fd) : FnOk P w K mg base CX0 1 f fd ["self", "part", "index"] (spI2 K "part" "index") := by
  refine F.ok sc17 (fun vs H Q E h => ?_) (fun cdv A outer s H vs Q E hr h => ⟨_, PSs.nox (pss_cons (ps_ost (pv 0) (pv 1)) (pss_one (ps_ost (pv 0) (pv 2)))), ?_⟩)
  · obtain ⟨a, C, v, z, rfl, _⟩ := h
    rfl
  · have e : start ["self", "part", "index"] vs = vs.map some := by
      obtain ⟨a, C, v, z, rfl, _⟩ := h
      rfl
    rw [e]
    exact read2 h
theorem sc18 : FnScope ["self", "index"] ["self", "index"] (defScope (sI 18)) := ⟨rfl, rfl, rfl, by decide +kernel, rfl, by decide +kernel, by decide +kernel⟩
theorem okI18 (F : FunD K "__init__" "NoChoice.__init__" (defArgs (sI 18)) (defBody (sI 18)) (defScope (sI 18)) [] [] f fd) : FnOk P w K mg base CX0 1 f fd ["self", "index"] (spI1 K "index") := by
  refine F.ok sc18 (fun vs H Q E h => ?_) (fun cdv A outer s H vs Q E hr h => ⟨_, PSs.nox (pss_one (ps_ost (pv 0) (pv 1))), ?_⟩)
  · obtain ⟨a, C, v, rfl, _⟩ := h
    rfl
  · have e : start ["self", "index"] vs = vs.map some := by
      obtain ⟨a, C, v, rfl, _⟩ := h
      rfl
    rw [e]
    exact read1 h
theorem sc19 : FnScope ["self", "index"] ["self", "index"] (defScope (sI 19)) := ⟨rfl, rfl, rfl, by decide +kernel, rfl, by decide +kernel, by decide +kernel⟩
theorem okI19 (F : FunD K "__init__" "NoAhead.__init__" (defArgs (sI 19)) (defBody (sI 19)) (defScope (sI 19)) [] [] f fd) : FnOk P w K mg base CX0 1 f fd ["self", "index"] (spI1 K "index") := by
  refine F.ok sc19 (fun vs H Q E h => ?_) (fun cdv A outer s H vs Q E hr h => ⟨_, PSs.nox (pss_one (ps_ost (pv 0) (pv 1))), ?_⟩)
  · obtain ⟨a, C, v, rfl, _⟩ := h
    rfl
  · have e : start ["self", "index"] vs = vs.map some := by
      obtain ⟨a, C, v, rfl, _⟩ := h
      rfl
    rw [e]
    exact read1 h
theorem sc20 : FnScope ["self", "part", "index"] ["self", "part", "index"] (defScope (sI 20)) := ⟨rfl, rfl, rfl, by decide +kernel, rfl, by decide +kernel, by decide +kernel⟩
theorem okI20 (F : FunD K "__init__" "NoDerivation.__init__" (defArgs (sI 20)) (defBody (sI 20)) (defScope (sI 20)) [] [] f fd) : FnOk P w K mg base CX0 1 f fd ["self", "part", "index"] (spI2 K "part" "index") := by
  refine F.ok sc20 (fun vs H Q E h => ?_) (fun cdv A outer s H vs Q E hr h => ⟨_, PSs.nox (pss_cons (ps_ost (pv 0) (pv 1)) (pss_one (ps_ost (pv 0) (pv 2)))), ?_⟩)
  · obtain ⟨a, C, v, z, rfl, _⟩ := h
    rfl
  · have e : start ["self", "part", "index"] vs = vs.map some := by
      obtain ⟨a, C, v, z, rfl, _⟩ := h
      rfl
    rw [e]
    exact read2 h
theorem sc21 : FnScope ["self", "fault"] ["self", "fault"] (defScope (sI 21)) := ⟨rfl, rfl, rfl, by decide +kernel, rfl, by decide +kernel, by decide +kernel⟩
theorem okI21 (F : FunD K "__init__" "NoPlan.__init__" (defArgs (sI 21)) (defBody (sI 21)) (defScope (sI 21)) [] [] f fd) : FnOk P w K mg base CX0 1 f fd ["self", "fault"] (spI1 K "fault") := by
  refine F.ok sc21 (fun vs H Q E h => ?_) (fun cdv A outer s H vs Q E hr h => ⟨_, PSs.nox (pss_one (ps_ost (pv 0) (pv 1))), ?_⟩)
  · obtain ⟨a, C, v, rfl, _⟩ := h
    rfl
  · have e : start ["self", "fault"] vs = vs.map some := by
      obtain ⟨a, C, v, rfl, _⟩ := h
      rfl
    rw [e]
    exact read1 h
theorem sc22 : FnScope ["self", "part", "index"] ["self", "part", "index"] (defScope (sI 22)) := ⟨rfl, rfl, rfl, by decide +kernel, rfl, by decide +kernel, by decide +kernel⟩
theorem okI22 (F : FunD K "__init__" "NoRota.__init__" (defArgs (sI 22)) (defBody (sI 22)) (defScope (sI 22)) [] [] f fd) : FnOk P w K mg base CX0 1 f fd ["self", "part", "index"] (spI2 K "part" "index") := by
  refine F.ok sc22 (fun vs H Q E h => ?_) (fun cdv A outer s H vs Q E hr h => ⟨_, PSs.nox (pss_cons (ps_ost (pv 0) (pv 1)) (pss_one (ps_ost (pv 0) (pv 2)))), ?_⟩)
  · obtain ⟨a, C, v, z, rfl, _⟩ := h
    rfl
  · have e : start ["self", "part", "index"] vs = vs.map some := by
      obtain ⟨a, C, v, z, rfl, _⟩ := h
      rfl
    rw [e]
    exact read2 h
theorem sc23 : FnScope ["self", "index"] ["self", "index"] (defScope (sI 23)) := ⟨rfl, rfl, rfl, by decide +kernel, rfl, by decide +kernel, by decide +kernel⟩
theorem okI23 (F : FunD K "__init__" "NoMix.__init__" (defArgs (sI 23)) (defBody (sI 23)) (defScope (sI 23)) [] [] f fd) : FnOk P w K mg base CX0 1 f fd ["self", "index"] (spI1 K "index") := by
  refine F.ok sc23 (fun vs H Q E h => ?_) (fun cdv A outer s H vs Q E hr h => ⟨_, PSs.nox (pss_one (ps_ost (pv 0) (pv 1))), ?_⟩)
  · obtain ⟨a, C, v, rfl, _⟩ := h
    rfl
  · have e : start ["self", "index"] vs = vs.map some := by
      obtain ⟨a, C, v, rfl, _⟩ := h
      rfl
    rw [e]
    exact read1 h
theorem sc24 : FnScope ["self", "part", "index"] ["self", "part", "index"] (defScope (sI 24)) := ⟨rfl, rfl, rfl, by decide +kernel, rfl, by decide +kernel, by decide +kernel⟩
theorem okI24 (F : FunD K "__init__" "NoBlind.__init__" (defArgs (sI 24)) (defBody (sI 24)) (defScope (sI 24)) [] [] f fd) : FnOk P w K mg base CX0 1 f fd ["self", "part", "index"] (spI2 K "part" "index") := by
  refine F.ok sc24 (fun vs H Q E h => ?_) (fun cdv A outer s H vs Q E hr h => ⟨_, PSs.nox (pss_cons (ps_ost (pv 0) (pv 1)) (pss_one (ps_ost (pv 0) (pv 2)))), ?_⟩)
  · obtain ⟨a, C, v, z, rfl, _⟩ := h
    rfl
  · have e : start ["self", "part", "index"] vs = vs.map some := by
      obtain ⟨a, C, v, z, rfl, _⟩ := h
      rfl
    rw [e]
    exact read2 h
theorem sc25 : FnScope ["self", "index"] ["self", "index"] (defScope (sI 25)) := ⟨rfl, rfl, rfl, by decide +kernel, rfl, by decide +kernel, by decide +kernel⟩
theorem okI25 (F : FunD K "__init__" "NoFixed.__init__" (defArgs (sI 25)) (defBody (sI 25)) (defScope (sI 25)) [] [] f fd) : FnOk P w K mg base CX0 1 f fd ["self", "index"] (spI1 K "index") := by
  refine F.ok sc25 (fun vs H Q E h => ?_) (fun cdv A outer s H vs Q E hr h => ⟨_, PSs.nox (pss_one (ps_ost (pv 0) (pv 1))), ?_⟩)
  · obtain ⟨a, C, v, rfl, _⟩ := h
    rfl
  · have e : start ["self", "index"] vs = vs.map some := by
      obtain ⟨a, C, v, rfl, _⟩ := h
      rfl
    rw [e]
    exact read1 h
theorem sc26 : FnScope ["self", "part"] ["self", "part"] (defScope (sI 26)) := ⟨rfl, rfl, rfl, by decide +kernel, rfl, by decide +kernel, by decide +kernel⟩
theorem okI26 (F : FunD K "__init__" "NotBeside.__init__" (defArgs (sI 26)) (defBody (sI 26)) (defScope (sI 26)) [] [] f fd) : FnOk P w K mg base CX0 1 f fd ["self", "part"] (spI1 K "part") := by
  refine F.ok sc26 (fun vs H Q E h => ?_) (fun cdv A outer s H vs Q E hr h => ⟨_, PSs.nox (pss_one (ps_ost (pv 0) (pv 1))), ?_⟩)
  · obtain ⟨a, C, v, rfl, _⟩ := h
    rfl
  · have e : start ["self", "part"] vs = vs.map some := by
      obtain ⟨a, C, v, rfl, _⟩ := h
      rfl
    rw [e]
    exact read1 h
theorem sc27 : FnScope ["self", "index"] ["self", "index"] (defScope (sI 27)) := ⟨rfl, rfl, rfl, by decide +kernel, rfl, by decide +kernel, by decide +kernel⟩
theorem okI27 (F : FunD K "__init__" "NoBox.__init__" (defArgs (sI 27)) (defBody (sI 27)) (defScope (sI 27)) [] [] f fd) : FnOk P w K mg base CX0 1 f fd ["self", "index"] (spI1 K "index") := by
  refine F.ok sc27 (fun vs H Q E h => ?_) (fun cdv A outer s H vs Q E hr h => ⟨_, PSs.nox (pss_one (ps_ost (pv 0) (pv 1))), ?_⟩)
  · obtain ⟨a, C, v, rfl, _⟩ := h
    rfl
  · have e : start ["self", "index"] vs = vs.map some := by
      obtain ⟨a, C, v, rfl, _⟩ := h
      rfl
    rw [e]
    exact read1 h
theorem sc28 : FnScope ["self", "most"] ["self", "most"] (defScope (sI 28)) := ⟨rfl, rfl, rfl, by decide +kernel, rfl, by decide +kernel, by decide +kernel⟩
theorem okI28 (F : FunD K "__init__" "TooGreat.__init__" (defArgs (sI 28)) (defBody (sI 28)) (defScope (sI 28)) [] [] f fd) : FnOk P w K mg base CX0 1 f fd ["self", "most"] (spI1 K "most") := by
  refine F.ok sc28 (fun vs H Q E h => ?_) (fun cdv A outer s H vs Q E hr h => ⟨_, PSs.nox (pss_one (ps_ost (pv 0) (pv 1))), ?_⟩)
  · obtain ⟨a, C, v, rfl, _⟩ := h
    rfl
  · have e : start ["self", "most"] vs = vs.map some := by
      obtain ⟨a, C, v, rfl, _⟩ := h
      rfl
    rw [e]
    exact read1 h
end
section
variable {P : Program} {w : World} {K : PySem.W.Frag} {mg : Str → Option Value} {base : Heap}
theorem binds_all {x qual : Str} {params : Arguments} {body : List Stmt} {scope : Scope} {f : Addr} {fd : FuncData} (F : FunD K x qual params body scope [] [] f fd) {args : Args} {r : List (Str × Value)}
    (h : ∀ (kV doc pm : Value) (an : Option Addr) (cdv ct : Value), bindArgs (PySem.W.fnOf x qual params body scope .none kV doc pm an cdv ct) args = pure r) (s : Shared) : BindsTo s fd args r := by
  obtain ⟨oc, od, dV, kV, doc, pm, an, cdv, ct, osl, rfl, lk, hcd, hD, hK⟩ := F.ex
  rcases hD with ⟨_, rfl⟩ | ⟨e, _⟩
  · exact .of_eq (h kV doc pm an cdv ct)
  · exact absurd rfl e
theorem x2 (c : SaysD fa fn K) (B : XF K mg "NoNumber" ["part"]) : X1 P w K mg base "NoNumber" "part" (ga K "NoNumber") := by
  obtain ⟨fd, F⟩ := c.defs (d := dI2) (List.mem_of_getElem? (i := 0) rfl)
  exact ⟨B.xc, B.nof _ (List.mem_cons_self ..), _, fd, B.ini, B.tyI, okI2 F, fun s a u => binds_all F (fun _ _ _ _ _ _ => rfl) s, fun s a u => binds_all F (fun _ _ _ _ _ _ => rfl) s⟩
theorem x3 (c : SaysD fa fn K) (B : XF K mg "NoShape" ["part", "index"]) : X2 P w K mg base "NoShape" "part" "index" (ga K "NoShape") := by
  obtain ⟨fd, F⟩ := c.defs (d := dI3) (List.mem_of_getElem? (i := 1) rfl)
  exact ⟨B.xc, B.nof _ (List.mem_cons_self ..), B.nof _ (List.mem_cons_of_mem _ (List.mem_cons_self ..)), _, fd, B.ini, B.tyI, okI3 F, fun s a u v => binds_all F (fun _ _ _ _ _ _ => rfl) s, fun s a u v => binds_all F (fun _ _ _ _ _ _ => rfl) s⟩
theorem x4 (c : SaysD fa fn K) (B : XF K mg "NoSet" ["some"]) : X1 P w K mg base "NoSet" "some" (ga K "NoSet") := by
  obtain ⟨fd, F⟩ := c.defs (d := dI4) (List.mem_of_getElem? (i := 2) rfl)
  exact ⟨B.xc, B.nof _ (List.mem_cons_self ..), _, fd, B.ini, B.tyI, okI4 F, fun s a u => binds_all F (fun _ _ _ _ _ _ => rfl) s, fun s a u => binds_all F (fun _ _ _ _ _ _ => rfl) s⟩
theorem x5 (c : SaysD fa fn K) (B : XF K mg "NoDurations" ["index"]) : X1 P w K mg base "NoDurations" "index" (ga K "NoDurations") := by
  obtain ⟨fd, F⟩ := c.defs (d := dI5) (List.mem_of_getElem? (i := 3) rfl)
  exact ⟨B.xc, B.nof _ (List.mem_cons_self ..), _, fd, B.ini, B.tyI, okI5 F, fun s a u => binds_all F (fun _ _ _ _ _ _ => rfl) s, fun s a u => binds_all F (fun _ _ _ _ _ _ => rfl) s⟩
theorem x6 (c : SaysD fa fn K) (B : XF K mg "NoWeights" ["index"]) : X1 P w K mg base "NoWeights" "index" (ga K "NoWeights") := by
  obtain ⟨fd, F⟩ := c.defs (d := dI6) (List.mem_of_getElem? (i := 4) rfl)
  exact ⟨B.xc, B.nof _ (List.mem_cons_self ..), _, fd, B.ini, B.tyI, okI6 F, fun s a u => binds_all F (fun _ _ _ _ _ _ => rfl) s, fun s a u => binds_all F (fun _ _ _ _ _ _ => rfl) s⟩
theorem x7 (c : SaysD fa fn K) (B : XF K mg "NoBound" ["part", "index"]) : X2 P w K mg base "NoBound" "part" "index" (ga K "NoBound") := by
  obtain ⟨fd, F⟩ := c.defs (d := dI7) (List.mem_of_getElem? (i := 5) rfl)
  exact ⟨B.xc, B.nof _ (List.mem_cons_self ..), B.nof _ (List.mem_cons_of_mem _ (List.mem_cons_self ..)), _, fd, B.ini, B.tyI, okI7 F, fun s a u v => binds_all F (fun _ _ _ _ _ _ => rfl) s, fun s a u v => binds_all F (fun _ _ _ _ _ _ => rfl) s⟩
theorem x8 (c : SaysD fa fn K) (B : XF K mg "NoPairs" ["index"]) : X1 P w K mg base "NoPairs" "index" (ga K "NoPairs") := by
  obtain ⟨fd, F⟩ := c.defs (d := dI8) (List.mem_of_getElem? (i := 6) rfl)
  exact ⟨B.xc, B.nof _ (List.mem_cons_self ..), _, fd, B.ini, B.tyI, okI8 F, fun s a u => binds_all F (fun _ _ _ _ _ _ => rfl) s, fun s a u => binds_all F (fun _ _ _ _ _ _ => rfl) s⟩
theorem x9 (c : SaysD fa fn K) (B : XF K mg "NoOrder" ["index"]) : X1 P w K mg base "NoOrder" "index" (ga K "NoOrder") := by
  obtain ⟨fd, F⟩ := c.defs (d := dI9) (List.mem_of_getElem? (i := 7) rfl)
  exact ⟨B.xc, B.nof _ (List.mem_cons_self ..), _, fd, B.ini, B.tyI, okI9 F, fun s a u => binds_all F (fun _ _ _ _ _ _ => rfl) s, fun s a u => binds_all F (fun _ _ _ _ _ _ => rfl) s⟩
theorem x10 (c : SaysD fa fn K) (B : XF K mg "NoGraph" ["index"]) : X1 P w K mg base "NoGraph" "index" (ga K "NoGraph") := by
  obtain ⟨fd, F⟩ := c.defs (d := dI10) (List.mem_of_getElem? (i := 8) rfl)
  exact ⟨B.xc, B.nof _ (List.mem_cons_self ..), _, fd, B.ini, B.tyI, okI10 F, fun s a u => binds_all F (fun _ _ _ _ _ _ => rfl) s, fun s a u => binds_all F (fun _ _ _ _ _ _ => rfl) s⟩
theorem x11 (c : SaysD fa fn K) (B : XF K mg "NoStarts" ["index"]) : X1 P w K mg base "NoStarts" "index" (ga K "NoStarts") := by
  obtain ⟨fd, F⟩ := c.defs (d := dI11) (List.mem_of_getElem? (i := 9) rfl)
  exact ⟨B.xc, B.nof _ (List.mem_cons_self ..), _, fd, B.ini, B.tyI, okI11 F, fun s a u => binds_all F (fun _ _ _ _ _ _ => rfl) s, fun s a u => binds_all F (fun _ _ _ _ _ _ => rfl) s⟩
theorem x12 (c : SaysD fa fn K) (B : XF K mg "NoSchedule" ["fault"]) : X1 P w K mg base "NoSchedule" "fault" (ga K "NoSchedule") := by
  obtain ⟨fd, F⟩ := c.defs (d := dI12) (List.mem_of_getElem? (i := 10) rfl)
  exact ⟨B.xc, B.nof _ (List.mem_cons_self ..), _, fd, B.ini, B.tyI, okI12 F, fun s a u => binds_all F (fun _ _ _ _ _ _ => rfl) s, fun s a u => binds_all F (fun _ _ _ _ _ _ => rfl) s⟩
theorem x13 (c : SaysD fa fn K) (B : XF K mg "NoActivity" ["one"]) : X1 P w K mg base "NoActivity" "one" (ga K "NoActivity") := by
  obtain ⟨fd, F⟩ := c.defs (d := dI13) (List.mem_of_getElem? (i := 11) rfl)
  exact ⟨B.xc, B.nof _ (List.mem_cons_self ..), _, fd, B.ini, B.tyI, okI13 F, fun s a u => binds_all F (fun _ _ _ _ _ _ => rfl) s, fun s a u => binds_all F (fun _ _ _ _ _ _ => rfl) s⟩
theorem x14 (c : SaysD fa fn K) (B : XF K mg "NoText" ["line"]) : X1 P w K mg base "NoText" "line" (ga K "NoText") := by
  obtain ⟨fd, F⟩ := c.defs (d := dI14) (List.mem_of_getElem? (i := 12) rfl)
  exact ⟨B.xc, B.nof _ (List.mem_cons_self ..), _, fd, B.ini, B.tyI, okI14 F, fun s a u => binds_all F (fun _ _ _ _ _ _ => rfl) s, fun s a u => binds_all F (fun _ _ _ _ _ _ => rfl) s⟩
theorem x15 (c : SaysD fa fn K) (B : XF K mg "NoChange" ["word"]) : X1 P w K mg base "NoChange" "word" (ga K "NoChange") := by
  obtain ⟨fd, F⟩ := c.defs (d := dI15) (List.mem_of_getElem? (i := 13) rfl)
  exact ⟨B.xc, B.nof _ (List.mem_cons_self ..), _, fd, B.ini, B.tyI, okI15 F, fun s a u => binds_all F (fun _ _ _ _ _ _ => rfl) s, fun s a u => binds_all F (fun _ _ _ _ _ _ => rfl) s⟩
theorem x16 (c : SaysD fa fn K) (B : XF K mg "NoCalendar" ["part", "index"]) : X2 P w K mg base "NoCalendar" "part" "index" (ga K "NoCalendar") := by
  obtain ⟨fd, F⟩ := c.defs (d := dI16) (List.mem_of_getElem? (i := 14) rfl)
  exact ⟨B.xc, B.nof _ (List.mem_cons_self ..), B.nof _ (List.mem_cons_of_mem _ (List.mem_cons_self ..)), _, fd, B.ini, B.tyI, okI16 F, fun s a u v => binds_all F (fun _ _ _ _ _ _ => rfl) s, fun s a u v => binds_all F (fun _ _ _ _ _ _ => rfl) s⟩
theorem x17 (c : SaysD fa fn K) (B : XF K mg "NoProject" ["part", "index"]) : X2 P w K mg base "NoProject" "part" "index" (ga K "NoProject") := by
  obtain ⟨fd, F⟩ := c.defs (d := dI17) (List.mem_of_getElem? (i := 15) rfl)
  exact ⟨B.xc, B.nof _ (List.mem_cons_self ..), B.nof _ (List.mem_cons_of_mem _ (List.mem_cons_self ..)), _, fd, B.ini, B.tyI, okI17 F, fun s a u v => binds_all F (fun _ _ _ _ _ _ => rfl) s, fun s a u v => binds_all F (fun _ _ _ _ _ _ => rfl) s⟩
theorem x18 (c : SaysD fa fn K) (B : XF K mg "NoChoice" ["index"]) : X1 P w K mg base "NoChoice" "index" (ga K "NoChoice") := by
  obtain ⟨fd, F⟩ := c.defs (d := dI18) (List.mem_of_getElem? (i := 16) rfl)
  exact ⟨B.xc, B.nof _ (List.mem_cons_self ..), _, fd, B.ini, B.tyI, okI18 F, fun s a u => binds_all F (fun _ _ _ _ _ _ => rfl) s, fun s a u => binds_all F (fun _ _ _ _ _ _ => rfl) s⟩
theorem x19 (c : SaysD fa fn K) (B : XF K mg "NoAhead" ["index"]) : X1 P w K mg base "NoAhead" "index" (ga K "NoAhead") := by
  obtain ⟨fd, F⟩ := c.defs (d := dI19) (List.mem_of_getElem? (i := 17) rfl)
  exact ⟨B.xc, B.nof _ (List.mem_cons_self ..), _, fd, B.ini, B.tyI, okI19 F, fun s a u => binds_all F (fun _ _ _ _ _ _ => rfl) s, fun s a u => binds_all F (fun _ _ _ _ _ _ => rfl) s⟩
theorem x20 (c : SaysD fa fn K) (B : XF K mg "NoDerivation" ["part", "index"]) : X2 P w K mg base "NoDerivation" "part" "index" (ga K "NoDerivation") := by
  obtain ⟨fd, F⟩ := c.defs (d := dI20) (List.mem_of_getElem? (i := 18) rfl)
  exact ⟨B.xc, B.nof _ (List.mem_cons_self ..), B.nof _ (List.mem_cons_of_mem _ (List.mem_cons_self ..)), _, fd, B.ini, B.tyI, okI20 F, fun s a u v => binds_all F (fun _ _ _ _ _ _ => rfl) s, fun s a u v => binds_all F (fun _ _ _ _ _ _ => rfl) s⟩
theorem x21 (c : SaysD fa fn K) (B : XF K mg "NoPlan" ["fault"]) : X1 P w K mg base "NoPlan" "fault" (ga K "NoPlan") := by
  obtain ⟨fd, F⟩ := c.defs (d := dI21) (List.mem_of_getElem? (i := 19) rfl)
  exact ⟨B.xc, B.nof _ (List.mem_cons_self ..), _, fd, B.ini, B.tyI, okI21 F, fun s a u => binds_all F (fun _ _ _ _ _ _ => rfl) s, fun s a u => binds_all F (fun _ _ _ _ _ _ => rfl) s⟩
theorem x22 (c : SaysD fa fn K) (B : XF K mg "NoRota" ["part", "index"]) : X2 P w K mg base "NoRota" "part" "index" (ga K "NoRota") := by
  obtain ⟨fd, F⟩ := c.defs (d := dI22) (List.mem_of_getElem? (i := 20) rfl)
  exact ⟨B.xc, B.nof _ (List.mem_cons_self ..), B.nof _ (List.mem_cons_of_mem _ (List.mem_cons_self ..)), _, fd, B.ini, B.tyI, okI22 F, fun s a u v => binds_all F (fun _ _ _ _ _ _ => rfl) s, fun s a u v => binds_all F (fun _ _ _ _ _ _ => rfl) s⟩
theorem x23 (c : SaysD fa fn K) (B : XF K mg "NoMix" ["index"]) : X1 P w K mg base "NoMix" "index" (ga K "NoMix") := by
  obtain ⟨fd, F⟩ := c.defs (d := dI23) (List.mem_of_getElem? (i := 21) rfl)
  exact ⟨B.xc, B.nof _ (List.mem_cons_self ..), _, fd, B.ini, B.tyI, okI23 F, fun s a u => binds_all F (fun _ _ _ _ _ _ => rfl) s, fun s a u => binds_all F (fun _ _ _ _ _ _ => rfl) s⟩
theorem x24 (c : SaysD fa fn K) (B : XF K mg "NoBlind" ["part", "index"]) : X2 P w K mg base "NoBlind" "part" "index" (ga K "NoBlind") := by
  obtain ⟨fd, F⟩ := c.defs (d := dI24) (List.mem_of_getElem? (i := 22) rfl)
  exact ⟨B.xc, B.nof _ (List.mem_cons_self ..), B.nof _ (List.mem_cons_of_mem _ (List.mem_cons_self ..)), _, fd, B.ini, B.tyI, okI24 F, fun s a u v => binds_all F (fun _ _ _ _ _ _ => rfl) s, fun s a u v => binds_all F (fun _ _ _ _ _ _ => rfl) s⟩
theorem x25 (c : SaysD fa fn K) (B : XF K mg "NoFixed" ["index"]) : X1 P w K mg base "NoFixed" "index" (ga K "NoFixed") := by
  obtain ⟨fd, F⟩ := c.defs (d := dI25) (List.mem_of_getElem? (i := 23) rfl)
  exact ⟨B.xc, B.nof _ (List.mem_cons_self ..), _, fd, B.ini, B.tyI, okI25 F, fun s a u => binds_all F (fun _ _ _ _ _ _ => rfl) s, fun s a u => binds_all F (fun _ _ _ _ _ _ => rfl) s⟩
theorem x26 (c : SaysD fa fn K) (B : XF K mg "NotBeside" ["part"]) : X1 P w K mg base "NotBeside" "part" (ga K "NotBeside") := by
  obtain ⟨fd, F⟩ := c.defs (d := dI26) (List.mem_of_getElem? (i := 24) rfl)
  exact ⟨B.xc, B.nof _ (List.mem_cons_self ..), _, fd, B.ini, B.tyI, okI26 F, fun s a u => binds_all F (fun _ _ _ _ _ _ => rfl) s, fun s a u => binds_all F (fun _ _ _ _ _ _ => rfl) s⟩
theorem x27 (c : SaysD fa fn K) (B : XF K mg "NoBox" ["index"]) : X1 P w K mg base "NoBox" "index" (ga K "NoBox") := by
  obtain ⟨fd, F⟩ := c.defs (d := dI27) (List.mem_of_getElem? (i := 25) rfl)
  exact ⟨B.xc, B.nof _ (List.mem_cons_self ..), _, fd, B.ini, B.tyI, okI27 F, fun s a u => binds_all F (fun _ _ _ _ _ _ => rfl) s, fun s a u => binds_all F (fun _ _ _ _ _ _ => rfl) s⟩
theorem x28 (c : SaysD fa fn K) (B : XF K mg "TooGreat" ["most"]) : X1 P w K mg base "TooGreat" "most" (ga K "TooGreat") := by
  obtain ⟨fd, F⟩ := c.defs (d := dI28) (List.mem_of_getElem? (i := 26) rfl)
  exact ⟨B.xc, B.nof _ (List.mem_cons_self ..), _, fd, B.ini, B.tyI, okI28 F, fun s a u => binds_all F (fun _ _ _ _ _ _ => rfl) s, fun s a u => binds_all F (fun _ _ _ _ _ _ => rfl) s⟩
end
end K4


set_option Elab.async false
set_option autoImplicit false
set_option linter.all false
set_option maxRecDepth 100000
set_option maxHeartbeats 4000000
namespace K4
open PySem PySem.Spec PyProof.Rows L2 Evl He
structure Txt (mg : Str → Option Value) : Prop where
  isinstance : mg "isinstance" = none
  len : mg "len" = none
  range : mg "range" = none
  enumerate : mg "enumerate" = none
  int : mg "int" = none
  ve : mg "ValueError" = none
/-- a def of the text that keeps a promise, by its name -/
structure Dn (P : Program) (w : World) (K : PySem.W.Frag) (mg : Str → Option Value) (base : Heap) (k : Nat) (x : Str) (ps : List Str) (sp : Sp) : Prop where
  ex : ∃ (f : Addr) (fd : FuncData), FnOk P w K mg base CX0 k f fd ps sp ∧ mg x = some (.ref f) ∧ PySem.W.keepIn K (.ref f) = true ∧ Binds K fd ps []
theorem pe_d {X : Cx} {k : Nat} {x : Str} {ps : List Str} {sp : Sp} {e : Expr} {es : List Expr} {t : TA} {p pos : Pos} (D : Dn X.prog X.w X.K X.mg X.base k x ps sp) (hr : Room k X.A) (ha : PA X (e :: es) t) (hg : Gl X x := by rfl) (hx : (x == ("__debug__" : Str)) = false := by decide)
    (hs : starEach (e :: es) X.env = (false, eval e X.env) :: starEach es X.env := by rfl) (hp : (backTo pos (starEach es X.env)).any (·.1) = false := by rfl) : PE X (.Call (.Name x p) (e :: es) [] pos) (tCall sp [] E0 t) := by
  obtain ⟨f, fd, G, hm, hk, b⟩ := D.ex
  exact pe_call G hr hg hm hk b .nil pass0 ha hx hs hp
theorem dn_mk {P : Program} {w : World} {K : PySem.W.Frag} {mg : Str → Option Value} {base : Heap} {k : Nat} {x : Str} {st : Stmt} {ps : List Str} {sp : Sp} {f : Addr} {fd : FuncData} (F : FnP K x st f fd) (g : mg x = some (.ref f))
    (b : ∀ (kV doc pm : Value) (an : Option Addr) (cdv ct : Value) (us : List Value), us.length = ps.length → bindArgs (PySem.W.fnOf x x (defArgs st) (defBody st) (defScope st) .none kV doc pm an cdv ct) ⟨us, []⟩ = pure (ps.zip us))
    (ok : FnOk P w K mg base CX0 k f fd ps sp) : Dn P w K mg base k x ps sp := ⟨f, fd, ok, g, F.kp, FunD.bindsN F b⟩
/-! ### the well -/
structure Well (a b c : Int) : Prop where
  a0 : 0 ≤ a
  b0 : 0 ≤ b
  b1 : b < 8589934592
  c0 : 0 ≤ c
def spDraw : Sp := fun vs H Q _ => ∃ (p : Addr) (a b c m : Int), vs = [.ref p, .int m] ∧ H p = some (.lst [.int a, .int b, .int c]) ∧ Well a b c ∧ c < 1000000 ∧ 1 ≤ m ∧ m ≤ 1000000 ∧
  ∀ r a' c', 0 ≤ r → r < m → Well a' b c' → c' ≤ c + 1 → Q (.int r) (upd H p (.lst [.int a', .int b, .int c']))
section
variable {P : Program} {w : World} {K : PySem.W.Frag} {mg : Str → Option Value} {base : Heap} {f : Addr} {fd : FuncData}
theorem sc_draw : FnScope ["_law_well", "_law_many", "_law_found", "_law_figure"] ["_law_well", "_law_many"] (defScope (top 30)) := ⟨rfl, rfl, rfl, by decide +kernel, rfl, by decide +kernel, by decide +kernel⟩
theorem ok_draw (F : FnP K "_law_draw" (top 30) f fd) (T : Txt mg) : FnOk P w K mg base CX0 1 f fd ["_law_well", "_law_many"] spDraw := by
  have nd := sc_draw.nd
  refine F.ok sc_draw (fun vs H Q E h => ?_) (fun cdv A outer s H vs Q E hr h => ⟨_, PSs.nox (pss_cons (ps_if (pt_cmpR op_gt (pe_ix ix_list (pv 0) pe_int (fun _ _ => rfl)) pe_int (nomark _)) (pss_cons (ps_set (i := 2) nd rfl (Or.inl rfl) (pe_op op_mod (pe_callTy call_int1 (by rfl) T.int (by decide +kernel) (pa_cons (pe_ix ix_list (pv 0) pe_int (fun _ _ => rfl)) pa_nil)) (pv 1)))
      (pss_cons (ps_asg (pe_op op_fdiv (pe_ix ix_list (pv 0) pe_int (fun _ _ => rfl)) (pv 1)) (pg_sub (pv 0) pe_int set_list))
      (pss_one (ps_ret (pv 2))))) pss_nil)
      (pss_cons (ps_asg (pe_op op_add (pe_ix ix_list (pv 0) pe_int (fun _ _ => rfl)) pe_int) (pg_sub (pv 0) pe_int set_list))
      (pss_cons (ps_set (i := 3) nd rfl (Or.inl rfl) (pe_op op_mod (pe_callTy call_int1 (by rfl) T.int (by decide +kernel) (pa_cons (pe_op op_mul (pe_op op_add (pe_op op_add (pe_ix ix_list (pv 0) pe_int (fun _ _ => rfl)) (pe_op op_mul pe_int (pe_ix ix_list (pv 0) pe_int (fun _ _ => rfl)))) pe_int) pe_int) pa_nil)) pe_int))
      (pss_cons (ps_set (i := 3) nd rfl (Or.inl rfl) (pe_op op_mod (pe_callTy call_int1 (by rfl) T.int (by decide +kernel) (pa_cons (pe_op op_mul (pv 3) (pe_op op_add (pe_op op_fdiv (pv 3) pe_int) pe_int)) pa_nil)) pe_int))
      (pss_one (ps_ret (pe_op op_mod (pe_callTy call_int1 (by rfl) T.int (by decide +kernel) (pa_cons (pe_op op_mod (pe_callTy call_int1 (by rfl) T.int (by decide +kernel) (pa_cons (pe_op op_mul (pv 3) (pe_op op_add (pe_op op_fdiv (pv 3) pe_int) pe_int)) pa_nil)) pe_int) pa_nil)) (pv 1)))))))), ?_⟩)
  · obtain ⟨p, a, b, c, m, rfl, _⟩ := h
    rfl
  · obtain ⟨p, a, b, c, m, rfl, hp, W, hc, m1, m2, k⟩ := h
    have hS := SqL.of (K := K) hp
    have h1 := W.a0
    have h2 := W.b0
    have h3 := W.b1
    have h4 := W.c0
    refine ⟨_, rfl, p, _, _, _, rfl, rfl, hS, rfl, _, _, rfl, rfl, _, rfl, ?_⟩
    refine ite2 (fun ha => ?_) (fun ha => ?_)
    · refine ⟨_, rfl, p, _, _, _, rfl, rfl, hS, rfl, .inl ⟨_, rfl, _, rfl, _, _, rfl, rfl, (by show (0 : Int) < m; omega), ?_⟩⟩
      refine ⟨_, rfl, p, _, _, _, rfl, rfl, hS, rfl, _, rfl, _, _, rfl, rfl, ⟨by show (0 : Int) < m; omega, by show m < 1073741824; omega⟩, ?_⟩
      refine ⟨_, rfl, p, _, _, 0, rfl, rfl, hp, rfl, ?_⟩
      refine ⟨_, rfl, ?_⟩
      exact k _ _ _ (Int.emod_nonneg _ (by omega)) (Int.emod_lt_of_pos _ (by omega)) ⟨Int.ediv_nonneg h1 (by omega), h2, h3, h4⟩ (by omega)
    · refine ⟨_, rfl, p, _, _, _, rfl, rfl, hS, rfl, _, _, rfl, rfl, ?_⟩
      refine ⟨_, rfl, p, _, _, 2, rfl, rfl, hp, rfl, ?_⟩
      have hp' : upd H p (.lst [.int a, .int b, .int (c + 1)]) p = some (.lst [.int a, .int b, .int (c + 1)]) := upd_same
      have hS' := SqL.of (K := K) hp'
      refine ⟨_, rfl, p, _, _, _, rfl, rfl, hS', rfl, _, rfl, p, _, _, _, rfl, rfl, hS', rfl, _, _, rfl, rfl, .inl ⟨by decide, by decide⟩, _, _, rfl, rfl, _, _, rfl, rfl, _, _, rfl, rfl, .inr ⟨by decide, by decide⟩, .inl ⟨_, rfl, _, _, rfl, rfl, (by show (0 : Int) < 2147483647; decide), ?_⟩⟩
      have y1 := Int.emod_nonneg ((b + 104729 * (c + 1) + 1) * 48271) (show (2147483647 : Int) ≠ 0 by decide)
      have y2 := Int.emod_lt_of_pos ((b + 104729 * (c + 1) + 1) * 48271) (show (0 : Int) < 2147483647 by decide)
      generalize hy : ((b + 104729 * (c + 1) + 1) * 48271) % 2147483647 = y at y1 y2
      refine ⟨_, rfl, _, rfl, _, _, rfl, rfl, ⟨by decide, by decide⟩, _, _, rfl, rfl, _, _, rfl, rfl, .inl ⟨?_, ?_⟩, .inl ⟨_, rfl, _, _, rfl, rfl, (by show (0 : Int) < 2147483647; decide), ?_⟩⟩
      · show -(2 ^ 64) < ((b + 104729 * (c + 1) + 1) * 48271) % 2147483647
        omega
      · show ((b + 104729 * (c + 1) + 1) * 48271) % 2147483647 < 2 ^ 64
        omega
      have z1 := Int.emod_nonneg ((((b + 104729 * (c + 1) + 1) * 48271) % 2147483647) * ((((b + 104729 * (c + 1) + 1) * 48271) % 2147483647) / 1009 + 69621)) (show (2147483647 : Int) ≠ 0 by decide)
      have z2 := Int.emod_lt_of_pos ((((b + 104729 * (c + 1) + 1) * 48271) % 2147483647) * ((((b + 104729 * (c + 1) + 1) * 48271) % 2147483647) / 1009 + 69621)) (show (0 : Int) < 2147483647 by decide)
      refine ⟨_, rfl, _, rfl, _, _, rfl, rfl, ⟨by decide, by decide⟩, _, _, rfl, rfl, _, _, rfl, rfl, .inl ⟨?_, ?_⟩, .inl ⟨_, rfl, _, _, rfl, rfl, (by show (0 : Int) < 2147483399; decide), .inl ⟨_, rfl, _, rfl, _, _, rfl, rfl, (by show (0 : Int) < m; omega), ?_⟩⟩⟩
      · exact Int.lt_of_lt_of_le (by decide) z1
      · exact Int.lt_trans z2 (by decide)
      exact k _ _ _ (Int.emod_nonneg _ (by omega)) (Int.emod_lt_of_pos _ (by omega)) ⟨h1, h2, h3, by omega⟩ (by omega)
/-! ### one of some values -/
def spOne (K : PySem.W.Frag) : Sp := fun vs H Q _ => ∃ (p q : Addr) (a b c : Int) (xs : List V), vs = [.ref p, .ref q] ∧ H p = some (.lst [.int a, .int b, .int c]) ∧ Well a b c ∧ c < 1000000 ∧ p ≠ q ∧ SqL K H q xs ∧ 1 ≤ xs.length ∧ xs.length ≤ 1000000 ∧
  ∀ v a' c', v ∈ xs → Well a' b c' → c' ≤ c + 1 → Q v (upd H p (.lst [.int a', .int b, .int c']))
theorem seq_but {K : PySem.W.Frag} {H : Hp} {p q : Addr} {o : HO} {xs : List V} (ne : p ≠ q) (h : SqL K H q xs) : SqL K (upd H p o) q xs := by
  rcases h with (h | ⟨o', h⟩) | h
  · exact .inl (.inl (by rw [upd_ne ne.symm]; exact h))
  · exact .inl (.inr ⟨o', by rw [upd_ne ne.symm]; exact h⟩)
  · exact .inr h
theorem sc_one : FnScope ["_law_well", "_law_some_so"] ["_law_well", "_law_some_so"] (defScope (top 31)) := ⟨rfl, rfl, rfl, by decide +kernel, rfl, by decide +kernel, by decide +kernel⟩
theorem ok_one (F : FnP K "_law_one" (top 31) f fd) (T : Txt mg) (D_law_draw : Dn P w K mg base 1 "_law_draw" ["_law_well", "_law_many"] spDraw) : FnOk P w K mg base CX0 2 f fd ["_law_well", "_law_some_so"] (spOne K) := by
  have nd := sc_one.nd
  refine F.ok sc_one (fun vs H Q E h => ?_) (fun cdv A outer s H vs Q E hr h => ⟨_, PSs.nox (pss_one (ps_ret (pe_ix ix_list (pv 1) (pe_d D_law_draw (hr.mono (by decide)) (pa_cons (pv 0) (pa_cons (pe_callB call_len_seq (by rfl) T.len PySem.boot_len (pa_cons (pv 1) pa_nil)) pa_nil))) (fun _ _ => rfl)))), ?_⟩)
  · obtain ⟨p, q, a, b, c, xs, rfl, _⟩ := h
    rfl
  · obtain ⟨p, q, a, b, c, xs, rfl, hp, W, hc, ne, hS, l1, l2, k⟩ := h
    refine ⟨_, rfl, _, rfl, _, rfl, _, _, rfl, .inl hS, p, a, b, c, _, rfl, hp, W, hc, (by omega), (by omega), fun r a' c' r0 r1 W' hc' => ?_⟩
    have hr1 : r.toNat < xs.length := by omega
    have er : ((r.toNat : Nat) : Int) = r := Int.toNat_of_nonneg r0
    refine ⟨q, xs, r, xs[r.toNat], rfl, rfl, seq_but ne hS, ?_, k _ _ _ (List.getElem_mem hr1) W' hc'⟩
    have e := atI_nat (xs := xs) (j := r.toNat) (v := xs[r.toNat]) (by rw [List.getElem?_eq_getElem hr1])
    rw [er] at e
    exact e
end
end K4


set_option Elab.async false
set_option autoImplicit false
set_option linter.all false
set_option maxRecDepth 100000
set_option maxHeartbeats 4000000
namespace K4
open PySem PySem.Spec PyProof.Rows L2 Evl He
/-! ### evaluation to exceptions, to lists of them -/
def XA (H : Hp) (l : List (Addr × List (Str × V))) (as : List Addr) : Prop := Paired (fun a (p : Addr × List (Str × V)) => ExAt H a p.1 p.2) as l
theorem XA.up {H H' : Hp} {l : List (Addr × List (Str × V))} {as : List Addr} (e : Ex H H') (h : XA H l as) : XA H' l as := by
  induction h with
  | nil => exact .nil
  | cons x t ih => exact .cons (x.up e) ih
theorem XA.app {H : Hp} {l l' : List (Addr × List (Str × V))} {as as' : List Addr} (h : XA H l as) (h' : XA H l' as') : XA H (l ++ l') (as ++ as') := by
  induction h with
  | nil => exact h'
  | cons x t ih => exact .cons x ih
theorem XA.get {H : Hp} {l : List (Addr × List (Str × V))} {as : List Addr} (h : XA H l as) : ∀ {i : Nat} {p : Addr × List (Str × V)}, l[i]? = some p → ∃ a, as[i]? = some a ∧ ExAt H a p.1 p.2 := by
  induction h with
  | nil => intro i p e; cases e
  | cons x t ih =>
    intro i p e
    cases i with
    | zero =>
      cases e
      exact ⟨_, rfl, x⟩
    | succ i => exact ih e
theorem XA.len {H : Hp} {l : List (Addr × List (Str × V))} {as : List Addr} (h : XA H l as) : as.length = l.length := by
  induction h with
  | nil => rfl
  | cons x t ih => exact congrArg Nat.succ ih
def EvX (te : TE) (σ : L2.St) (H : Hp) (C : Addr) (fs : List (Str × V)) : Prop := ∀ H1, Ex H H1 → ∀ Q : VK, (∀ a H2, Ex H1 H2 → ExAt H2 a C fs → Q (.ref a) H2) → te σ H1 Q
def EvXs (ta : TA) (σ : L2.St) (H : Hp) (l : List (Addr × List (Str × V))) : Prop := ∀ H1, Ex H H1 → ∀ Q : List V → Hp → Prop, (∀ as H2, Ex H1 H2 → XA H2 l as → Q (as.map V.ref) H2) → ta σ H1 Q
def EvLX (te : TE) (σ : L2.St) (H : Hp) (l : List (Addr × List (Str × V))) : Prop := ∀ H1, Ex H H1 → ∀ Q : VK, (∀ p as H2, Ex H1 H2 → H2 p = some (.lst (as.map V.ref)) → XA H2 l as → Q (.ref p) H2) → te σ H1 Q
section
variable {K : PySem.W.Frag} {mg : Str → Option Value} {σ : L2.St} {H : Hp} {C : Addr} {fs : List (Str × V)} {l l' : List (Addr × List (Str × V))} {te tu : TE} {ta tr : TA} {f g : Str} {v z : V} {D : Ends}
theorem ex1 (h : Ev te σ H v) : EvX (tX1 C f te) σ H C [(f, v)] := fun H1 e Q q => h H1 e _ fun H2 e2 a H3 na e3 x => q a H3 (e2.trans e3) x
theorem ex2 (h : Ev te σ H v) (h' : Ev tu σ H z) : EvX (tX2 C f g te tu) σ H C [(g, z), (f, v)] := fun H1 e Q q =>
  h H1 e _ fun H2 e2 => h' H2 (e.trans e2) _ fun H3 e3 a H4 na e4 x => q a H4 ((e2.trans e3).trans e4) x
theorem ex2k (h : Ev te σ H v) (h' : Ev tu σ H z) : EvX (tX2k C f g te tu) σ H C [(g, z), (f, v)] := fun H1 e Q q =>
  h' H1 e _ fun H2 e2 => h H2 (e.trans e2) _ fun H3 e3 a H4 na e4 x => q a H4 ((e2.trans e3).trans e4) x
theorem xs_nil : EvXs tNil σ H [] := fun H1 _ Q q => q [] H1 (Ex.refl _) .nil
theorem xs_cons (h : EvX te σ H C fs) (hr : EvXs tr σ H l) : EvXs (tCons te tr) σ H ((C, fs) :: l) := fun H1 e Q q =>
  h H1 e _ fun a H2 e2 x => hr H2 (e.trans e2) _ fun as H3 e3 xs => q (a :: as) H3 (e2.trans e3) (.cons (x.up e3) xs)
theorem lx_lst (h : EvXs ta σ H l) (hl : l.length ≤ 100000) : EvLX (tLst ta) σ H l := fun H1 e Q q =>
  h H1 e _ fun as H2 e2 x => ⟨by rw [List.length_map, x.len]; exact sz_of hl, fun p hp => q p as _ (e2.trans (Ex.new hp)) upd_same (x.up (Ex.new hp))⟩
theorem lx_cat {p : Addr} {as : List Addr} (ha : Ev te σ H (.ref p)) (hp : H p = some (.lst (as.map V.ref))) (x : XA H l as) (hb : EvLX tu σ H l') (hl : l.length + l'.length ≤ 100000) : EvLX (tOp rCat te tu) σ H (l ++ l') := fun H1 e Q q =>
  ha H1 e _ fun H2 e2 => hb H2 (e.trans e2) _ fun b bs H3 e3 h3 x3 => ⟨p, b, as.map V.ref, bs.map V.ref, rfl, rfl, e3 _ _ (e2 _ _ (e _ _ hp)), h3, by rw [List.length_map, List.length_map, x.len, x3.len]; exact sz_of hl,
    fun c hc => q c (as ++ bs) _ ((e2.trans e3).trans (Ex.new hc)) (by rw [List.map_append]; exact upd_same) (XA.app ((x.up ((e.trans e2).trans e3)).up (Ex.new hc)) (x3.up (Ex.new hc)))⟩
theorem sa_lx {i : Nat} (h : EvLX te σ H l) (k : ∀ p as H1, Ex H H1 → H1 p = some (.lst (as.map V.ref)) → XA H1 l as → D.nx (σ.set i (some (.ref p))) H1) : tAsg te (gName i) D σ H := h H (Ex.refl H) _ fun p as H1 e h1 x => k p as H1 e h1 x
theorem el_cat {p : Addr} {xs ys : List V} (ha : Ev te σ H (.ref p)) (hp : H p = some (.lst xs)) (hb : EvL tu σ H ys) (hl : xs.length + ys.length ≤ 100000) : EvL (tOp rCat te tu) σ H (xs ++ ys) := fun H1 e Q q =>
  ha H1 e _ fun H2 e2 => hb H2 (e.trans e2) _ fun b H3 nb e3 h3 => ⟨p, b, xs, ys, rfl, rfl, e3 _ _ (e2 _ _ (e _ _ hp)), h3, sz_of hl, fun l nl => q l _ (fresh_back (e2.trans e3) nl) ((e2.trans e3).trans (Ex.new nl)) upd_same⟩
theorem ev_xat {a : Addr} {y : Str} (h : Ev te σ H (.ref a)) (B : XC K mg y C) (nf : PySem.W.findIn K (.ref C) f = some none) (x : ExAt H a C fs) (l : fs.lookup f = some v) : Ev (tXat K mg f te) σ H v := fun H1 e Q q =>
  h H1 e _ fun H2 e2 => ⟨a, C, y, fs, v, rfl, B, nf, x.up (e.trans e2), l, q H2 e2⟩
theorem rc_xis {a : Addr} {y : Str} {c : V} {u : Value} {b : Bool} (k : ClsV c u) (B : XC K mg y C) (x : ExAt H a C fs) (e : PySem.W.kitOne K (.ref C) u = some b) : RC (rXis K mg) [.ref a, c] H (.bl b) := fun H1 e1 Q q =>
  ⟨a, C, y, fs, c, u, b, rfl, k, B, x.up e1, e, q H1 (Ex.refl H1)⟩
theorem ev_is {a : Addr} {y : Str} {c : V} {u : Value} {b : Bool} {i : Nat} (hi : σ[i]? = some (some (.ref a))) (k : ClsV c u) (B : XC K mg y C) (x : ExAt H a C fs) (e : PySem.W.kitOne K (.ref C) u = some b) :
    Ev (tCB (rXis K mg) (tCons (tVar i) (tCons (tC c) tNil))) σ H (.bl b) := ev_cb (ea_cons (ev_var hi) (ea_cons ev_c ea_nil)) (rc_xis k B x e)
end
/-! ### the classes together -/
structure XAll (P : Program) (w : World) (K : PySem.W.Frag) (mg : Str → Option Value) (base : Heap) : Prop where
  x2 : X1 P w K mg base "NoNumber" "part" (ga K "NoNumber")
  x3 : X2 P w K mg base "NoShape" "part" "index" (ga K "NoShape")
  x4 : X1 P w K mg base "NoSet" "some" (ga K "NoSet")
  x5 : X1 P w K mg base "NoDurations" "index" (ga K "NoDurations")
  x6 : X1 P w K mg base "NoWeights" "index" (ga K "NoWeights")
  x7 : X2 P w K mg base "NoBound" "part" "index" (ga K "NoBound")
  x8 : X1 P w K mg base "NoPairs" "index" (ga K "NoPairs")
  x9 : X1 P w K mg base "NoOrder" "index" (ga K "NoOrder")
  x10 : X1 P w K mg base "NoGraph" "index" (ga K "NoGraph")
  x11 : X1 P w K mg base "NoStarts" "index" (ga K "NoStarts")
  x12 : X1 P w K mg base "NoSchedule" "fault" (ga K "NoSchedule")
  x13 : X1 P w K mg base "NoActivity" "one" (ga K "NoActivity")
  x14 : X1 P w K mg base "NoText" "line" (ga K "NoText")
  x15 : X1 P w K mg base "NoChange" "word" (ga K "NoChange")
  x16 : X2 P w K mg base "NoCalendar" "part" "index" (ga K "NoCalendar")
  x17 : X2 P w K mg base "NoProject" "part" "index" (ga K "NoProject")
  x18 : X1 P w K mg base "NoChoice" "index" (ga K "NoChoice")
  x19 : X1 P w K mg base "NoAhead" "index" (ga K "NoAhead")
  x20 : X2 P w K mg base "NoDerivation" "part" "index" (ga K "NoDerivation")
  x21 : X1 P w K mg base "NoPlan" "fault" (ga K "NoPlan")
  x22 : X2 P w K mg base "NoRota" "part" "index" (ga K "NoRota")
  x23 : X1 P w K mg base "NoMix" "index" (ga K "NoMix")
  x24 : X2 P w K mg base "NoBlind" "part" "index" (ga K "NoBlind")
  x25 : X1 P w K mg base "NoFixed" "index" (ga K "NoFixed")
  x26 : X1 P w K mg base "NotBeside" "part" (ga K "NotBeside")
  x27 : X1 P w K mg base "NoBox" "index" (ga K "NoBox")
  x28 : X1 P w K mg base "TooGreat" "most" (ga K "TooGreat")
  kit : kB K = true
def nm (k : Nat) : Str := nms.getD k ""
theorem XAll.c {P : Program} {w : World} {K : PySem.W.Frag} {mg : Str → Option Value} {base : Heap} (B : XAll P w K mg base) : ∀ {k : Nat}, k < 27 → XC K mg (nm k) (ga K (nm k))
  | 0, _ => B.x2.xc
  | 1, _ => B.x3.xc
  | 2, _ => B.x4.xc
  | 3, _ => B.x5.xc
  | 4, _ => B.x6.xc
  | 5, _ => B.x7.xc
  | 6, _ => B.x8.xc
  | 7, _ => B.x9.xc
  | 8, _ => B.x10.xc
  | 9, _ => B.x11.xc
  | 10, _ => B.x12.xc
  | 11, _ => B.x13.xc
  | 12, _ => B.x14.xc
  | 13, _ => B.x15.xc
  | 14, _ => B.x16.xc
  | 15, _ => B.x17.xc
  | 16, _ => B.x18.xc
  | 17, _ => B.x19.xc
  | 18, _ => B.x20.xc
  | 19, _ => B.x21.xc
  | 20, _ => B.x22.xc
  | 21, _ => B.x23.xc
  | 22, _ => B.x24.xc
  | 23, _ => B.x25.xc
  | 24, _ => B.x26.xc
  | 25, _ => B.x27.xc
  | 26, _ => B.x28.xc
  | k + 27, h => absurd h (by omega)
theorem XAll.is {P : Program} {w : World} {K : PySem.W.Frag} {mg : Str → Option Value} {base : Heap} (B : XAll P w K mg base) {k j : Nat} (hk : k < 27) (hj : j < 27) : PySem.W.kitOne K (.ref (ga K (nm k))) (.ref (ga K (nm j))) = some (decide (j = k)) :=
  of_decide_eq_true (List.all_eq_true.mp (List.all_eq_true.mp (ba B.kit).1 k (List.mem_range.mpr hk)) j (List.mem_range.mpr hj))
theorem nm_mem {k : Nat} (hk : k < 27) : nm k ∈ nms := by
  have e : nms.length = 27 := by decide +kernel
  unfold nm
  rw [List.getD_eq_getElem?_getD, List.getElem?_eq_getElem (by omega)]
  exact List.getElem_mem _
theorem XAll.ce {P : Program} {w : World} {K : PySem.W.Frag} {mg : Str → Option Value} {base : Heap} (B : XAll P w K mg base) {k : Nat} (hk : k < 27) : PySem.W.kitOne K (.ref (ga K (nm k))) (.ref (ga K "CrewError")) = some true ∧ PySem.W.kitOne K (.ref (ga K (nm k))) (.type "ValueError") = some true := by
  obtain ⟨h1, h2⟩ := ba (List.all_eq_true.mp (ba (ba B.kit).2).1 (nm k) (nm_mem hk))
  exact ⟨of_decide_eq_true h1, of_decide_eq_true h2⟩
theorem XAll.ve {P : Program} {w : World} {K : PySem.W.Frag} {mg : Str → Option Value} {base : Heap} (B : XAll P w K mg base) : PySem.W.kitOne K (.type "ValueError") (.ref (ga K "CrewError")) = some false := of_decide_eq_true (ba (ba B.kit).2).2

def sg0 (K : PySem.W.Frag) (x : V) : List (Addr × List (Str × V)) := [(ga K "NoNumber", [("part", x)]), (ga K "NoShape", [("index", .int 7), ("part", x)]), (ga K "NoSet", [("some", x)]), (ga K "NoDurations", [("index", x)])]
def sg1 (K : PySem.W.Frag) (x : V) : List (Addr × List (Str × V)) := [(ga K "NoWeights", [("index", x)]), (ga K "NoBound", [("index", .int 7), ("part", x)]), (ga K "NoPairs", [("index", x)]), (ga K "NoOrder", [("index", x)])]
def sg2 (K : PySem.W.Frag) (x : V) : List (Addr × List (Str × V)) := [(ga K "NoGraph", [("index", x)]), (ga K "NoStarts", [("index", x)]), (ga K "NoSchedule", [("fault", x)]), (ga K "NoActivity", [("one", x)])]
def sg3 (K : PySem.W.Frag) (x : V) : List (Addr × List (Str × V)) := [(ga K "NoText", [("line", x)]), (ga K "NoChange", [("word", x)]), (ga K "NoCalendar", [("index", .int 7), ("part", x)]), (ga K "NoProject", [("index", .int 7), ("part", x)])]
def sg4 (K : PySem.W.Frag) (x : V) : List (Addr × List (Str × V)) := [(ga K "NoChoice", [("index", x)]), (ga K "NoAhead", [("index", x)]), (ga K "NoDerivation", [("index", .int 7), ("part", x)]), (ga K "NoPlan", [("fault", x)])]
def sg5 (K : PySem.W.Frag) (x : V) : List (Addr × List (Str × V)) := [(ga K "NoRota", [("index", .int 7), ("part", x)]), (ga K "NoMix", [("index", x)]), (ga K "NoBlind", [("index", .int 7), ("part", x)]), (ga K "NoFixed", [("index", x)])]
def sg6 (K : PySem.W.Frag) (x : V) : List (Addr × List (Str × V)) := [(ga K "NotBeside", [("part", x)]), (ga K "NoBox", [("index", x)]), (ga K "TooGreat", [("most", x)])]
def spc (K : PySem.W.Frag) (x : V) : List (Addr × List (Str × V)) := ((((((sg0 K x ++ sg1 K x) ++ sg2 K x) ++ sg3 K x) ++ sg4 K x) ++ sg5 K x) ++ sg6 K x)
/-! ### which classes an exception belongs to -/
def hits (k : Nat) : List V := (List.range 27).map fun j => V.bl (decide (j = k))
def spTaken (K : PySem.W.Frag) : Sp := fun vs H Q _ => ∃ (a : Addr) (k : Nat) (fs : List (Str × V)), vs = [.ref a] ∧ k < 27 ∧ ExAt H a (ga K (nm k)) fs ∧ ∀ p H', Ex H H' → H' p = some (.lst (hits k)) → Q (.ref p) H'
section
variable {P : Program} {w : World} {K : PySem.W.Frag} {mg : Str → Option Value} {base : Heap} {f : Addr} {fd : FuncData}
theorem sc_taken : FnScope ["_law_e", "_law_found"] ["_law_e"] (defScope (top 32)) := ⟨rfl, rfl, rfl, by decide +kernel, rfl, by decide +kernel, by decide +kernel⟩
theorem ok_taken (F : FnP K "_law_taken" (top 32) f fd) (T : Txt mg) (B : XAll P w K mg base) : FnOk P w K mg base CX0 1 f fd ["_law_e"] (spTaken K) := by
  have nd := sc_taken.nd
  refine F.ok sc_taken (fun vs H Q E h => ?_) (fun cdv A outer s H vs Q E hr h => ⟨_, PSs.nox (pss_cons (ps_set (i := 1) nd rfl (Or.inl rfl) (pe_lst (pa_cons (pe_callB call_xis (by rfl) T.isinstance (by decide +kernel) (pa_cons (pv 0) (pa_cons (pe_glob (v := .ref (ga K "NoNumber")) (by rfl) (B.c (k := 0) (by decide)).gC rfl) pa_nil))) (pa_cons (pe_callB call_xis (by rfl) T.isinstance (by decide +kernel) (pa_cons (pv 0) (pa_cons (pe_glob (v := .ref (ga K "NoShape")) (by rfl) (B.c (k := 1) (by decide)).gC rfl) pa_nil))) (pa_cons (pe_callB call_xis (by rfl) T.isinstance (by decide +kernel) (pa_cons (pv 0) (pa_cons (pe_glob (v := .ref (ga K "NoSet")) (by rfl) (B.c (k := 2) (by decide)).gC rfl) pa_nil))) pa_nil)))))
      (pss_cons (ps_set (i := 1) nd rfl (Or.inl rfl) (pe_op op_cat (pv 1) (pe_lst (pa_cons (pe_callB call_xis (by rfl) T.isinstance (by decide +kernel) (pa_cons (pv 0) (pa_cons (pe_glob (v := .ref (ga K "NoDurations")) (by rfl) (B.c (k := 3) (by decide)).gC rfl) pa_nil))) (pa_cons (pe_callB call_xis (by rfl) T.isinstance (by decide +kernel) (pa_cons (pv 0) (pa_cons (pe_glob (v := .ref (ga K "NoWeights")) (by rfl) (B.c (k := 4) (by decide)).gC rfl) pa_nil))) (pa_cons (pe_callB call_xis (by rfl) T.isinstance (by decide +kernel) (pa_cons (pv 0) (pa_cons (pe_glob (v := .ref (ga K "NoBound")) (by rfl) (B.c (k := 5) (by decide)).gC rfl) pa_nil))) pa_nil))))))
      (pss_cons (ps_set (i := 1) nd rfl (Or.inl rfl) (pe_op op_cat (pv 1) (pe_lst (pa_cons (pe_callB call_xis (by rfl) T.isinstance (by decide +kernel) (pa_cons (pv 0) (pa_cons (pe_glob (v := .ref (ga K "NoPairs")) (by rfl) (B.c (k := 6) (by decide)).gC rfl) pa_nil))) (pa_cons (pe_callB call_xis (by rfl) T.isinstance (by decide +kernel) (pa_cons (pv 0) (pa_cons (pe_glob (v := .ref (ga K "NoOrder")) (by rfl) (B.c (k := 7) (by decide)).gC rfl) pa_nil))) (pa_cons (pe_callB call_xis (by rfl) T.isinstance (by decide +kernel) (pa_cons (pv 0) (pa_cons (pe_glob (v := .ref (ga K "NoGraph")) (by rfl) (B.c (k := 8) (by decide)).gC rfl) pa_nil))) pa_nil))))))
      (pss_cons (ps_set (i := 1) nd rfl (Or.inl rfl) (pe_op op_cat (pv 1) (pe_lst (pa_cons (pe_callB call_xis (by rfl) T.isinstance (by decide +kernel) (pa_cons (pv 0) (pa_cons (pe_glob (v := .ref (ga K "NoStarts")) (by rfl) (B.c (k := 9) (by decide)).gC rfl) pa_nil))) (pa_cons (pe_callB call_xis (by rfl) T.isinstance (by decide +kernel) (pa_cons (pv 0) (pa_cons (pe_glob (v := .ref (ga K "NoSchedule")) (by rfl) (B.c (k := 10) (by decide)).gC rfl) pa_nil))) (pa_cons (pe_callB call_xis (by rfl) T.isinstance (by decide +kernel) (pa_cons (pv 0) (pa_cons (pe_glob (v := .ref (ga K "NoActivity")) (by rfl) (B.c (k := 11) (by decide)).gC rfl) pa_nil))) pa_nil))))))
      (pss_cons (ps_set (i := 1) nd rfl (Or.inl rfl) (pe_op op_cat (pv 1) (pe_lst (pa_cons (pe_callB call_xis (by rfl) T.isinstance (by decide +kernel) (pa_cons (pv 0) (pa_cons (pe_glob (v := .ref (ga K "NoText")) (by rfl) (B.c (k := 12) (by decide)).gC rfl) pa_nil))) (pa_cons (pe_callB call_xis (by rfl) T.isinstance (by decide +kernel) (pa_cons (pv 0) (pa_cons (pe_glob (v := .ref (ga K "NoChange")) (by rfl) (B.c (k := 13) (by decide)).gC rfl) pa_nil))) (pa_cons (pe_callB call_xis (by rfl) T.isinstance (by decide +kernel) (pa_cons (pv 0) (pa_cons (pe_glob (v := .ref (ga K "NoCalendar")) (by rfl) (B.c (k := 14) (by decide)).gC rfl) pa_nil))) pa_nil))))))
      (pss_cons (ps_set (i := 1) nd rfl (Or.inl rfl) (pe_op op_cat (pv 1) (pe_lst (pa_cons (pe_callB call_xis (by rfl) T.isinstance (by decide +kernel) (pa_cons (pv 0) (pa_cons (pe_glob (v := .ref (ga K "NoProject")) (by rfl) (B.c (k := 15) (by decide)).gC rfl) pa_nil))) (pa_cons (pe_callB call_xis (by rfl) T.isinstance (by decide +kernel) (pa_cons (pv 0) (pa_cons (pe_glob (v := .ref (ga K "NoChoice")) (by rfl) (B.c (k := 16) (by decide)).gC rfl) pa_nil))) (pa_cons (pe_callB call_xis (by rfl) T.isinstance (by decide +kernel) (pa_cons (pv 0) (pa_cons (pe_glob (v := .ref (ga K "NoAhead")) (by rfl) (B.c (k := 17) (by decide)).gC rfl) pa_nil))) pa_nil))))))
      (pss_cons (ps_set (i := 1) nd rfl (Or.inl rfl) (pe_op op_cat (pv 1) (pe_lst (pa_cons (pe_callB call_xis (by rfl) T.isinstance (by decide +kernel) (pa_cons (pv 0) (pa_cons (pe_glob (v := .ref (ga K "NoDerivation")) (by rfl) (B.c (k := 18) (by decide)).gC rfl) pa_nil))) (pa_cons (pe_callB call_xis (by rfl) T.isinstance (by decide +kernel) (pa_cons (pv 0) (pa_cons (pe_glob (v := .ref (ga K "NoPlan")) (by rfl) (B.c (k := 19) (by decide)).gC rfl) pa_nil))) (pa_cons (pe_callB call_xis (by rfl) T.isinstance (by decide +kernel) (pa_cons (pv 0) (pa_cons (pe_glob (v := .ref (ga K "NoRota")) (by rfl) (B.c (k := 20) (by decide)).gC rfl) pa_nil))) pa_nil))))))
      (pss_cons (ps_set (i := 1) nd rfl (Or.inl rfl) (pe_op op_cat (pv 1) (pe_lst (pa_cons (pe_callB call_xis (by rfl) T.isinstance (by decide +kernel) (pa_cons (pv 0) (pa_cons (pe_glob (v := .ref (ga K "NoMix")) (by rfl) (B.c (k := 21) (by decide)).gC rfl) pa_nil))) (pa_cons (pe_callB call_xis (by rfl) T.isinstance (by decide +kernel) (pa_cons (pv 0) (pa_cons (pe_glob (v := .ref (ga K "NoBlind")) (by rfl) (B.c (k := 22) (by decide)).gC rfl) pa_nil))) (pa_cons (pe_callB call_xis (by rfl) T.isinstance (by decide +kernel) (pa_cons (pv 0) (pa_cons (pe_glob (v := .ref (ga K "NoFixed")) (by rfl) (B.c (k := 23) (by decide)).gC rfl) pa_nil))) pa_nil))))))
      (pss_cons (ps_set (i := 1) nd rfl (Or.inl rfl) (pe_op op_cat (pv 1) (pe_lst (pa_cons (pe_callB call_xis (by rfl) T.isinstance (by decide +kernel) (pa_cons (pv 0) (pa_cons (pe_glob (v := .ref (ga K "NotBeside")) (by rfl) (B.c (k := 24) (by decide)).gC rfl) pa_nil))) (pa_cons (pe_callB call_xis (by rfl) T.isinstance (by decide +kernel) (pa_cons (pv 0) (pa_cons (pe_glob (v := .ref (ga K "NoBox")) (by rfl) (B.c (k := 25) (by decide)).gC rfl) pa_nil))) (pa_cons (pe_callB call_xis (by rfl) T.isinstance (by decide +kernel) (pa_cons (pv 0) (pa_cons (pe_glob (v := .ref (ga K "TooGreat")) (by rfl) (B.c (k := 26) (by decide)).gC rfl) pa_nil))) pa_nil))))))
      (pss_one (ps_ret (pv 1)))))))))))), ?_⟩)
  · obtain ⟨a, k, fs, rfl, _⟩ := h
    rfl
  · obtain ⟨a, k, fs, rfl, hk, x, q⟩ := h
    have Bk := B.c hk
    refine s_asgL (el_lst (ea_cons (ev_is rfl (.own _) Bk x (B.is (j := 0) hk (by decide))) (ea_cons (ev_is rfl (.own _) Bk x (B.is (j := 1) hk (by decide))) (ea_cons (ev_is rfl (.own _) Bk x (B.is (j := 2) hk (by decide))) ea_nil))) (by show 3 ≤ 100000; decide)) fun p1 H1 n1 e1 h1 => ?_
    have x1 := x.up e1
    refine s_asgL (el_cat (ev_var rfl) h1 (el_lst (ea_cons (ev_is rfl (.own _) Bk x1 (B.is (j := 3) hk (by decide))) (ea_cons (ev_is rfl (.own _) Bk x1 (B.is (j := 4) hk (by decide))) (ea_cons (ev_is rfl (.own _) Bk x1 (B.is (j := 5) hk (by decide))) ea_nil))) (by show 3 ≤ 100000; decide)) (by show 3 + 3 ≤ 100000; decide)) fun p2 H2 n2 e2 h2 => ?_
    have x2 := x1.up e2
    refine s_asgL (el_cat (ev_var rfl) h2 (el_lst (ea_cons (ev_is rfl (.own _) Bk x2 (B.is (j := 6) hk (by decide))) (ea_cons (ev_is rfl (.own _) Bk x2 (B.is (j := 7) hk (by decide))) (ea_cons (ev_is rfl (.own _) Bk x2 (B.is (j := 8) hk (by decide))) ea_nil))) (by show 3 ≤ 100000; decide)) (by show 6 + 3 ≤ 100000; decide)) fun p3 H3 n3 e3 h3 => ?_
    have x3 := x2.up e3
    refine s_asgL (el_cat (ev_var rfl) h3 (el_lst (ea_cons (ev_is rfl (.own _) Bk x3 (B.is (j := 9) hk (by decide))) (ea_cons (ev_is rfl (.own _) Bk x3 (B.is (j := 10) hk (by decide))) (ea_cons (ev_is rfl (.own _) Bk x3 (B.is (j := 11) hk (by decide))) ea_nil))) (by show 3 ≤ 100000; decide)) (by show 9 + 3 ≤ 100000; decide)) fun p4 H4 n4 e4 h4 => ?_
    have x4 := x3.up e4
    refine s_asgL (el_cat (ev_var rfl) h4 (el_lst (ea_cons (ev_is rfl (.own _) Bk x4 (B.is (j := 12) hk (by decide))) (ea_cons (ev_is rfl (.own _) Bk x4 (B.is (j := 13) hk (by decide))) (ea_cons (ev_is rfl (.own _) Bk x4 (B.is (j := 14) hk (by decide))) ea_nil))) (by show 3 ≤ 100000; decide)) (by show 12 + 3 ≤ 100000; decide)) fun p5 H5 n5 e5 h5 => ?_
    have x5 := x4.up e5
    refine s_asgL (el_cat (ev_var rfl) h5 (el_lst (ea_cons (ev_is rfl (.own _) Bk x5 (B.is (j := 15) hk (by decide))) (ea_cons (ev_is rfl (.own _) Bk x5 (B.is (j := 16) hk (by decide))) (ea_cons (ev_is rfl (.own _) Bk x5 (B.is (j := 17) hk (by decide))) ea_nil))) (by show 3 ≤ 100000; decide)) (by show 15 + 3 ≤ 100000; decide)) fun p6 H6 n6 e6 h6 => ?_
    have x6 := x5.up e6
    refine s_asgL (el_cat (ev_var rfl) h6 (el_lst (ea_cons (ev_is rfl (.own _) Bk x6 (B.is (j := 18) hk (by decide))) (ea_cons (ev_is rfl (.own _) Bk x6 (B.is (j := 19) hk (by decide))) (ea_cons (ev_is rfl (.own _) Bk x6 (B.is (j := 20) hk (by decide))) ea_nil))) (by show 3 ≤ 100000; decide)) (by show 18 + 3 ≤ 100000; decide)) fun p7 H7 n7 e7 h7 => ?_
    have x7 := x6.up e7
    refine s_asgL (el_cat (ev_var rfl) h7 (el_lst (ea_cons (ev_is rfl (.own _) Bk x7 (B.is (j := 21) hk (by decide))) (ea_cons (ev_is rfl (.own _) Bk x7 (B.is (j := 22) hk (by decide))) (ea_cons (ev_is rfl (.own _) Bk x7 (B.is (j := 23) hk (by decide))) ea_nil))) (by show 3 ≤ 100000; decide)) (by show 21 + 3 ≤ 100000; decide)) fun p8 H8 n8 e8 h8 => ?_
    have x8 := x7.up e8
    refine s_asgL (el_cat (ev_var rfl) h8 (el_lst (ea_cons (ev_is rfl (.own _) Bk x8 (B.is (j := 24) hk (by decide))) (ea_cons (ev_is rfl (.own _) Bk x8 (B.is (j := 25) hk (by decide))) (ea_cons (ev_is rfl (.own _) Bk x8 (B.is (j := 26) hk (by decide))) ea_nil))) (by show 3 ≤ 100000; decide)) (by show 24 + 3 ≤ 100000; decide)) fun p9 H9 n9 e9 h9 => ?_
    have x9 := x8.up e9
    exact s_ret (ev_var rfl) fun HR eR => q _ _ (((((((((e1.trans e2).trans e3).trans e4).trans e5).trans e6).trans e7).trans e8).trans e9).trans eR) (eR _ _ h9)
end
end K4


set_option Elab.async false
set_option autoImplicit false
set_option linter.all false
set_option maxRecDepth 100000
set_option maxHeartbeats 4000000
namespace K4
open PySem PySem.Spec PyProof.Rows L2 Evl He
def spMade (K : PySem.W.Frag) : Sp := fun vs H Q _ => ∃ x : V, vs = [x] ∧ ∀ p as H', Ex H H' → H' p = some (.lst (as.map V.ref)) → XA H' (spc K x) as → Q (.ref p) H'
section
variable {P : Program} {w : World} {K : PySem.W.Frag} {mg : Str → Option Value} {base : Heap} {f : Addr} {fd : FuncData}
theorem sc_place : FnScope ["_law_x", "_law_some_so"] ["_law_x"] (defScope (top 33)) := ⟨rfl, rfl, rfl, by decide +kernel, rfl, by decide +kernel, by decide +kernel⟩
theorem ok_place (F : FnP K "_law_by_place" (top 33) f fd) (T : Txt mg) (B : XAll P w K mg base) : FnOk P w K mg base CX0 3 f fd ["_law_x"] (spMade K) := by
  have nd := sc_place.nd
  refine F.ok sc_place (fun vs H Q E h => ?_) (fun cdv A outer s H vs Q E hr h => ⟨_, PSs.nox (pss_cons (ps_set (i := 1) nd rfl (Or.inl rfl) (pe_lst (pa_cons (pe_x1 B.x2 (hr.mono (by decide)) (pa_cons (pv 0) pa_nil)) (pa_cons (pe_x2 B.x3 (hr.mono (by decide)) (pa_cons (pv 0) (pa_cons pe_int pa_nil))) (pa_cons (pe_x1 B.x4 (hr.mono (by decide)) (pa_cons (pv 0) pa_nil)) (pa_cons (pe_x1 B.x5 (hr.mono (by decide)) (pa_cons (pv 0) pa_nil)) pa_nil))))))
      (pss_cons (ps_set (i := 1) nd rfl (Or.inl rfl) (pe_op op_cat (pv 1) (pe_lst (pa_cons (pe_x1 B.x6 (hr.mono (by decide)) (pa_cons (pv 0) pa_nil)) (pa_cons (pe_x2 B.x7 (hr.mono (by decide)) (pa_cons (pv 0) (pa_cons pe_int pa_nil))) (pa_cons (pe_x1 B.x8 (hr.mono (by decide)) (pa_cons (pv 0) pa_nil)) (pa_cons (pe_x1 B.x9 (hr.mono (by decide)) (pa_cons (pv 0) pa_nil)) pa_nil)))))))
      (pss_cons (ps_set (i := 1) nd rfl (Or.inl rfl) (pe_op op_cat (pv 1) (pe_lst (pa_cons (pe_x1 B.x10 (hr.mono (by decide)) (pa_cons (pv 0) pa_nil)) (pa_cons (pe_x1 B.x11 (hr.mono (by decide)) (pa_cons (pv 0) pa_nil)) (pa_cons (pe_x1 B.x12 (hr.mono (by decide)) (pa_cons (pv 0) pa_nil)) (pa_cons (pe_x1 B.x13 (hr.mono (by decide)) (pa_cons (pv 0) pa_nil)) pa_nil)))))))
      (pss_cons (ps_set (i := 1) nd rfl (Or.inl rfl) (pe_op op_cat (pv 1) (pe_lst (pa_cons (pe_x1 B.x14 (hr.mono (by decide)) (pa_cons (pv 0) pa_nil)) (pa_cons (pe_x1 B.x15 (hr.mono (by decide)) (pa_cons (pv 0) pa_nil)) (pa_cons (pe_x2 B.x16 (hr.mono (by decide)) (pa_cons (pv 0) (pa_cons pe_int pa_nil))) (pa_cons (pe_x2 B.x17 (hr.mono (by decide)) (pa_cons (pv 0) (pa_cons pe_int pa_nil))) pa_nil)))))))
      (pss_cons (ps_set (i := 1) nd rfl (Or.inl rfl) (pe_op op_cat (pv 1) (pe_lst (pa_cons (pe_x1 B.x18 (hr.mono (by decide)) (pa_cons (pv 0) pa_nil)) (pa_cons (pe_x1 B.x19 (hr.mono (by decide)) (pa_cons (pv 0) pa_nil)) (pa_cons (pe_x2 B.x20 (hr.mono (by decide)) (pa_cons (pv 0) (pa_cons pe_int pa_nil))) (pa_cons (pe_x1 B.x21 (hr.mono (by decide)) (pa_cons (pv 0) pa_nil)) pa_nil)))))))
      (pss_cons (ps_set (i := 1) nd rfl (Or.inl rfl) (pe_op op_cat (pv 1) (pe_lst (pa_cons (pe_x2 B.x22 (hr.mono (by decide)) (pa_cons (pv 0) (pa_cons pe_int pa_nil))) (pa_cons (pe_x1 B.x23 (hr.mono (by decide)) (pa_cons (pv 0) pa_nil)) (pa_cons (pe_x2 B.x24 (hr.mono (by decide)) (pa_cons (pv 0) (pa_cons pe_int pa_nil))) (pa_cons (pe_x1 B.x25 (hr.mono (by decide)) (pa_cons (pv 0) pa_nil)) pa_nil)))))))
      (pss_cons (ps_set (i := 1) nd rfl (Or.inl rfl) (pe_op op_cat (pv 1) (pe_lst (pa_cons (pe_x1 B.x26 (hr.mono (by decide)) (pa_cons (pv 0) pa_nil)) (pa_cons (pe_x1 B.x27 (hr.mono (by decide)) (pa_cons (pv 0) pa_nil)) (pa_cons (pe_x1 B.x28 (hr.mono (by decide)) (pa_cons (pv 0) pa_nil)) pa_nil))))))
      (pss_one (ps_ret (pv 1)))))))))), ?_⟩)
  · obtain ⟨x, rfl, _⟩ := h
    rfl
  · obtain ⟨x, rfl, q⟩ := h
    refine sa_lx (lx_lst (l := [(ga K "NoNumber", [("part", x)]), (ga K "NoShape", [("index", .int 7), ("part", x)]), (ga K "NoSet", [("some", x)]), (ga K "NoDurations", [("index", x)])]) (xs_cons (ex1 (ev_var rfl)) (xs_cons (ex2 (ev_var rfl) ev_c) (xs_cons (ex1 (ev_var rfl)) (xs_cons (ex1 (ev_var rfl)) xs_nil)))) (by show 4 ≤ 100000; decide)) fun p1 a1 H1 e1 h1 x1 => ?_
    refine sa_lx (lx_cat (ev_var rfl) h1 x1 (lx_lst (l := [(ga K "NoWeights", [("index", x)]), (ga K "NoBound", [("index", .int 7), ("part", x)]), (ga K "NoPairs", [("index", x)]), (ga K "NoOrder", [("index", x)])]) (xs_cons (ex1 (ev_var rfl)) (xs_cons (ex2 (ev_var rfl) ev_c) (xs_cons (ex1 (ev_var rfl)) (xs_cons (ex1 (ev_var rfl)) xs_nil)))) (by show 4 ≤ 100000; decide)) (by show 4 + 4 ≤ 100000; decide)) fun p2 a2 H2 e2 h2 x2 => ?_
    refine sa_lx (lx_cat (ev_var rfl) h2 x2 (lx_lst (l := [(ga K "NoGraph", [("index", x)]), (ga K "NoStarts", [("index", x)]), (ga K "NoSchedule", [("fault", x)]), (ga K "NoActivity", [("one", x)])]) (xs_cons (ex1 (ev_var rfl)) (xs_cons (ex1 (ev_var rfl)) (xs_cons (ex1 (ev_var rfl)) (xs_cons (ex1 (ev_var rfl)) xs_nil)))) (by show 4 ≤ 100000; decide)) (by show 8 + 4 ≤ 100000; decide)) fun p3 a3 H3 e3 h3 x3 => ?_
    refine sa_lx (lx_cat (ev_var rfl) h3 x3 (lx_lst (l := [(ga K "NoText", [("line", x)]), (ga K "NoChange", [("word", x)]), (ga K "NoCalendar", [("index", .int 7), ("part", x)]), (ga K "NoProject", [("index", .int 7), ("part", x)])]) (xs_cons (ex1 (ev_var rfl)) (xs_cons (ex1 (ev_var rfl)) (xs_cons (ex2 (ev_var rfl) ev_c) (xs_cons (ex2 (ev_var rfl) ev_c) xs_nil)))) (by show 4 ≤ 100000; decide)) (by show 12 + 4 ≤ 100000; decide)) fun p4 a4 H4 e4 h4 x4 => ?_
    refine sa_lx (lx_cat (ev_var rfl) h4 x4 (lx_lst (l := [(ga K "NoChoice", [("index", x)]), (ga K "NoAhead", [("index", x)]), (ga K "NoDerivation", [("index", .int 7), ("part", x)]), (ga K "NoPlan", [("fault", x)])]) (xs_cons (ex1 (ev_var rfl)) (xs_cons (ex1 (ev_var rfl)) (xs_cons (ex2 (ev_var rfl) ev_c) (xs_cons (ex1 (ev_var rfl)) xs_nil)))) (by show 4 ≤ 100000; decide)) (by show 16 + 4 ≤ 100000; decide)) fun p5 a5 H5 e5 h5 x5 => ?_
    refine sa_lx (lx_cat (ev_var rfl) h5 x5 (lx_lst (l := [(ga K "NoRota", [("index", .int 7), ("part", x)]), (ga K "NoMix", [("index", x)]), (ga K "NoBlind", [("index", .int 7), ("part", x)]), (ga K "NoFixed", [("index", x)])]) (xs_cons (ex2 (ev_var rfl) ev_c) (xs_cons (ex1 (ev_var rfl)) (xs_cons (ex2 (ev_var rfl) ev_c) (xs_cons (ex1 (ev_var rfl)) xs_nil)))) (by show 4 ≤ 100000; decide)) (by show 20 + 4 ≤ 100000; decide)) fun p6 a6 H6 e6 h6 x6 => ?_
    refine sa_lx (lx_cat (ev_var rfl) h6 x6 (lx_lst (l := [(ga K "NotBeside", [("part", x)]), (ga K "NoBox", [("index", x)]), (ga K "TooGreat", [("most", x)])]) (xs_cons (ex1 (ev_var rfl)) (xs_cons (ex1 (ev_var rfl)) (xs_cons (ex1 (ev_var rfl)) xs_nil))) (by show 3 ≤ 100000; decide)) (by show 24 + 3 ≤ 100000; decide)) fun p7 a7 H7 e7 h7 x7 => ?_
    exact s_ret (ev_var rfl) fun HR eR => q _ _ _ (((((((e1.trans e2).trans e3).trans e4).trans e5).trans e6).trans e7).trans eR) (eR _ _ h7) (x7.up eR)
theorem sc_name : FnScope ["_law_x", "_law_some_so"] ["_law_x"] (defScope (top 34)) := ⟨rfl, rfl, rfl, by decide +kernel, rfl, by decide +kernel, by decide +kernel⟩
theorem ok_name (F : FnP K "_law_by_name" (top 34) f fd) (T : Txt mg) (B : XAll P w K mg base) : FnOk P w K mg base CX0 3 f fd ["_law_x"] (spMade K) := by
  have nd := sc_name.nd
  refine F.ok sc_name (fun vs H Q E h => ?_) (fun cdv A outer s H vs Q E hr h => ⟨_, PSs.nox (pss_cons (ps_set (i := 1) nd rfl (Or.inl rfl) (pe_lst (pa_cons (pe_x1k B.x2 (hr.mono (by decide)) (pk_cons (pv 0) pk_nil)) (pa_cons (pe_x2k B.x3 (hr.mono (by decide)) (pk_cons pe_int (pk_cons (pv 0) pk_nil))) (pa_cons (pe_x1k B.x4 (hr.mono (by decide)) (pk_cons (pv 0) pk_nil)) pa_nil)))))
      (pss_cons (ps_set (i := 1) nd rfl (Or.inl rfl) (pe_op op_cat (pv 1) (pe_lst (pa_cons (pe_x1k B.x5 (hr.mono (by decide)) (pk_cons (pv 0) pk_nil)) (pa_cons (pe_x1k B.x6 (hr.mono (by decide)) (pk_cons (pv 0) pk_nil)) (pa_cons (pe_x2k B.x7 (hr.mono (by decide)) (pk_cons pe_int (pk_cons (pv 0) pk_nil))) pa_nil))))))
      (pss_cons (ps_set (i := 1) nd rfl (Or.inl rfl) (pe_op op_cat (pv 1) (pe_lst (pa_cons (pe_x1k B.x8 (hr.mono (by decide)) (pk_cons (pv 0) pk_nil)) (pa_cons (pe_x1k B.x9 (hr.mono (by decide)) (pk_cons (pv 0) pk_nil)) (pa_cons (pe_x1k B.x10 (hr.mono (by decide)) (pk_cons (pv 0) pk_nil)) pa_nil))))))
      (pss_cons (ps_set (i := 1) nd rfl (Or.inl rfl) (pe_op op_cat (pv 1) (pe_lst (pa_cons (pe_x1k B.x11 (hr.mono (by decide)) (pk_cons (pv 0) pk_nil)) (pa_cons (pe_x1k B.x12 (hr.mono (by decide)) (pk_cons (pv 0) pk_nil)) (pa_cons (pe_x1k B.x13 (hr.mono (by decide)) (pk_cons (pv 0) pk_nil)) pa_nil))))))
      (pss_cons (ps_set (i := 1) nd rfl (Or.inl rfl) (pe_op op_cat (pv 1) (pe_lst (pa_cons (pe_x1k B.x14 (hr.mono (by decide)) (pk_cons (pv 0) pk_nil)) (pa_cons (pe_x1k B.x15 (hr.mono (by decide)) (pk_cons (pv 0) pk_nil)) (pa_cons (pe_x2k B.x16 (hr.mono (by decide)) (pk_cons pe_int (pk_cons (pv 0) pk_nil))) pa_nil))))))
      (pss_cons (ps_set (i := 1) nd rfl (Or.inl rfl) (pe_op op_cat (pv 1) (pe_lst (pa_cons (pe_x2k B.x17 (hr.mono (by decide)) (pk_cons pe_int (pk_cons (pv 0) pk_nil))) (pa_cons (pe_x1k B.x18 (hr.mono (by decide)) (pk_cons (pv 0) pk_nil)) (pa_cons (pe_x1k B.x19 (hr.mono (by decide)) (pk_cons (pv 0) pk_nil)) pa_nil))))))
      (pss_cons (ps_set (i := 1) nd rfl (Or.inl rfl) (pe_op op_cat (pv 1) (pe_lst (pa_cons (pe_x2k B.x20 (hr.mono (by decide)) (pk_cons pe_int (pk_cons (pv 0) pk_nil))) (pa_cons (pe_x1k B.x21 (hr.mono (by decide)) (pk_cons (pv 0) pk_nil)) (pa_cons (pe_x2k B.x22 (hr.mono (by decide)) (pk_cons pe_int (pk_cons (pv 0) pk_nil))) pa_nil))))))
      (pss_cons (ps_set (i := 1) nd rfl (Or.inl rfl) (pe_op op_cat (pv 1) (pe_lst (pa_cons (pe_x1k B.x23 (hr.mono (by decide)) (pk_cons (pv 0) pk_nil)) (pa_cons (pe_x2k B.x24 (hr.mono (by decide)) (pk_cons pe_int (pk_cons (pv 0) pk_nil))) (pa_cons (pe_x1k B.x25 (hr.mono (by decide)) (pk_cons (pv 0) pk_nil)) pa_nil))))))
      (pss_cons (ps_set (i := 1) nd rfl (Or.inl rfl) (pe_op op_cat (pv 1) (pe_lst (pa_cons (pe_x1k B.x26 (hr.mono (by decide)) (pk_cons (pv 0) pk_nil)) (pa_cons (pe_x1k B.x27 (hr.mono (by decide)) (pk_cons (pv 0) pk_nil)) (pa_cons (pe_x1k B.x28 (hr.mono (by decide)) (pk_cons (pv 0) pk_nil)) pa_nil))))))
      (pss_one (ps_ret (pv 1)))))))))))), ?_⟩)
  · obtain ⟨x, rfl, _⟩ := h
    rfl
  · obtain ⟨x, rfl, q⟩ := h
    refine sa_lx (lx_lst (l := [(ga K "NoNumber", [("part", x)]), (ga K "NoShape", [("index", .int 7), ("part", x)]), (ga K "NoSet", [("some", x)])]) (xs_cons (ex1 (ev_var rfl)) (xs_cons (ex2k (ev_var rfl) ev_c) (xs_cons (ex1 (ev_var rfl)) xs_nil))) (by show 3 ≤ 100000; decide)) fun p1 a1 H1 e1 h1 x1 => ?_
    refine sa_lx (lx_cat (ev_var rfl) h1 x1 (lx_lst (l := [(ga K "NoDurations", [("index", x)]), (ga K "NoWeights", [("index", x)]), (ga K "NoBound", [("index", .int 7), ("part", x)])]) (xs_cons (ex1 (ev_var rfl)) (xs_cons (ex1 (ev_var rfl)) (xs_cons (ex2k (ev_var rfl) ev_c) xs_nil))) (by show 3 ≤ 100000; decide)) (by show 3 + 3 ≤ 100000; decide)) fun p2 a2 H2 e2 h2 x2 => ?_
    refine sa_lx (lx_cat (ev_var rfl) h2 x2 (lx_lst (l := [(ga K "NoPairs", [("index", x)]), (ga K "NoOrder", [("index", x)]), (ga K "NoGraph", [("index", x)])]) (xs_cons (ex1 (ev_var rfl)) (xs_cons (ex1 (ev_var rfl)) (xs_cons (ex1 (ev_var rfl)) xs_nil))) (by show 3 ≤ 100000; decide)) (by show 6 + 3 ≤ 100000; decide)) fun p3 a3 H3 e3 h3 x3 => ?_
    refine sa_lx (lx_cat (ev_var rfl) h3 x3 (lx_lst (l := [(ga K "NoStarts", [("index", x)]), (ga K "NoSchedule", [("fault", x)]), (ga K "NoActivity", [("one", x)])]) (xs_cons (ex1 (ev_var rfl)) (xs_cons (ex1 (ev_var rfl)) (xs_cons (ex1 (ev_var rfl)) xs_nil))) (by show 3 ≤ 100000; decide)) (by show 9 + 3 ≤ 100000; decide)) fun p4 a4 H4 e4 h4 x4 => ?_
    refine sa_lx (lx_cat (ev_var rfl) h4 x4 (lx_lst (l := [(ga K "NoText", [("line", x)]), (ga K "NoChange", [("word", x)]), (ga K "NoCalendar", [("index", .int 7), ("part", x)])]) (xs_cons (ex1 (ev_var rfl)) (xs_cons (ex1 (ev_var rfl)) (xs_cons (ex2k (ev_var rfl) ev_c) xs_nil))) (by show 3 ≤ 100000; decide)) (by show 12 + 3 ≤ 100000; decide)) fun p5 a5 H5 e5 h5 x5 => ?_
    refine sa_lx (lx_cat (ev_var rfl) h5 x5 (lx_lst (l := [(ga K "NoProject", [("index", .int 7), ("part", x)]), (ga K "NoChoice", [("index", x)]), (ga K "NoAhead", [("index", x)])]) (xs_cons (ex2k (ev_var rfl) ev_c) (xs_cons (ex1 (ev_var rfl)) (xs_cons (ex1 (ev_var rfl)) xs_nil))) (by show 3 ≤ 100000; decide)) (by show 15 + 3 ≤ 100000; decide)) fun p6 a6 H6 e6 h6 x6 => ?_
    refine sa_lx (lx_cat (ev_var rfl) h6 x6 (lx_lst (l := [(ga K "NoDerivation", [("index", .int 7), ("part", x)]), (ga K "NoPlan", [("fault", x)]), (ga K "NoRota", [("index", .int 7), ("part", x)])]) (xs_cons (ex2k (ev_var rfl) ev_c) (xs_cons (ex1 (ev_var rfl)) (xs_cons (ex2k (ev_var rfl) ev_c) xs_nil))) (by show 3 ≤ 100000; decide)) (by show 18 + 3 ≤ 100000; decide)) fun p7 a7 H7 e7 h7 x7 => ?_
    refine sa_lx (lx_cat (ev_var rfl) h7 x7 (lx_lst (l := [(ga K "NoMix", [("index", x)]), (ga K "NoBlind", [("index", .int 7), ("part", x)]), (ga K "NoFixed", [("index", x)])]) (xs_cons (ex1 (ev_var rfl)) (xs_cons (ex2k (ev_var rfl) ev_c) (xs_cons (ex1 (ev_var rfl)) xs_nil))) (by show 3 ≤ 100000; decide)) (by show 21 + 3 ≤ 100000; decide)) fun p8 a8 H8 e8 h8 x8 => ?_
    refine sa_lx (lx_cat (ev_var rfl) h8 x8 (lx_lst (l := [(ga K "NotBeside", [("part", x)]), (ga K "NoBox", [("index", x)]), (ga K "TooGreat", [("most", x)])]) (xs_cons (ex1 (ev_var rfl)) (xs_cons (ex1 (ev_var rfl)) (xs_cons (ex1 (ev_var rfl)) xs_nil))) (by show 3 ≤ 100000; decide)) (by show 24 + 3 ≤ 100000; decide)) fun p9 a9 H9 e9 h9 x9 => ?_
    exact s_ret (ev_var rfl) fun HR eR => q _ _ _ (((((((((e1.trans e2).trans e3).trans e4).trans e5).trans e6).trans e7).trans e8).trans e9).trans eR) (eR _ _ h9) (x9.up eR)
def due (x : V) : List V := [x, x, .int 7, x, x, x, x, .int 7, x, x, x, x, x, x, x, x, x, .int 7, x, .int 7, x, x] ++ [x, .int 7, x, x, .int 7, x, x, .int 7, x, x, x, x]
def spFields (K : PySem.W.Frag) : Sp := fun vs H Q _ => ∃ (q : Addr) (as : List Addr) (x : V), vs = [.ref q] ∧ SqL K H q (as.map V.ref) ∧ XA H (spc K x) as ∧ ∀ p H', Ex H H' → H' p = some (.lst (due x)) → Q (.ref p) H'
theorem at_ref {as : List Addr} {i : Nat} {a : Addr} (h : as[i]? = some a) : atI (as.map V.ref) (i : Int) = some (.ref a) := atI_nat (by rw [List.getElem?_map, h]; rfl)
theorem ev_at {σ : L2.St} {H : Hp} {q a : Addr} {as : List Addr} {i j : Nat} (hi : σ[j]? = some (some (.ref q))) (hS : SqL K H q (as.map V.ref)) (h : as[i]? = some a) : Ev (tOp (rIxL K) (tVar j) (tC (.int (i : Int)))) σ H (.ref a) :=
  ev_op (ev_var hi) ev_c (rv_ixL hS (at_ref h))
theorem sc_fields : FnScope ["_law_some_so", "_law_found"] ["_law_some_so"] (defScope (top 35)) := ⟨rfl, rfl, rfl, by decide +kernel, rfl, by decide +kernel, by decide +kernel⟩
theorem ok_fields (F : FnP K "_law_fields" (top 35) f fd) (T : Txt mg) (B : XAll P w K mg base) : FnOk P w K mg base CX0 1 f fd ["_law_some_so"] (spFields K) := by
  have nd := sc_fields.nd
  refine F.ok sc_fields (fun vs H Q E h => ?_) (fun cdv A outer s H vs Q E hr h => ⟨_, PSs.nox (pss_cons (ps_set (i := 1) nd rfl (Or.inl rfl) (pe_lst (pa_cons (pe_xat (pe_ix ix_list (pv 0) pe_int (fun _ _ => rfl))) (pa_cons (pe_xat (pe_ix ix_list (pv 0) pe_int (fun _ _ => rfl))) (pa_cons (pe_xat (pe_ix ix_list (pv 0) pe_int (fun _ _ => rfl))) (pa_cons (pe_xat (pe_ix ix_list (pv 0) pe_int (fun _ _ => rfl))) pa_nil))))))
      (pss_cons (ps_set (i := 1) nd rfl (Or.inl rfl) (pe_op op_cat (pv 1) (pe_lst (pa_cons (pe_xat (pe_ix ix_list (pv 0) pe_int (fun _ _ => rfl))) (pa_cons (pe_xat (pe_ix ix_list (pv 0) pe_int (fun _ _ => rfl))) (pa_cons (pe_xat (pe_ix ix_list (pv 0) pe_int (fun _ _ => rfl))) (pa_cons (pe_xat (pe_ix ix_list (pv 0) pe_int (fun _ _ => rfl))) pa_nil)))))))
      (pss_cons (ps_set (i := 1) nd rfl (Or.inl rfl) (pe_op op_cat (pv 1) (pe_lst (pa_cons (pe_xat (pe_ix ix_list (pv 0) pe_int (fun _ _ => rfl))) (pa_cons (pe_xat (pe_ix ix_list (pv 0) pe_int (fun _ _ => rfl))) (pa_cons (pe_xat (pe_ix ix_list (pv 0) pe_int (fun _ _ => rfl))) (pa_cons (pe_xat (pe_ix ix_list (pv 0) pe_int (fun _ _ => rfl))) pa_nil)))))))
      (pss_cons (ps_set (i := 1) nd rfl (Or.inl rfl) (pe_op op_cat (pv 1) (pe_lst (pa_cons (pe_xat (pe_ix ix_list (pv 0) pe_int (fun _ _ => rfl))) (pa_cons (pe_xat (pe_ix ix_list (pv 0) pe_int (fun _ _ => rfl))) (pa_cons (pe_xat (pe_ix ix_list (pv 0) pe_int (fun _ _ => rfl))) (pa_cons (pe_xat (pe_ix ix_list (pv 0) pe_int (fun _ _ => rfl))) pa_nil)))))))
      (pss_cons (ps_set (i := 1) nd rfl (Or.inl rfl) (pe_op op_cat (pv 1) (pe_lst (pa_cons (pe_xat (pe_ix ix_list (pv 0) pe_int (fun _ _ => rfl))) (pa_cons (pe_xat (pe_ix ix_list (pv 0) pe_int (fun _ _ => rfl))) (pa_cons (pe_xat (pe_ix ix_list (pv 0) pe_int (fun _ _ => rfl))) (pa_cons (pe_xat (pe_ix ix_list (pv 0) pe_int (fun _ _ => rfl))) pa_nil)))))))
      (pss_cons (ps_set (i := 1) nd rfl (Or.inl rfl) (pe_op op_cat (pv 1) (pe_lst (pa_cons (pe_xat (pe_ix ix_list (pv 0) pe_int (fun _ _ => rfl))) (pa_cons (pe_xat (pe_ix ix_list (pv 0) pe_int (fun _ _ => rfl))) (pa_cons (pe_xat (pe_ix ix_list (pv 0) pe_int (fun _ _ => rfl))) (pa_cons (pe_xat (pe_ix ix_list (pv 0) pe_int (fun _ _ => rfl))) pa_nil)))))))
      (pss_cons (ps_set (i := 1) nd rfl (Or.inl rfl) (pe_op op_cat (pv 1) (pe_lst (pa_cons (pe_xat (pe_ix ix_list (pv 0) pe_int (fun _ _ => rfl))) (pa_cons (pe_xat (pe_ix ix_list (pv 0) pe_int (fun _ _ => rfl))) (pa_cons (pe_xat (pe_ix ix_list (pv 0) pe_int (fun _ _ => rfl))) (pa_cons (pe_xat (pe_ix ix_list (pv 0) pe_int (fun _ _ => rfl))) pa_nil)))))))
      (pss_cons (ps_set (i := 1) nd rfl (Or.inl rfl) (pe_op op_cat (pv 1) (pe_lst (pa_cons (pe_xat (pe_ix ix_list (pv 0) pe_int (fun _ _ => rfl))) (pa_cons (pe_xat (pe_ix ix_list (pv 0) pe_int (fun _ _ => rfl))) (pa_cons (pe_xat (pe_ix ix_list (pv 0) pe_int (fun _ _ => rfl))) (pa_cons (pe_xat (pe_ix ix_list (pv 0) pe_int (fun _ _ => rfl))) pa_nil)))))))
      (pss_cons (ps_set (i := 1) nd rfl (Or.inl rfl) (pe_op op_cat (pv 1) (pe_lst (pa_cons (pe_xat (pe_ix ix_list (pv 0) pe_int (fun _ _ => rfl))) (pa_cons (pe_xat (pe_ix ix_list (pv 0) pe_int (fun _ _ => rfl))) pa_nil)))))
      (pss_one (ps_ret (pv 1)))))))))))), ?_⟩)
  · obtain ⟨q, as, x, rfl, _⟩ := h
    rfl
  · obtain ⟨q, as, x, rfl, hS, xa, q0⟩ := h
    obtain ⟨a0, i0, y0⟩ := xa.get (i := 0) (p := (ga K "NoNumber", [("part", x)])) rfl
    obtain ⟨a1, i1, y1⟩ := xa.get (i := 1) (p := (ga K "NoShape", [("index", .int 7), ("part", x)])) rfl
    obtain ⟨a2, i2, y2⟩ := xa.get (i := 2) (p := (ga K "NoSet", [("some", x)])) rfl
    obtain ⟨a3, i3, y3⟩ := xa.get (i := 3) (p := (ga K "NoDurations", [("index", x)])) rfl
    obtain ⟨a4, i4, y4⟩ := xa.get (i := 4) (p := (ga K "NoWeights", [("index", x)])) rfl
    obtain ⟨a5, i5, y5⟩ := xa.get (i := 5) (p := (ga K "NoBound", [("index", .int 7), ("part", x)])) rfl
    obtain ⟨a6, i6, y6⟩ := xa.get (i := 6) (p := (ga K "NoPairs", [("index", x)])) rfl
    obtain ⟨a7, i7, y7⟩ := xa.get (i := 7) (p := (ga K "NoOrder", [("index", x)])) rfl
    obtain ⟨a8, i8, y8⟩ := xa.get (i := 8) (p := (ga K "NoGraph", [("index", x)])) rfl
    obtain ⟨a9, i9, y9⟩ := xa.get (i := 9) (p := (ga K "NoStarts", [("index", x)])) rfl
    obtain ⟨a10, i10, y10⟩ := xa.get (i := 10) (p := (ga K "NoSchedule", [("fault", x)])) rfl
    obtain ⟨a11, i11, y11⟩ := xa.get (i := 11) (p := (ga K "NoActivity", [("one", x)])) rfl
    obtain ⟨a12, i12, y12⟩ := xa.get (i := 12) (p := (ga K "NoText", [("line", x)])) rfl
    obtain ⟨a13, i13, y13⟩ := xa.get (i := 13) (p := (ga K "NoChange", [("word", x)])) rfl
    obtain ⟨a14, i14, y14⟩ := xa.get (i := 14) (p := (ga K "NoCalendar", [("index", .int 7), ("part", x)])) rfl
    obtain ⟨a15, i15, y15⟩ := xa.get (i := 15) (p := (ga K "NoProject", [("index", .int 7), ("part", x)])) rfl
    obtain ⟨a16, i16, y16⟩ := xa.get (i := 16) (p := (ga K "NoChoice", [("index", x)])) rfl
    obtain ⟨a17, i17, y17⟩ := xa.get (i := 17) (p := (ga K "NoAhead", [("index", x)])) rfl
    obtain ⟨a18, i18, y18⟩ := xa.get (i := 18) (p := (ga K "NoDerivation", [("index", .int 7), ("part", x)])) rfl
    obtain ⟨a19, i19, y19⟩ := xa.get (i := 19) (p := (ga K "NoPlan", [("fault", x)])) rfl
    obtain ⟨a20, i20, y20⟩ := xa.get (i := 20) (p := (ga K "NoRota", [("index", .int 7), ("part", x)])) rfl
    obtain ⟨a21, i21, y21⟩ := xa.get (i := 21) (p := (ga K "NoMix", [("index", x)])) rfl
    obtain ⟨a22, i22, y22⟩ := xa.get (i := 22) (p := (ga K "NoBlind", [("index", .int 7), ("part", x)])) rfl
    obtain ⟨a23, i23, y23⟩ := xa.get (i := 23) (p := (ga K "NoFixed", [("index", x)])) rfl
    obtain ⟨a24, i24, y24⟩ := xa.get (i := 24) (p := (ga K "NotBeside", [("part", x)])) rfl
    obtain ⟨a25, i25, y25⟩ := xa.get (i := 25) (p := (ga K "NoBox", [("index", x)])) rfl
    obtain ⟨a26, i26, y26⟩ := xa.get (i := 26) (p := (ga K "TooGreat", [("most", x)])) rfl
    refine s_asgL (el_lst (ea_cons (ev_xat (ev_at (i := 0) rfl hS i0) B.x2.xc B.x2.nf y0 rfl) (ea_cons (ev_xat (ev_at (i := 1) rfl hS i1) B.x3.xc B.x3.nf y1 rfl) (ea_cons (ev_xat (ev_at (i := 1) rfl hS i1) B.x3.xc B.x3.ng y1 rfl) (ea_cons (ev_xat (ev_at (i := 2) rfl hS i2) B.x4.xc B.x4.nf y2 rfl) ea_nil)))) (by show 4 ≤ 100000; decide)) fun p1 H1 n1 e1 h1 => ?_
    refine s_asgL (el_cat (ev_var rfl) h1 (el_lst (ea_cons (ev_xat (ev_at (i := 3) rfl (ex_l e1 hS) i3) B.x5.xc B.x5.nf (y3.up e1) rfl) (ea_cons (ev_xat (ev_at (i := 4) rfl (ex_l e1 hS) i4) B.x6.xc B.x6.nf (y4.up e1) rfl) (ea_cons (ev_xat (ev_at (i := 5) rfl (ex_l e1 hS) i5) B.x7.xc B.x7.nf (y5.up e1) rfl) (ea_cons (ev_xat (ev_at (i := 5) rfl (ex_l e1 hS) i5) B.x7.xc B.x7.ng (y5.up e1) rfl) ea_nil)))) (by show 4 ≤ 100000; decide)) (by show 4 + 4 ≤ 100000; decide)) fun p2 H2 n2 e2 h2 => ?_
    refine s_asgL (el_cat (ev_var rfl) h2 (el_lst (ea_cons (ev_xat (ev_at (i := 6) rfl (ex_l (e1.trans e2) hS) i6) B.x8.xc B.x8.nf (y6.up (e1.trans e2)) rfl) (ea_cons (ev_xat (ev_at (i := 7) rfl (ex_l (e1.trans e2) hS) i7) B.x9.xc B.x9.nf (y7.up (e1.trans e2)) rfl) (ea_cons (ev_xat (ev_at (i := 8) rfl (ex_l (e1.trans e2) hS) i8) B.x10.xc B.x10.nf (y8.up (e1.trans e2)) rfl) (ea_cons (ev_xat (ev_at (i := 9) rfl (ex_l (e1.trans e2) hS) i9) B.x11.xc B.x11.nf (y9.up (e1.trans e2)) rfl) ea_nil)))) (by show 4 ≤ 100000; decide)) (by show 8 + 4 ≤ 100000; decide)) fun p3 H3 n3 e3 h3 => ?_
    refine s_asgL (el_cat (ev_var rfl) h3 (el_lst (ea_cons (ev_xat (ev_at (i := 10) rfl (ex_l ((e1.trans e2).trans e3) hS) i10) B.x12.xc B.x12.nf (y10.up ((e1.trans e2).trans e3)) rfl) (ea_cons (ev_xat (ev_at (i := 11) rfl (ex_l ((e1.trans e2).trans e3) hS) i11) B.x13.xc B.x13.nf (y11.up ((e1.trans e2).trans e3)) rfl) (ea_cons (ev_xat (ev_at (i := 12) rfl (ex_l ((e1.trans e2).trans e3) hS) i12) B.x14.xc B.x14.nf (y12.up ((e1.trans e2).trans e3)) rfl) (ea_cons (ev_xat (ev_at (i := 13) rfl (ex_l ((e1.trans e2).trans e3) hS) i13) B.x15.xc B.x15.nf (y13.up ((e1.trans e2).trans e3)) rfl) ea_nil)))) (by show 4 ≤ 100000; decide)) (by show 12 + 4 ≤ 100000; decide)) fun p4 H4 n4 e4 h4 => ?_
    refine s_asgL (el_cat (ev_var rfl) h4 (el_lst (ea_cons (ev_xat (ev_at (i := 14) rfl (ex_l (((e1.trans e2).trans e3).trans e4) hS) i14) B.x16.xc B.x16.nf (y14.up (((e1.trans e2).trans e3).trans e4)) rfl) (ea_cons (ev_xat (ev_at (i := 14) rfl (ex_l (((e1.trans e2).trans e3).trans e4) hS) i14) B.x16.xc B.x16.ng (y14.up (((e1.trans e2).trans e3).trans e4)) rfl) (ea_cons (ev_xat (ev_at (i := 15) rfl (ex_l (((e1.trans e2).trans e3).trans e4) hS) i15) B.x17.xc B.x17.nf (y15.up (((e1.trans e2).trans e3).trans e4)) rfl) (ea_cons (ev_xat (ev_at (i := 15) rfl (ex_l (((e1.trans e2).trans e3).trans e4) hS) i15) B.x17.xc B.x17.ng (y15.up (((e1.trans e2).trans e3).trans e4)) rfl) ea_nil)))) (by show 4 ≤ 100000; decide)) (by show 16 + 4 ≤ 100000; decide)) fun p5 H5 n5 e5 h5 => ?_
    refine s_asgL (el_cat (ev_var rfl) h5 (el_lst (ea_cons (ev_xat (ev_at (i := 16) rfl (ex_l ((((e1.trans e2).trans e3).trans e4).trans e5) hS) i16) B.x18.xc B.x18.nf (y16.up ((((e1.trans e2).trans e3).trans e4).trans e5)) rfl) (ea_cons (ev_xat (ev_at (i := 17) rfl (ex_l ((((e1.trans e2).trans e3).trans e4).trans e5) hS) i17) B.x19.xc B.x19.nf (y17.up ((((e1.trans e2).trans e3).trans e4).trans e5)) rfl) (ea_cons (ev_xat (ev_at (i := 18) rfl (ex_l ((((e1.trans e2).trans e3).trans e4).trans e5) hS) i18) B.x20.xc B.x20.nf (y18.up ((((e1.trans e2).trans e3).trans e4).trans e5)) rfl) (ea_cons (ev_xat (ev_at (i := 18) rfl (ex_l ((((e1.trans e2).trans e3).trans e4).trans e5) hS) i18) B.x20.xc B.x20.ng (y18.up ((((e1.trans e2).trans e3).trans e4).trans e5)) rfl) ea_nil)))) (by show 4 ≤ 100000; decide)) (by show 20 + 4 ≤ 100000; decide)) fun p6 H6 n6 e6 h6 => ?_
    refine s_asgL (el_cat (ev_var rfl) h6 (el_lst (ea_cons (ev_xat (ev_at (i := 19) rfl (ex_l (((((e1.trans e2).trans e3).trans e4).trans e5).trans e6) hS) i19) B.x21.xc B.x21.nf (y19.up (((((e1.trans e2).trans e3).trans e4).trans e5).trans e6)) rfl) (ea_cons (ev_xat (ev_at (i := 20) rfl (ex_l (((((e1.trans e2).trans e3).trans e4).trans e5).trans e6) hS) i20) B.x22.xc B.x22.nf (y20.up (((((e1.trans e2).trans e3).trans e4).trans e5).trans e6)) rfl) (ea_cons (ev_xat (ev_at (i := 20) rfl (ex_l (((((e1.trans e2).trans e3).trans e4).trans e5).trans e6) hS) i20) B.x22.xc B.x22.ng (y20.up (((((e1.trans e2).trans e3).trans e4).trans e5).trans e6)) rfl) (ea_cons (ev_xat (ev_at (i := 21) rfl (ex_l (((((e1.trans e2).trans e3).trans e4).trans e5).trans e6) hS) i21) B.x23.xc B.x23.nf (y21.up (((((e1.trans e2).trans e3).trans e4).trans e5).trans e6)) rfl) ea_nil)))) (by show 4 ≤ 100000; decide)) (by show 24 + 4 ≤ 100000; decide)) fun p7 H7 n7 e7 h7 => ?_
    refine s_asgL (el_cat (ev_var rfl) h7 (el_lst (ea_cons (ev_xat (ev_at (i := 22) rfl (ex_l ((((((e1.trans e2).trans e3).trans e4).trans e5).trans e6).trans e7) hS) i22) B.x24.xc B.x24.nf (y22.up ((((((e1.trans e2).trans e3).trans e4).trans e5).trans e6).trans e7)) rfl) (ea_cons (ev_xat (ev_at (i := 22) rfl (ex_l ((((((e1.trans e2).trans e3).trans e4).trans e5).trans e6).trans e7) hS) i22) B.x24.xc B.x24.ng (y22.up ((((((e1.trans e2).trans e3).trans e4).trans e5).trans e6).trans e7)) rfl) (ea_cons (ev_xat (ev_at (i := 23) rfl (ex_l ((((((e1.trans e2).trans e3).trans e4).trans e5).trans e6).trans e7) hS) i23) B.x25.xc B.x25.nf (y23.up ((((((e1.trans e2).trans e3).trans e4).trans e5).trans e6).trans e7)) rfl) (ea_cons (ev_xat (ev_at (i := 24) rfl (ex_l ((((((e1.trans e2).trans e3).trans e4).trans e5).trans e6).trans e7) hS) i24) B.x26.xc B.x26.nf (y24.up ((((((e1.trans e2).trans e3).trans e4).trans e5).trans e6).trans e7)) rfl) ea_nil)))) (by show 4 ≤ 100000; decide)) (by show 28 + 4 ≤ 100000; decide)) fun p8 H8 n8 e8 h8 => ?_
    refine s_asgL (el_cat (ev_var rfl) h8 (el_lst (ea_cons (ev_xat (ev_at (i := 25) rfl (ex_l (((((((e1.trans e2).trans e3).trans e4).trans e5).trans e6).trans e7).trans e8) hS) i25) B.x27.xc B.x27.nf (y25.up (((((((e1.trans e2).trans e3).trans e4).trans e5).trans e6).trans e7).trans e8)) rfl) (ea_cons (ev_xat (ev_at (i := 26) rfl (ex_l (((((((e1.trans e2).trans e3).trans e4).trans e5).trans e6).trans e7).trans e8) hS) i26) B.x28.xc B.x28.nf (y26.up (((((((e1.trans e2).trans e3).trans e4).trans e5).trans e6).trans e7).trans e8)) rfl) ea_nil)) (by show 2 ≤ 100000; decide)) (by show 32 + 2 ≤ 100000; decide)) fun p9 H9 n9 e9 h9 => ?_
    exact s_ret (ev_var rfl) fun HR eR => q0 _ _ (((((((((e1.trans e2).trans e3).trans e4).trans e5).trans e6).trans e7).trans e8).trans e9).trans eR) (eR _ _ h9)
end
end K4


set_option Elab.async false
set_option autoImplicit false
set_option linter.all false
set_option maxRecDepth 100000
set_option maxHeartbeats 4000000
namespace K4
open PySem PySem.Spec PyProof.Rows L2 Evl He
def dued (d : PyData) : List PyData := [d, d, .int 7, d, d, d, d, .int 7, d, d, d, d, d, d, d, d, d, .int 7, d, .int 7, d, d] ++ [d, .int 7, d, d, .int 7, d, d, .int 7, d, d, d, d]
inductive Ok5 : PyData → Prop
  | i (n : Int) : Ok5 (.int n)
  | n : Ok5 .none
  | s : Ok5 (.str "v")
  | t : Ok5 (.tuple [.int 0, .int 1])
theorem due_shaped {d : PyData} (h : Ok5 d) : SeqAt.shaped (.list (dued d)) = true := by
  cases h with
  | i n => rfl
  | n => rfl
  | s => decide +kernel
  | t => rfl
theorem due_dp {K : PySem.W.Frag} {H : Hp} {v : V} {d : PyData} (h : Dp K H v d) : DpAll K H (due v) (dued d) := by
  unfold due dued
  exact (.cons h (.cons h (.cons (.int 7) (.cons h (.cons h (.cons h (.cons h (.cons (.int 7) (.cons h (.cons h (.cons h (.cons h (.cons h (.cons h (.cons h (.cons h (.cons h (.cons (.int 7) (.cons h (.cons (.int 7) (.cons h (.cons h (.cons h (.cons (.int 7) (.cons h (.cons h (.cons (.int 7) (.cons h (.cons h (.cons (.int 7) (.cons h (.cons h (.cons h (.cons h .nil))))))))))))))))))))))))))))))))))
theorem Dp5.up {K : PySem.W.Frag} {H H' : Hp} {v : V} {d : PyData} (e : Ex H H') (o : Ok5 d) (h : Dp K H v d) : Dp K H' v d := by
  cases o with
  | i n => cases h; exact .int n
  | n => cases h; exact .non
  | s => cases h; exact .str _
  | t =>
    cases h with
    | tup hs ha =>
      refine .tup (ex_t e hs) ?_
      cases ha with
      | cons h1 ha =>
        cases ha with
        | cons h2 ha =>
          cases ha
          cases h1
          cases h2
          exact .cons (.int 0) (.cons (.int 1) .nil)
theorem et_yes {σ : L2.St} {H : Hp} : EvT tYes σ H true := fun H1 _ Q q => q H1 (Ex.refl _)
def bs (k : Nat) : List PyData := (List.range 27).map fun j => PyData.bool (decide (j = k))
theorem bs_dp {K : PySem.W.Frag} {H : Hp} (k : Nat) : DpAll K H (hits k) (bs k) := by
  unfold hits bs
  generalize List.range 27 = l
  induction l with
  | nil => exact .nil
  | cons a l ih => exact .cons (.bl _) ih
theorem bs_shaped (k : Nat) : SeqAt.shaped (.list (bs k)) = true := rfl
theorem given_hits (k : Nat) : given 27 (fun _ => true) (fun j => V.bl (decide (V.int (j : Int) = V.int (k : Int)))) = hits k := by
  unfold given hits
  rw [List.filter_eq_self.mpr fun _ _ => rfl]
  refine List.map_congr_left fun j _ => ?_
  have e : decide (V.int (j : Int) = V.int (k : Int)) = decide (j = k) := by
    by_cases q : j = k
    · rw [q]
      simp
    · have q2 : ¬ (V.int (j : Int) = V.int (k : Int)) := fun z => q (by
        have z2 := V.int.inj z
        omega)
      rw [decide_eq_false q, decide_eq_false q2]
  rw [e]
theorem ne_self {d : PyData} (h : SeqAt.shaped d = true) : (!PyData.eqv d d) = false := by
  rw [SeqAt.eqv_refl d (SeqAt.canLay_of_shaped h)]
  rfl
def ExB (p : Addr) (H H' : Hp) : Prop := ∀ q o, q ≠ p → H q = some o → H' q = some o
def spRight : Sp := fun vs H Q _ => ∃ (p : Addr) (a b c : Int), vs = [.ref p] ∧ H p = some (.lst [.int a, .int b, .int c]) ∧ Well a b c ∧ c < 1000 ∧ ∀ H', ExB p H H' → Q (.bl true) H'
section
variable {P : Program} {w : World} {K : PySem.W.Frag} {mg : Str → Option Value} {base : Heap} {f : Addr} {fd : FuncData}
theorem sc_right : FnScope ["_law_well", "_law_x", "_law_due", "_law_some_so", "_law_spot", "_law_e", "_law_k"] ["_law_well"] (defScope (top 36)) := ⟨rfl, rfl, rfl, by decide +kernel, rfl, by decide +kernel, by decide +kernel⟩
theorem spc_at (K : PySem.W.Frag) (v : V) {i : Nat} (hi : i < 27) : ∃ fs, (spc K v)[i]? = some (ga K (nm i), fs) := by
  match i, hi with
  | 0, _ => exact ⟨_, rfl⟩
  | 1, _ => exact ⟨_, rfl⟩
  | 2, _ => exact ⟨_, rfl⟩
  | 3, _ => exact ⟨_, rfl⟩
  | 4, _ => exact ⟨_, rfl⟩
  | 5, _ => exact ⟨_, rfl⟩
  | 6, _ => exact ⟨_, rfl⟩
  | 7, _ => exact ⟨_, rfl⟩
  | 8, _ => exact ⟨_, rfl⟩
  | 9, _ => exact ⟨_, rfl⟩
  | 10, _ => exact ⟨_, rfl⟩
  | 11, _ => exact ⟨_, rfl⟩
  | 12, _ => exact ⟨_, rfl⟩
  | 13, _ => exact ⟨_, rfl⟩
  | 14, _ => exact ⟨_, rfl⟩
  | 15, _ => exact ⟨_, rfl⟩
  | 16, _ => exact ⟨_, rfl⟩
  | 17, _ => exact ⟨_, rfl⟩
  | 18, _ => exact ⟨_, rfl⟩
  | 19, _ => exact ⟨_, rfl⟩
  | 20, _ => exact ⟨_, rfl⟩
  | 21, _ => exact ⟨_, rfl⟩
  | 22, _ => exact ⟨_, rfl⟩
  | 23, _ => exact ⟨_, rfl⟩
  | 24, _ => exact ⟨_, rfl⟩
  | 25, _ => exact ⟨_, rfl⟩
  | 26, _ => exact ⟨_, rfl⟩
  | i + 27, h => exact absurd h (by omega)
theorem spc_len (K : PySem.W.Frag) (v : V) : (spc K v).length = 27 := rfl
theorem ok_right (F : FnP K "_law_right" (top 36) f fd) (T : Txt mg) (gCE : mg "CrewError" = some (.ref (ga K "CrewError"))) (B : XAll P w K mg base) (D_law_draw : Dn P w K mg base 1 "_law_draw" ["_law_well", "_law_many"] spDraw)
    (D_law_one : Dn P w K mg base 2 "_law_one" ["_law_well", "_law_some_so"] (spOne K)) (D_law_taken : Dn P w K mg base 1 "_law_taken" ["_law_e"] (spTaken K)) (D_law_by_place : Dn P w K mg base 3 "_law_by_place" ["_law_x"] (spMade K))
    (D_law_by_name : Dn P w K mg base 3 "_law_by_name" ["_law_x"] (spMade K)) (D_law_fields : Dn P w K mg base 1 "_law_fields" ["_law_some_so"] (spFields K)) : FnOk P w K mg base CX0 4 f fd ["_law_well"] spRight := by
  have nd := sc_right.nd
  refine F.ok sc_right (fun vs H Q E h => ?_) (fun cdv A outer s H vs Q E hr h => ⟨_, PSs.nox (pss_cons (ps_set (i := 1) nd rfl (Or.inl rfl) (pe_d D_law_one (hr.mono (by decide)) (pa_cons (pv 0) (pa_cons (pe_lst (pa_cons (pe_d D_law_draw (hr.mono (by decide)) (pa_cons (pv 0) (pa_cons pe_int pa_nil))) (pa_cons (pe_un un_neg pe_int) (pa_cons pe_non (pa_cons pe_str (pa_cons (pe_tup (pa_cons pe_int (pa_cons pe_int pa_nil))) pa_nil)))))) pa_nil))))
      (pss_cons (ps_set (i := 2) nd rfl (Or.inl rfl) (pe_lst (pa_cons (pv 1) (pa_cons (pv 1) (pa_cons pe_int (pa_cons (pv 1) (pa_cons (pv 1) (pa_cons (pv 1) (pa_cons (pv 1) (pa_cons pe_int (pa_cons (pv 1) (pa_cons (pv 1) (pa_cons (pv 1) (pa_cons (pv 1) (pa_cons (pv 1) (pa_cons (pv 1) (pa_cons (pv 1) (pa_cons (pv 1) (pa_cons (pv 1) (pa_cons pe_int (pa_cons (pv 1) (pa_cons pe_int (pa_cons (pv 1) (pa_cons (pv 1) pa_nil))))))))))))))))))))))))
      (pss_cons (ps_set (i := 2) nd rfl (Or.inl rfl) (pe_op op_cat (pv 2) (pe_lst (pa_cons (pv 1) (pa_cons pe_int (pa_cons (pv 1) (pa_cons (pv 1) (pa_cons pe_int (pa_cons (pv 1) (pa_cons (pv 1) (pa_cons pe_int (pa_cons (pv 1) (pa_cons (pv 1) (pa_cons (pv 1) (pa_cons (pv 1) pa_nil)))))))))))))))
      (pss_cons (ps_for PassesOwn.never rfl (pi_list (pe_lst (pa_cons (pe_d D_law_by_place (hr.mono (by decide)) (pa_cons (pv 1) pa_nil)) (pa_cons (pe_d D_law_by_name (hr.mono (by decide)) (pa_cons (pv 1) pa_nil)) pa_nil)))) (pg_name (i := 3) nd rfl (Or.inl rfl)) (pss_cons (ps_if (pt_cmpR (op_neD hr.units) (pe_d D_law_fields (hr.mono (by decide)) (pa_cons (pv 3) pa_nil)) (pv 2) (nomark _)) (pss_one (ps_ret pe_bl)) pss_nil)
      (pss_one (ps_for PassesOwn.never rfl (pi_enum (by rfl) T.enumerate (pa_cons (pv 3) pa_nil)) (pg_tup rfl (pgs_cons (pg_name (i := 4) nd rfl (Or.inr rfl)) (pgs_cons (pg_name (i := 5) nd rfl (Or.inl rfl)) pgs_nil))) (pss_cons (ps_if (pt_cmpR (op_neD hr.units) (pe_d D_law_taken (hr.mono (by decide)) (pa_cons (pv 5) pa_nil)) (pe_lc (own := [("_law_k", 6)]) rfl nd (pi_range1 (by rfl) T.range (pa_cons (pe_callB call_len_seq (by rfl) T.len PySem.boot_len (pa_cons (pv 3) pa_nil)) pa_nil)) (blkOk_by (own := [("_law_k", 6)]) (N := ["_law_well", "_law_x", "_law_due", "_law_some_so", "_law_spot", "_law_e", "_law_k"]) (sc := defScope (top 36)) (by decide +kernel)) (fun _ _ _ _ _ => (pg_name (i := 6) nd rfl (Or.inl rfl))) (fun _ _ _ _ _ => pts_nil) (fun _ _ _ _ _ => (pe_cmpR op_eq (pv 6) (pv 4) (nomark _)))) (nomark _)) (pss_one (ps_ret pe_bl)) pss_nil)
      (pss_one (ps_if (PW.pt (pw_or (pt_not (pt_val (pe_callB call_xis (by rfl) T.isinstance (by decide +kernel) (pa_cons (pv 5) (pa_cons (pe_glob (v := .ref (ga K "CrewError")) (by rfl) gCE rfl) pa_nil))))) (pw_or1 (pt_not (pt_val (pe_callB call_xis (by rfl) T.isinstance (by decide +kernel) (pa_cons (pv 5) (pa_cons (pe_bltn (v := .ty "ValueError") (by rfl) T.ve boot_ValueError rfl) pa_nil)))))))) (pss_one (ps_ret pe_bl)) pss_nil)))))))
      (pss_one (ps_ret (pe_not (pe_callB call_vis (by rfl) T.isinstance (by decide +kernel) (pa_cons (pe_ve T.ve) (pa_cons (pe_glob (v := .ref (ga K "CrewError")) (by rfl) gCE rfl) pa_nil)))))))))), ?_⟩)
  · obtain ⟨p, a, b, c, rfl, _⟩ := h
    rfl
  · obtain ⟨p, a, b, c, rfl, hp, W, hc, k⟩ := h
    refine ⟨_, rfl, _, rfl, p, a, b, c, 1000, rfl, hp, W, (by omega), (by decide), (by decide), fun r a1 c1 r0 r1 W1 hc1 => ?_⟩
    refine ⟨1, rfl, (by show 2 ≤ sizeLine; decide), fun t ht => ?_⟩
    have npt : p ≠ t := fun z => by
      rw [← z, upd_same] at ht
      cases ht
    have t0 : H t = none := by
      rw [upd_ne npt.symm] at ht
      exact ht
    refine ⟨(by show 5 ≤ sizeLine; decide), fun l hl => ?_⟩
    have ntl : t ≠ l := fun z => by
      rw [← z, upd_same] at hl
      cases hl
    have npl : p ≠ l := fun z => by
      rw [← z, upd_ne npt, upd_same] at hl
      cases hl
    have l0 : H l = none := by
      rw [upd_ne ntl.symm, upd_ne npl.symm] at hl
      exact hl
    refine ⟨p, l, a1, b, c1, _, rfl, ?_, W1, (by omega), npl, SqL.of upd_same, (by show 1 ≤ 5; decide), (by show 5 ≤ 1000000; decide), fun v a2 c2 hv W2 hc2 => ?_⟩
    · rw [upd_ne npl, upd_ne npt, upd_same]
    refine s_asgL (el_lst (ea_cons (ev_var rfl) (ea_cons (ev_var rfl) (ea_cons ev_c (ea_cons (ev_var rfl) (ea_cons (ev_var rfl) (ea_cons (ev_var rfl) (ea_cons (ev_var rfl) (ea_cons ev_c (ea_cons (ev_var rfl) (ea_cons (ev_var rfl) (ea_cons (ev_var rfl) (ea_cons (ev_var rfl) (ea_cons (ev_var rfl) (ea_cons (ev_var rfl) (ea_cons (ev_var rfl) (ea_cons (ev_var rfl) (ea_cons (ev_var rfl) (ea_cons ev_c (ea_cons (ev_var rfl) (ea_cons ev_c (ea_cons (ev_var rfl) (ea_cons (ev_var rfl) ea_nil)))))))))))))))))))))) (by show 22 ≤ 100000; decide)) fun p1 H1 n1 e1 h1 => ?_
    have f1 : ExB p H H1 := fun q o nq hq => e1 _ _ (by
      rw [upd_ne nq, upd_ne (ne_of_none hq l0), upd_ne (ne_of_none hq t0), upd_ne nq]
      exact hq)
    obtain ⟨dv, o5, hdv⟩ : ∃ dv, Ok5 dv ∧ Dp K H1 v dv := by
      rcases List.mem_cons.mp hv with hv | hv
      · rw [hv]
        exact ⟨_, .i _, .int _⟩
      rcases List.mem_cons.mp hv with hv | hv
      · rw [hv]
        exact ⟨_, .i _, .int _⟩
      rcases List.mem_cons.mp hv with hv | hv
      · rw [hv]
        exact ⟨_, .n, .non⟩
      rcases List.mem_cons.mp hv with hv | hv
      · rw [hv]
        exact ⟨_, .s, .str _⟩
      have hv := List.mem_singleton.mp hv
      rw [hv]
      refine ⟨_, .t, .tup (SqT.of (e1 t _ ?_)) (.cons (.int 0) (.cons (.int 1) .nil))⟩
      rw [upd_ne npt.symm, upd_ne ntl, upd_same]
    refine s_asgL (el_cat (ev_var rfl) h1 (el_lst (ea_cons (ev_var rfl) (ea_cons ev_c (ea_cons (ev_var rfl) (ea_cons (ev_var rfl) (ea_cons ev_c (ea_cons (ev_var rfl) (ea_cons (ev_var rfl) (ea_cons ev_c (ea_cons (ev_var rfl) (ea_cons (ev_var rfl) (ea_cons (ev_var rfl) (ea_cons (ev_var rfl) ea_nil)))))))))))) (by show 12 ≤ 100000; decide)) (by show 22 + 12 ≤ 100000; decide)) fun p2 H2 n2 e2 h2 => ?_
    refine ⟨_, rfl, v, rfl, fun q1 as1 H3 e3 h3 x3 => ⟨_, rfl, v, rfl, fun q2 as2 H4 e4 h4 x4 => ⟨(by show 2 ≤ sizeLine; decide), fun m nm0 => ⟨m, rfl, ⟨_, SqL.of upd_same⟩,
      for_list (xs := [.ref q1, .ref q2]) (fun i σ H' => ∃ s3 s4 s5 s6, σ = [some (.ref p), some v, some (.ref p2), s3, s4, s5, s6] ∧ Ex (upd H4 m (.lst [.ref q1, .ref q2])) H') ⟨_, _, _, _, rfl, Ex.refl _⟩
        (fun i σ H' _ ⟨_, _, _, _, _, e⟩ => SqL.of (e _ _ upd_same)) ?_ ?_⟩⟩⟩⟩
    · rintro i x σ H5 hi ⟨s3, s4, s5, s6, rfl, e5⟩
      have e6 : Ex H4 H5 := (Ex.new nm0).trans e5
      obtain ⟨q, as, rfl, hq, xa⟩ : ∃ (q : Addr) (as : List Addr), x = .ref q ∧ H5 q = some (.lst (as.map V.ref)) ∧ XA H5 (spc K v) as := by
        match i, hi with
        | 0, hi =>
          cases hi
          exact ⟨q1, as1, rfl, e6 _ _ (e4 _ _ h3), (x3.up e4).up e6⟩
        | 1, hi =>
          cases hi
          exact ⟨q2, as2, rfl, e6 _ _ h4, x4.up e6⟩
        | i + 2, hi => cases hi
      have e26 : Ex H2 H5 := (e3.trans e4).trans e6
      refine ⟨_, rfl, q, as, v, rfl, SqL.of hq, xa, fun pf H6 e7 hf => ⟨_, rfl, .list (dued dv), .list (dued dv), .lst (SqL.of hf) (due_dp (Dp5.up (e2.trans (e26.trans e7)) o5 hdv)),
        .lst (SqL.of (e7 _ _ (e26 _ _ h2))) (due_dp (Dp5.up (e2.trans (e26.trans e7)) o5 hdv)), due_shaped o5, due_shaped o5, _, rfl, ?_⟩⟩
      rw [ne_self (due_shaped o5)]
      refine iteF ?_
      refine ⟨_, rfl, q, as.map V.ref, rfl, SqL.of (e7 _ _ hq), for_it walk_enum (fun j σ H' => ∃ s4 s5 s6, σ = [some (.ref p), some v, some (.ref p2), some (.ref q), s4, s5, s6] ∧ Ex H6 H') ⟨_, _, _, rfl, Ex.refl _⟩
        (fun j σ H' _ ⟨_, _, _, _, e⟩ => SqL.of (e _ _ (e7 _ _ hq))) ?_ ?_⟩
      · rintro j x σ H7 H8 hj ⟨s4', s5', s6', rfl, e8⟩ ⟨T0, x1, y1, rfl, nT, rfl, e9, e10⟩
        have e9 := Option.some.inj e9
        subst e9
        have lj : j < 27 := by
          rw [List.length_map, xa.len] at hj
          exact hj
        obtain ⟨fs, hfs⟩ := spc_at K v lj
        obtain ⟨a, ia, xa1⟩ := xa.get hfs
        have ey : y1 = .ref a := by
          have z : (as.map V.ref)[j]? = some y1 := e10
          rw [List.getElem?_map, ia] at z
          exact (Option.some.inj z).symm
        subst ey
        refine ⟨T0, _, rfl, SqT.of upd_same, rfl, _, _, rfl, _, _, rfl, rfl, ?_⟩
        have e11 : Ex H5 (upd H7 T0 (.tup [.int (j : Int), .ref a])) := (e7.trans e8).trans (Ex.new nT)
        have l27 : (as.map V.ref).length = 27 := by
          rw [List.length_map, xa.len]
          rfl
        refine ⟨_, rfl, a, j, fs, rfl, lj, xa1.up e11, fun pt H9 e12 ht => ?_⟩
        refine el_lcR1 (n := 27) (fun _ => true) (fun j' => .bl (decide (V.int (j' : Int) = V.int (j : Int)))) ?ha (by decide) ?hw ?hy ?he H9 (Ex.refl _) _ ?hk
        case ha => exact ea_cons (Evl.ev_is (ev_len (ev_var rfl) (SqL.of (e12 _ _ (e11 _ _ hq)))) (by rw [l27]; rfl)) ea_nil
        case hw => exact fun x => rfl
        case hy => exact fun _ _ _ _ => et_yes
        case he => exact fun _ _ _ _ _ => ev_op (ev_var rfl) (ev_var rfl) (rv_eq rfl)
        intro pc H10 nc e13 hc
        have hc2 : H10 pc = some (.lst (hits j)) := by
          rw [hc]
          exact congrArg (fun z => some (HO.lst z)) (given_hits j)
        refine ⟨.list (bs j), .list (bs j), .lst (SqL.of (e13 _ _ ht)) (bs_dp j), .lst (SqL.of hc2) (bs_dp j), bs_shaped j, bs_shaped j, _, rfl, ?_⟩
        rw [ne_self (bs_shaped j)]
        refine iteF ?_
        have e15 := e11.trans (e12.trans e13)
        refine s_if (b := false) (et_or (a := false) (b := false) (et_not (a := true) (et_B (K4.ev_is rfl (.own _) (B.c lj) (xa1.up e15) (B.ce lj).1))) (fun _ => et_not (a := true) (et_B (K4.ev_is rfl (.ty _) (B.c lj) (xa1.up e15) (B.ce lj).2)))) (fun z => nomatch z) (fun _ H11 e14 => ?_)
        exact ⟨_, _, _, rfl, (e8.trans (Ex.new nT)).trans ((e12.trans e13).trans e14)⟩
      · rintro σ H7 ⟨s4', s5', s6', rfl, e8⟩
        exact ⟨_, _, _, _, rfl, e5.trans (e7.trans e8)⟩
    · rintro σ H5 ⟨s3, s4, s5, s6, rfl, e5⟩
      refine fun a na => ⟨a, _, _, false, rfl, .own _, upd_same, B.ve, false, rfl, ?_⟩
      refine k _ fun q o nq hq => ?_
      have z := e5 _ _ ((Ex.new nm0) _ _ (e4 _ _ (e3 _ _ (e2 _ _ (f1 q o nq hq)))))
      rw [upd_ne (ne_of_none z na)]
      exact z
end
end K4


set_option Elab.async false
set_option autoImplicit false
set_option linter.all false
set_option maxRecDepth 100000
set_option maxHeartbeats 4000000
namespace K4
open PySem PySem.Spec PyProof.Rows L2 Evl He
/-- list + list, both only read -/
def rCatS (K : PySem.W.Frag) : R2 := fun x y H Q => ∃ (l b : Addr) (xs zs : List V), x = .ref l ∧ y = .ref b ∧ SqL K H l xs ∧ SqL K H b zs ∧ xs.length + zs.length ≤ sizeLine ∧ ∀ p, H p = none → Q (.ref p) (upd H p (.lst (xs ++ zs)))
theorem op_catS {X : Cx} : OpR X (binaryOp .Add) (rCatS X.K) := by
  intro pins s σ H x y v u Q I rx ry h
  obtain ⟨l, b, xs, zs, rfl, rfl, hA, hB, hz, q⟩ := h
  cases rx
  cases ry
  obtain ⟨i1, r1, p1, z1⟩ := I.list hA
  obtain ⟨i2, r2, p2, z2⟩ := I.list hB
  obtain ⟨⟨c1, d1, t1, s1⟩, n1, e1, hc1, hd1, ht1⟩ := p1
  obtain ⟨⟨c2, d2, t2, s2⟩, n2, e2, hc2, hd2, ht2⟩ := p2
  simp only at hc1 hd1 ht1 hc2 hd2 ht2
  subst hc1 hd1 ht1 hc2 hd2 ht2
  have g1 : xs.length = i1.length := r1.length
  have g2 : zs.length = i2.length := r2.length
  refine concat_meets ⟨_, e1, rfl⟩ ⟨_, e2, rfl⟩ noFill_list_add seq_list_add PySem.F.slot_list_add PySem.F.entry_list_add (PySem.F.args_list_add_2 _ _)
    (list_addW l b i1.toArray i2.toArray n1 n2 none none s1 s2 (by rw [List.size_toArray, List.size_toArray]; omega)) ⟨e1, e2, ?_⟩
  have ea : i1.toArray ++ i2.toArray = (i1 ++ i2).toArray := by simp
  rw [ea]
  exact ⟨.ref _, _, I.lnew (t' := s.toks) (r1.append r2) (by rw [List.length_append]; omega), rfl, q _ I.fresh⟩
def spLaw (K : PySem.W.Frag) : Sp := fun vs H Q _ => ∃ (a : Addr) (ns : List Int), vs = [.ref a] ∧ SqL K H a (ns.map V.int) ∧ ns.length ≤ 63 ∧ ∀ H', Q (.bl true) H'
theorem cut_mem {xs : List V} {lo hi : Option Int} {v : V} (h : v ∈ cutV xs lo hi) : v ∈ xs := by
  unfold cutV at h
  exact List.mem_of_mem_drop (List.mem_of_mem_take h)
section
variable {P : Program} {w : World} {K : PySem.W.Frag} {mg : Str → Option Value} {base : Heap} {f : Addr} {fd : FuncData}
theorem sc_law : FnScope ["_law_script", "_law_k", "_law_cell", "_law_well"] ["_law_script"] (defScope (top 37)) := ⟨rfl, rfl, rfl, by decide +kernel, rfl, by decide +kernel, by decide +kernel⟩
theorem ok_law (F : FnP K "law" (top 37) f fd) (T : Txt mg) (D_law_right : Dn P w K mg base 4 "_law_right" ["_law_well"] spRight) : FnOk P w K mg base CX0 5 f fd ["_law_script"] (spLaw K) := by
  have nd := sc_law.nd
  refine F.ok sc_law (fun vs H Q E h => ?_) (fun cdv A outer s H vs Q E hr h => ⟨_, PSs.nox (pss_cons (ps_for PassesOwn.never rfl (pi_enum (by rfl) T.enumerate (pa_cons (pe_slice sl_list (pe_op op_catS (pv 0) (pe_lst (pa_cons pe_int pa_nil))) po_none (po_some pe_int)) pa_nil)) (pg_tup rfl (pgs_cons (pg_name (i := 1) nd rfl (Or.inl rfl)) (pgs_cons (pg_name (i := 2) nd rfl (Or.inl rfl)) pgs_nil))) (pss_cons (ps_set (i := 3) nd rfl (Or.inl rfl) (pe_lst (pa_cons (pe_op op_mul (pv 2) (pe_callTy call_int1 (by rfl) T.int (by decide +kernel) (pa_cons (pe_cmpR op_ge (pv 2) (pe_op op_pow pe_int pe_int) (nomark _)) pa_nil))) (pa_cons (pe_op op_add (pe_op op_mod (pe_callTy call_int1 (by rfl) T.int (by decide +kernel) (pa_cons (pv 2) pa_nil)) pe_int) (pe_op op_mul pe_int (pv 1))) (pa_cons pe_int pa_nil)))))
      (pss_one (ps_if (pt_not (pt_val (pe_d D_law_right (hr.mono (by decide)) (pa_cons (pv 3) pa_nil)))) (pss_one (ps_ret pe_bl)) pss_nil))))
      (pss_one (ps_ret pe_bl))), ?_⟩)
  · obtain ⟨a, ns, rfl, _⟩ := h
    rfl
  · obtain ⟨a, ns, rfl, hS, hn, k⟩ := h
    have hlen : (ns.map V.int).length ≤ 63 := by
      rw [List.length_map]
      exact hn
    refine ⟨_, rfl, (by show 1 ≤ sizeLine; decide), fun z hz => ⟨a, z, _, _, rfl, rfl, ex_l (Ex.new hz) hS, SqL.of upd_same, few (by show (ns.map V.int).length + 1 ≤ 1000; omega), fun c hc => ?_⟩⟩
    refine ⟨4, rfl, c, _, rfl, SqL.of upd_same, fun l hl => ?_⟩
    have isI : ∀ v ∈ cutV (ns.map V.int ++ [V.int 0]) none (some 4), ∃ n : Int, v = .int n := fun v hv => by
      have h1 := cut_mem hv
      rcases List.mem_append.mp h1 with h1 | h1
      · obtain ⟨n, _, e⟩ := List.mem_map.mp h1
        exact ⟨n, e.symm⟩
      · exact ⟨0, List.mem_singleton.mp h1⟩
    have clen : (cutV (ns.map V.int ++ [V.int 0]) none (some 4)).length ≤ 64 := by
      refine Nat.le_trans (cutV_length _ _ _) ?_
      rw [List.length_append]
      show (ns.map V.int).length + 1 ≤ 64
      omega
    refine ⟨l, _, rfl, SqL.of upd_same, for_it walk_enum (fun i σ H' => ∃ s1 s2 s3, σ = [some (.ref a), s1, s2, s3] ∧ H' l = some (.lst (cutV (ns.map V.int ++ [V.int 0]) none (some 4)))) ⟨_, _, _, rfl, upd_same⟩
      (fun i σ H' _ ⟨_, _, _, _, e⟩ => SqL.of e) ?_ ?_⟩
    · rintro i x σ H1 H2 hi ⟨s1, s2, s3, rfl, e1⟩ ⟨t, x1, y1, rfl, nt, rfl, g1, g2⟩
      have g1 := Option.some.inj g1
      subst g1
      obtain ⟨n, rfl⟩ := isI y1 (List.mem_of_getElem? g2)
      refine ⟨t, _, rfl, SqT.of upd_same, rfl, _, _, rfl, _, _, rfl, rfl, ?_⟩
      have i64 : i < 64 := by omega
      refine ⟨_, rfl, _, rfl, 10, 18, rfl, rfl, ⟨by decide, by decide, by decide⟩, _, _, rfl, rfl, .inr ⟨_, rfl, _, _, rfl, rfl, ?_, ?_⟩⟩
      · refine .inr ?_
        cases decide ((10 : Int) ^ (18 : Int).toNat ≤ n) with
        | true => exact ⟨by decide, by decide⟩
        | false => exact ⟨by decide, by decide⟩
      refine ⟨_, rfl, .inl ⟨_, rfl, _, _, rfl, rfl, (by show (0 : Int) < 2147483647; decide), _, rfl, _, _, rfl, rfl, .inl ⟨by decide, by decide⟩, _, _, rfl, rfl, (by show 3 ≤ sizeLine; decide), fun p np => ?_⟩⟩
      have m1 := Int.emod_nonneg n (show (2147483647 : Int) ≠ 0 by decide)
      have m2 := Int.emod_lt_of_pos n (show (0 : Int) < 2147483647 by decide)
      refine ⟨_, rfl, p, _, _, 0, rfl, upd_same, ⟨?_, ?_, ?_, Int.le_refl 0⟩, (by decide), fun H3 eB => ⟨true, rfl, ?_⟩⟩
      · by_cases q : (10 : Int) ^ (18 : Int).toNat ≤ n
        · rw [decide_eq_true q]
          show 0 ≤ n * 1
          have q2 : (0 : Int) ≤ (10 : Int) ^ (18 : Int).toNat := by decide
          omega
        · rw [decide_eq_false q]
          show 0 ≤ n * 0
          omega
      · show (0 : Int) ≤ n % 2147483647 + 7919 * (i : Int)
        omega
      · show n % 2147483647 + 7919 * (i : Int) < 8589934592
        omega
      refine iteF ?_
      have e2 : upd H1 t (.tup [.int (i : Int), .int n]) l = some (.lst (cutV (ns.map V.int ++ [V.int 0]) none (some 4))) := by
        rw [upd_ne (ne_of_none e1 nt)]
        exact e1
      refine ⟨_, _, _, rfl, eB l _ (ne_of_none e2 np) ?_⟩
      rw [upd_ne (ne_of_none e2 np)]
      exact e2
    · rintro σ H1 ⟨s1, s2, s3, rfl, e1⟩
      exact k _
end
/-! ### the whole -/
theorem facts {P : Program} {w : World} {K : PySem.W.Frag} {h : Heap} {mg : Str → Option Value} {f : Addr} (X : K.In h) (G : h.Ns mainGlobals mg) (hfa : mg ("law" : Str) = some (.ref f)) (c : He.SaysX fa fn [] [] exB w h K) :
    ∃ fd : FuncData, (∀ (s : Shared) (v : Value), BindsTo s fd ⟨[v], []⟩ [("_law_script", v)]) ∧ ∀ base : Heap, K.In base → base.Ns mainGlobals mg → FnOk P w K mg base CX0 5 f fd ["_law_script"] (spLaw K) := by
  have D := c.t.d
  obtain ⟨ex1, ex2⟩ := ba (show (cls.all (fun p => xB K p.1 p.2) && kB K) = true from c.more)
  have XF := fun (i : Nat) (p : Str × List Str) (e : cls[i]? = some p) => xB_ok X G (List.all_eq_true.mp ex1 p (List.mem_of_getElem? e))
  have T : Txt mg := ⟨free_ok X G (D.facts (f := .free "isinstance") (List.mem_of_getElem? (i := 9) rfl)), free_ok X G (D.facts (f := .free "len") (List.mem_of_getElem? (i := 10) rfl)), free_ok X G (D.facts (f := .free "range") (List.mem_of_getElem? (i := 11) rfl)),
    free_ok X G (D.facts (f := .free "enumerate") (List.mem_of_getElem? (i := 12) rfl)), free_ok X G (D.facts (f := .free "int") (List.mem_of_getElem? (i := 13) rfl)), free_ok X G (D.facts (f := .free "ValueError") (List.mem_of_getElem? (i := 14) rfl))⟩
  have gCE := glo_ok X G (D.facts (f := .glo "CrewError") (List.mem_of_getElem? (i := 8) rfl))
  obtain ⟨fd_law_draw, F_law_draw⟩ := D.defs (d := d_law_draw) (List.mem_of_getElem? (i := 27) rfl)
  have F_law_draw : FnP K "_law_draw" (top 30) (ga K "_law_draw") fd_law_draw := F_law_draw
  have g_law_draw := glo_ok X G (D.facts (f := .glo "_law_draw") (List.mem_of_getElem? (i := 0) rfl))
  obtain ⟨fd_law_one, F_law_one⟩ := D.defs (d := d_law_one) (List.mem_of_getElem? (i := 28) rfl)
  have F_law_one : FnP K "_law_one" (top 31) (ga K "_law_one") fd_law_one := F_law_one
  have g_law_one := glo_ok X G (D.facts (f := .glo "_law_one") (List.mem_of_getElem? (i := 1) rfl))
  obtain ⟨fd_law_taken, F_law_taken⟩ := D.defs (d := d_law_taken) (List.mem_of_getElem? (i := 29) rfl)
  have F_law_taken : FnP K "_law_taken" (top 32) (ga K "_law_taken") fd_law_taken := F_law_taken
  have g_law_taken := glo_ok X G (D.facts (f := .glo "_law_taken") (List.mem_of_getElem? (i := 2) rfl))
  obtain ⟨fd_law_by_place, F_law_by_place⟩ := D.defs (d := d_law_by_place) (List.mem_of_getElem? (i := 30) rfl)
  have F_law_by_place : FnP K "_law_by_place" (top 33) (ga K "_law_by_place") fd_law_by_place := F_law_by_place
  have g_law_by_place := glo_ok X G (D.facts (f := .glo "_law_by_place") (List.mem_of_getElem? (i := 3) rfl))
  obtain ⟨fd_law_by_name, F_law_by_name⟩ := D.defs (d := d_law_by_name) (List.mem_of_getElem? (i := 31) rfl)
  have F_law_by_name : FnP K "_law_by_name" (top 34) (ga K "_law_by_name") fd_law_by_name := F_law_by_name
  have g_law_by_name := glo_ok X G (D.facts (f := .glo "_law_by_name") (List.mem_of_getElem? (i := 4) rfl))
  obtain ⟨fd_law_fields, F_law_fields⟩ := D.defs (d := d_law_fields) (List.mem_of_getElem? (i := 32) rfl)
  have F_law_fields : FnP K "_law_fields" (top 35) (ga K "_law_fields") fd_law_fields := F_law_fields
  have g_law_fields := glo_ok X G (D.facts (f := .glo "_law_fields") (List.mem_of_getElem? (i := 5) rfl))
  obtain ⟨fd_law_right, F_law_right⟩ := D.defs (d := d_law_right) (List.mem_of_getElem? (i := 33) rfl)
  have F_law_right : FnP K "_law_right" (top 36) (ga K "_law_right") fd_law_right := F_law_right
  have g_law_right := glo_ok X G (D.facts (f := .glo "_law_right") (List.mem_of_getElem? (i := 6) rfl))
  obtain ⟨fdlaw, Flaw⟩ := D.defs (d := dlaw) (List.mem_of_getElem? (i := 34) rfl)
  have Flaw : FnP K "law" (top 37) (ga K "law") fdlaw := Flaw
  have glaw := glo_ok X G (D.facts (f := .glo "law") (List.mem_of_getElem? (i := 7) rfl))
  have e := hfa.symm.trans glaw
  cases e
  have b := FunD.bindsA (ps := ["_law_script"]) Flaw fun _ _ _ _ _ _ us hl => match us, hl with | [_], _ => rfl
  refine ⟨fdlaw, fun s v => b s [v] rfl, fun base _ _ => ?_⟩
  have B : XAll P w K mg base := { x2 := x2 D (XF 0 ("NoNumber", ["part"]) rfl), x3 := x3 D (XF 1 ("NoShape", ["part", "index"]) rfl), x4 := x4 D (XF 2 ("NoSet", ["some"]) rfl), x5 := x5 D (XF 3 ("NoDurations", ["index"]) rfl), x6 := x6 D (XF 4 ("NoWeights", ["index"]) rfl), x7 := x7 D (XF 5 ("NoBound", ["part", "index"]) rfl), x8 := x8 D (XF 6 ("NoPairs", ["index"]) rfl), x9 := x9 D (XF 7 ("NoOrder", ["index"]) rfl), x10 := x10 D (XF 8 ("NoGraph", ["index"]) rfl), x11 := x11 D (XF 9 ("NoStarts", ["index"]) rfl), x12 := x12 D (XF 10 ("NoSchedule", ["fault"]) rfl), x13 := x13 D (XF 11 ("NoActivity", ["one"]) rfl), x14 := x14 D (XF 12 ("NoText", ["line"]) rfl), x15 := x15 D (XF 13 ("NoChange", ["word"]) rfl), x16 := x16 D (XF 14 ("NoCalendar", ["part", "index"]) rfl), x17 := x17 D (XF 15 ("NoProject", ["part", "index"]) rfl), x18 := x18 D (XF 16 ("NoChoice", ["index"]) rfl), x19 := x19 D (XF 17 ("NoAhead", ["index"]) rfl), x20 := x20 D (XF 18 ("NoDerivation", ["part", "index"]) rfl), x21 := x21 D (XF 19 ("NoPlan", ["fault"]) rfl), x22 := x22 D (XF 20 ("NoRota", ["part", "index"]) rfl), x23 := x23 D (XF 21 ("NoMix", ["index"]) rfl), x24 := x24 D (XF 22 ("NoBlind", ["part", "index"]) rfl), x25 := x25 D (XF 23 ("NoFixed", ["index"]) rfl), x26 := x26 D (XF 24 ("NotBeside", ["part"]) rfl), x27 := x27 D (XF 25 ("NoBox", ["index"]) rfl), x28 := x28 D (XF 26 ("TooGreat", ["most"]) rfl), kit := ex2 }
  have D_law_draw : Dn P w K mg base 1 "_law_draw" ["_law_well", "_law_many"] spDraw := dn_mk F_law_draw g_law_draw (fun _ _ _ _ _ _ us hl => match us, hl with | [_, _], _ => rfl) (ok_draw F_law_draw T)
  have D_law_one : Dn P w K mg base 2 "_law_one" ["_law_well", "_law_some_so"] (spOne K) := dn_mk F_law_one g_law_one (fun _ _ _ _ _ _ us hl => match us, hl with | [_, _], _ => rfl) (ok_one F_law_one T D_law_draw)
  have D_law_taken : Dn P w K mg base 1 "_law_taken" ["_law_e"] (spTaken K) := dn_mk F_law_taken g_law_taken (fun _ _ _ _ _ _ us hl => match us, hl with | [_], _ => rfl) (ok_taken F_law_taken T B)
  have D_law_by_place : Dn P w K mg base 3 "_law_by_place" ["_law_x"] (spMade K) := dn_mk F_law_by_place g_law_by_place (fun _ _ _ _ _ _ us hl => match us, hl with | [_], _ => rfl) (ok_place F_law_by_place T B)
  have D_law_by_name : Dn P w K mg base 3 "_law_by_name" ["_law_x"] (spMade K) := dn_mk F_law_by_name g_law_by_name (fun _ _ _ _ _ _ us hl => match us, hl with | [_], _ => rfl) (ok_name F_law_by_name T B)
  have D_law_fields : Dn P w K mg base 1 "_law_fields" ["_law_some_so"] (spFields K) := dn_mk F_law_fields g_law_fields (fun _ _ _ _ _ _ us hl => match us, hl with | [_], _ => rfl) (ok_fields F_law_fields T B)
  have D_law_right : Dn P w K mg base 4 "_law_right" ["_law_well"] spRight := dn_mk F_law_right g_law_right (fun _ _ _ _ _ _ us hl => match us, hl with | [_], _ => rfl) (ok_right F_law_right T gCE B D_law_draw D_law_one D_law_taken D_law_by_place D_law_by_name D_law_fields)
  exact ok_law Flaw T D_law_right
end K4
open PySem PySem.W PySem.Calls PyProof.Rows
set_option maxRecDepth 100000 in
set_option maxHeartbeats 0 in
theorem PySem.Challenge.cw_crewlags_k04_exceptions_holds : PySem.Challenge.rw_crewlags_k04_exceptions.Holds := by
  w_on; o_law
  refine HandSHeadRun.head_any (r := OpenLaw.row PySem.Challenge.rw_crewlags_k04_exceptions) (q := view (OpenLaw.row PySem.Challenge.rw_crewlags_k04_exceptions).prog [37]) (H := K4.hk) (ob := K4.ob) (M := 9000) (loose := K4.loose) (d := HandSHeadRun.topDef (OpenLaw.row PySem.Challenge.rw_crewlags_k04_exceptions).prog 37) (kwd := []) K4.ob_eq
    (by kernel_rfl) (fun s => by kernel_rfl) K4.run (by kernel_rfl) (by kernel_rfl) (by kernel_rfl) (by rfl) (by first | assumption | decide +kernel) (by decide +kernel) ⟨rfl, rfl, rfl, rfl, rfl, by decide +kernel⟩ ?hw ?hc
  case hw => w_witness2
  case hc =>
    refine L2.walk_ofE (l := PySem.Challenge.rw_crewlags_k04_exceptions) (n := 63) (k := 5) (x := "_law_script") (CX := L2.CX0) rfl (by decide) (by kernel_rfl) ⟨rfl, by decide, by decide⟩ ?F (fun _ _ _ _ z => z)
    intro w mg fa h Y G hmg0
    obtain ⟨K, KX, c⟩ := Y
    have hmg : mg ("law" : PySem.Str) = some (.ref fa) := by
      have e : (HandSHeadRun.topDef (OpenLaw.row PySem.Challenge.rw_crewlags_k04_exceptions).prog 37).name = ("law" : PySem.Str) := by kernel_rfl
      rw [← e]
      exact hmg0
    obtain ⟨fd, hb, hF⟩ := K4.facts (P := (PySem.Challenge.rw_crewlags_k04_exceptions).prog) (w := w) KX G hmg c
    exact ⟨K, fd, K4.spLaw K, KX, hb, fun H a ns hl _ hS => ⟨a, ns, rfl, hS, hl, fun _ => rfl⟩, hF⟩


