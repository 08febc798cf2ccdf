import PyProof.Rows.All
import Wide.All
import OpenK.AllK
import Wide.FinOn
import PyProof.ReprRoads
import KE.KExcIs
import HandS.Call
import HandS.List
import HandS.Ends
import HandS.Exc
import HandS.ExcOwn
import HandS.ExcInit
import HandS.ExcValue
import HandS.IsInst
import HandS.Defaults
import HandS.MakeKw
import HandS.MakeKwOnly
import HandS.ExcField
import HandS.Dict
import HandS.ExcIs
import HandS.Words
import HandS.WordsList
import HandS.WordsDict
import HandS.ForMost
import HandS.Wide
import HandS.Flow
import HandS.Style
import HandS.Evl
import HandS.Walk
import PySem.Challenge.RW_unswayed_k00_errors_of_all_parts
set_option Elab.async false
set_option linter.all false
/-! Law k00: the 28 errors. By hand over the layer HandS: each def of the law by its promise; the classes' facts are reckoned by the kernel. -/
section
set_option maxRecDepth 100000
set_option maxHeartbeats 4000000
namespace PySem
/-! An own error over ValueError, called with one keyword and nothing else: ValueError.__new__ takes it and lays it aside, the own __init__ gets it. -/
namespace EK
open PySem.W PySem.Calls PyProof.Rows PySem.HandSPX
section
variable {prog : Program} {w : World} {A : Around} {R : Result → Shared → Prop} {h : Heap} {g : Array GenState} {d : Drawn} {t : Nat} {os : OsState}
  {nm q kn : Str} {kv : Value} {C N fI : Addr} {bs bm : List Value} {hdct ab : Bool} {sn : List Str} {sub : List Value} {col : Option Bool} {dd : Option Addr} {k0 k1 k2 k3 k5 : Option Value}
/-- the bases told: all that ValueError is, and none of the two that keep a name -/
theorem kinds_of (hT : refsVE bm = true) : (Value.ref C :: bm).contains (.type "ValueError") = true ∧ (Value.ref C :: bm).contains (.type "AttributeError") = false ∧ (Value.ref C :: bm).contains (.type "NameError") = false := by
  refine ⟨?_, ?_, ?_⟩ <;> rw [List.contains_cons, refsVE_contains _ bm hT] <;> rfl
/-- what __new__ leaves: the empty args, the error -/
abbrev born (h : Heap) (C : Addr) : Heap := (h.push (W.kdv_tup [])).push (excO C h.objs.size)
theorem kw_new (hT : refsVE bm = true) (hC : h.get? C = some (excClassObj nm q C N bs bm hdct sn sub ab col dd k0 k1 k2 k3 k5 "ValueError.__new__")) (hq : R (.ok (.ret (.ref (h.objs.size + 1)))) ⟨born h C, g, d, t, os⟩) :
    codeAny (model prog w) A (.builtin "ValueError.__new__" ⟨[.ref C], [(kn, kv)]⟩) R ⟨h, g, d, t, os⟩ := by
  obtain ⟨c1, c2, c3⟩ := kinds_of (C := C) hT
  have over := F.excBase_ValueError.ends
  refine codeAny_builtinAt F.excBase_ValueError.entry ?_
  unfold Builtin.«BaseException.__new__»
  refine wpAt_bind ?_
  show wpAt _ _ _ (stack >>= fun _ => _) _ _ _
  refine wpAt_bind (wpAt_stack fun _ _ => wpAt_of_wpAny ?_)
  wp_walk
  refine wpAt_of_wpAny ?_
  rw [F.excBase_ValueError.owner]
  repeat (first
    | (with_reducible refine wpAny_isSubtype_exc hC ?_; first | rw [c1] | rw [c2] | rw [c3])
    | with_reducible refine wpAny_madeHere_exc F.excBase_ValueError.canon hC ?_
    | with_reducible refine wpAny_loadPart_at hC ?_
    | wp_step)
  show R (.ok (.ret (.ref (h.push (W.kdv_tup [])).objs.size))) _
  rw [Heap.size_push]
  exact hq
theorem kw_call (hT : refsVE bm = true) (hC : h.get? C = some (excClassObj nm q C N bs bm hdct sn sub ab col dd k0 k1 k2 k3 k5 "ValueError.__new__"))
    (hi : W.Looks (model prog w) h (typeLookup (.ref C) "__init__") (some (.ref fI))) (hb : ∀ self, W.Looks (model prog w) h (bindSpecial (.ref fI) self) (.ref fI, [self]))
    (hq : codeAny (model prog w) (A.under (.builtin "type.__call__" ⟨[.ref C], [(kn, kv)]⟩)) (.call (.ref fI) ⟨[.ref (h.objs.size + 1)], [(kn, kv)]⟩) (W.InitBack (h.objs.size + 1) R) ⟨born h C, g, d, t, os⟩) :
    codeAny (model prog w) A (.call (.ref C) ⟨[], [(kn, kv)]⟩) R ⟨h, g, d, t, os⟩ := by
  obtain ⟨c1, c2, c3⟩ := kinds_of (C := C) hT
  have up : ∀ b o, h.get? b = some o → (born h C).get? b = some o := fun b o e => Heap.get?_push_of_some _ (Heap.get?_push_of_some _ e)
  have at_new : (born h C).get? (h.objs.size + 1) = some (excO C h.objs.size) := by heap_get
  have self_ : (Value.ref C :: bm).contains (.ref C) = true := by simp
  have f1 := tc_lookup
  have f2 := tc_bind (.ref C)
  have isT : (⟨h, g, d, t, os⟩ : Shared).TypeIs (.ref C) "type" := ⟨_, hC, rfl⟩
  have star := F.excBase_ValueError.noStar
  refine codeAny_of_tree ?_
  show wpAny _ _ (callAny (.ref C) _) _ _ _
  repeat (any_goals (first | assumption | with_reducible refine wpAny_loadPart_at hC ?_ | wp_step))
  refine ⟨rfl, codeAny_call_builtin_at (Code.quiet_builtin _ (by decide +kernel)) entry_typeCall (wpAny_check_type_call_sub hC ?_)⟩
  repeat (first | with_reducible refine wpAny_madeBy_exc hC ?_ | with_reducible refine wpAny_loadPart_at hC ?_ | wp_step)
  refine codeAny_call_builtin_code (Code.quiet_builtin _ F.excBase_ValueError.quiet) ?_
  simp only [checkBuiltinCall, F.excBase_ValueError.newKind, F.excBase_ValueError.newSplit, F.excBase_ValueError.newRow]
  repeat (first | (refine wpAny_isSubtype_exc hC ?_; rw [c1]) | refine wpAny_loadPart_at hC ?_ | refine wpAny_staticBase_exc hC ?_ | refine wpAny_madeBy_exc hC ?_ | simp only [bne_self_eq_false, Bool.false_eq_true, if_false] | wp_step)
  refine kw_new hT hC ?_
  show wpAny _ _ _ _ _ _
  unfold isInstance
  repeat (first | (with_reducible refine wpAny_isSubtype_exc (up _ _ hC) ?_; rw [self_]) | with_reducible refine wpAny_loadPart_at at_new ?_ | wp_step)
  show wpAny _ _ (typeLookup (.ref C) _) _ _ _
  refine (hi.keeps up).at (wpAny_holding (wpAny_bind (((hb _).keeps up).at (wpAny_bind (wpAny_call (codeAny_mono hq fun r s' z => ?_))))))
  match r, z with
  | .error _, z => exact z
  | .ok .next, z => exact z.elim
  | .ok .brk, z => exact z.elim
  | .ok .cont, z => exact z.elim
  | .ok (.ret _), ⟨e, z⟩ =>
    subst e
    first | exact wpAny_pure (wpAny_pure z) | (wp_walk; exact z)
end
end EK
end PySem
end

section
set_option maxRecDepth 100000
set_option maxHeartbeats 4000000
namespace L2
open PySem PySem.Spec PyProof.Rows
/-- C(e, ..) as a value, C an own exception class with its own __init__ keeping sp -/
def tOxV (C : Addr) (sp : Sp) (ta : TA) : TE := fun σ H Q => ta σ H fun vs H1 => vs.length ≤ 1000 ∧ ∀ a, H1 a = none → sp (.ref a :: vs) (upd H1 a (exo a C none)) (fun v H2 => v = .non ∧ Q (.ref a) H2) (fun _ _ _ => False)
/-- C(k = e) -/
def tOxK (C : Addr) (sp : Sp) (ta : TA) : TE := fun σ H Q => ta σ H fun vs H1 => vs.length = 1 ∧ ∀ a, H1 a = none → sp (.ref a :: vs) (upd H1 a (exo a C none)) (fun v H2 => v = .non ∧ Q (.ref a) H2) (fun _ _ _ => False)
section
variable {X : Cx} {e : Expr} {es : List Expr} {ta : TA} {p pos : Pos}
theorem pe_oexV {CX : CXT} {x : Str} {C fI : Addr} {k : Nat} {fd : FuncData} {ps : List Str} {sp : Sp} (T : OexC X.K C) (iC : PySem.W.findIn X.K (.ref C) "__init__" = some (some (.ref fI))) (tI : PySem.W.typeIn X.K (.ref fI) = some (.type "function"))
    (F1 : FnOk X.prog X.w X.K X.mg X.base CX k fI fd ps sp) (hr : Room (k + 1) X.A) (hb : Binds X.K fd ps []) (hx : Passes CX X (fun _ _ _ => False)) (hg : Gl X x) (hm : X.mg x = some (.ref C)) (ha : PA X (e :: es) ta)
    (hdb : (x == ("__debug__" : Str)) = false := by decide) (he : starEach (e :: es) X.env = (false, eval e X.env) :: starEach es X.env := by rfl) (hpl : (backTo pos (starEach es X.env)).any (·.1) = false := by rfl) :
    PE X (.Call (.Name x p) (e :: es) [] pos) (tOxV C sp ta) := by
  refine ⟨fun pins s σ H Q I h => ?_⟩
  obtain ⟨nm, q, N, bs, bm, sn, sub, ab, col, dd, k0, k1, k2, k3, k5, hC, hbm⟩ := T.cls
  refine wpAny_Call_Name_kw (ld_glob I hg hm ?_ hdb)
  refine PySem.W.callWith_K (h₀ := X.base) I.ok.mod.kin T.kC (thn (ha.run pos pins s σ H _ I h) fun us s1 ⟨vs, H1, I1, r1, hz, q1⟩ => ⟨I1.kIn, ?_⟩) he hpl
  show wpAny _ _ (call (.ref C) us) _ _ _
  obtain ⟨hp, g, dr, tk, os⟩ := s1
  have hsz : hp.objs.size ≤ hp.objs.size + 1 := Nat.le_succ _
  have hn : H1 (hp.objs.size + 1) = none := I1.hok.fresh hsz
  have hq := q1 (hp.objs.size + 1) hn
  have kk : ∀ b o, hp.get? b = some o → ((hp.push (PySem.W.kdv_tup us)).push (PySem.HandSPX.excO C hp.objs.size)).get? b = some o := fun b o e => Heap.get?_push_of_some _ (Heap.get?_push_of_some _ e)
  have hget : ((hp.push (PySem.W.kdv_tup us)).push (PySem.HandSPX.excO C hp.objs.size)).get? (hp.objs.size + 1) = some (PySem.HandSPX.excO C hp.objs.size) := by heap_get
  have I2 : Inv X pins σ (upd H1 (hp.objs.size + 1) (exo (hp.objs.size + 1) C none)) ⟨(hp.push (PySem.W.kdv_tup us)).push (PySem.HandSPX.excO C hp.objs.size), g, dr, tk, os⟩ :=
    I1.laid (t' := tk) (a := hp.objs.size + 1) (o := exo (hp.objs.size + 1) C none) (h' := (hp.push (PySem.W.kdv_tup us)).push (PySem.HandSPX.excO C hp.objs.size)) kk hsz (exo_ok hget)
  have r2 : Vals (V.ref (hp.objs.size + 1) :: vs) (Value.ref (hp.objs.size + 1) :: us) := .cons rfl r1
  have hl : (Value.ref (hp.objs.size + 1) :: us ++ []).length = ps.length := by
    have e := r2.length
    rw [F1.len _ _ _ _ hq] at e
    rw [List.append_nil]
    exact e.symm
  have hus : us.length ≤ sizeLine := by
    rw [← Paired.length r1, sizeLine_eq]
    omega
  have hbb := hb _ (Value.ref (hp.objs.size + 1) :: us) I2.kIn hl
  rw [List.append_nil] at hbb
  refine wpAny_call (PySem.HandSPX.call_own F.excBase_ValueError (fun Y => PySem.HandSPX.refsVE_contains Y bm hbm) (I1.kIn _ _ hC) (PySem.W.looks_findIn I1.kIn iC) (fun self => PySem.W.bind_fn I1.kIn self tI) hus
    (codeAny_mono (F1.run _ X.stack _ _ ⟨Value.ref (hp.objs.size + 1) :: us, []⟩ (Value.ref (hp.objs.size + 1) :: us) _ _ (fun _ _ _ => False) (hr.make C us []) (I2.env0.make C us []) hbb r2 hq) fun r s' hq' => ?_))
  cases r with
  | error er => exact hx pins σ _ _ er s' I2 hq'
  | ok fl =>
    cases fl with
    | ret u =>
      obtain ⟨v, H', I3, rv, ev, q3⟩ := I2.after hq'
      subst ev
      exact ⟨rv, ⟨V.ref (hp.objs.size + 1), H', I3, rfl, q3⟩⟩
    | next => exact False.elim hq'
    | brk => exact False.elim hq'
    | cont => exact False.elim hq'
/-- C(k = e), one keyword -/
theorem pe_oexK {CX : CXT} {x kn : Str} {kpos : Pos} {C fI : Addr} {k : Nat} {fd : FuncData} {ps : List Str} {sp : Sp} (T : OexC X.K C) (iC : PySem.W.findIn X.K (.ref C) "__init__" = some (some (.ref fI))) (tI : PySem.W.typeIn X.K (.ref fI) = some (.type "function"))
    (F1 : FnOk X.prog X.w X.K X.mg X.base CX k fI fd ps sp) (hr : Room (k + 1) X.A) (hb : KBn X.K fd ps 1 [kn] (fun us ws => us ++ ws) (fun us ws => us ++ ws)) (hx : Passes CX X (fun _ _ _ => False)) (hg : Gl X x) (hm : X.mg x = some (.ref C)) (ha : PK X [⟨some kn, e, kpos⟩] ta)
    (hall : (backToKw pos (keywordEach [⟨some kn, e, kpos⟩] X.env)).all (·.1.isSome) = true := by rfl) (hks : (backToKw pos (keywordEach [⟨some kn, e, kpos⟩] X.env)).filterMap (·.1) = [kn] := by rfl) (hdb : (x == ("__debug__" : Str)) = false := by decide)
    (hpl : ((backTo pos (starEach [] X.env)).any (·.1) || (backToKw pos (keywordEach [⟨some kn, e, kpos⟩] X.env)).any (·.1.isNone)) = false := by rfl) :
    PE X (.Call (.Name x p) [] [⟨some kn, e, kpos⟩] pos) (tOxK C sp ta) := by
  refine ⟨fun pins s σ H Q I h => ?_⟩
  obtain ⟨nm, q, N, bs, bm, sn, sub, ab, col, dd, k0, k1, k2, k3, k5, hC, hbm⟩ := T.cls
  refine wpAny_Call_Name_kw (ld_glob I hg hm ?_ hdb)
  refine PySem.W.callWith_KW0 (h₀ := X.base) I.ok.mod.kin T.kC hall ?_ hpl
  refine thn (ha.run pos pins s σ H _ I h) fun us s1 ⟨vs, H1, I1, r1, hz, q1⟩ => ⟨I1.kIn, ?_⟩
  rw [hks]
  have hu1 : us.length = 1 := by rw [← Paired.length r1]; exact hz
  match us, hu1 with
  | [kv], _ =>
  show wpAny _ _ (call (.ref C) [] [(kn, kv)]) _ _ _
  obtain ⟨hp, g, dr, tk, os⟩ := s1
  have hsz : hp.objs.size ≤ hp.objs.size + 1 := Nat.le_succ _
  have hn : H1 (hp.objs.size + 1) = none := I1.hok.fresh hsz
  have hq := q1 (hp.objs.size + 1) hn
  have kk : ∀ b o, hp.get? b = some o → ((hp.push (PySem.W.kdv_tup [])).push (PySem.HandSPX.excO C hp.objs.size)).get? b = some o := fun b o e => Heap.get?_push_of_some _ (Heap.get?_push_of_some _ e)
  have hget : ((hp.push (PySem.W.kdv_tup [])).push (PySem.HandSPX.excO C hp.objs.size)).get? (hp.objs.size + 1) = some (PySem.HandSPX.excO C hp.objs.size) := by heap_get
  have I2 : Inv X pins σ (upd H1 (hp.objs.size + 1) (exo (hp.objs.size + 1) C none)) ⟨(hp.push (PySem.W.kdv_tup [])).push (PySem.HandSPX.excO C hp.objs.size), g, dr, tk, os⟩ :=
    I1.laid (t' := tk) (a := hp.objs.size + 1) (o := exo (hp.objs.size + 1) C none) (h' := (hp.push (PySem.W.kdv_tup [])).push (PySem.HandSPX.excO C hp.objs.size)) kk hsz (exo_ok hget)
  have r2 : Vals (V.ref (hp.objs.size + 1) :: vs) (Value.ref (hp.objs.size + 1) :: [kv]) := .cons rfl r1
  have hbb := hb.to ⟨(hp.push (PySem.W.kdv_tup [])).push (PySem.HandSPX.excO C hp.objs.size), g, dr, tk, os⟩ [Value.ref (hp.objs.size + 1)] [kv] I2.kIn rfl rfl
  refine wpAny_call (PySem.EK.kw_call hbm (I1.kIn _ _ hC) (PySem.W.looks_findIn I1.kIn iC) (fun self => PySem.W.bind_fn I1.kIn self tI)
    (codeAny_mono (F1.run _ X.stack _ _ ⟨[Value.ref (hp.objs.size + 1)], [(kn, kv)]⟩ (Value.ref (hp.objs.size + 1) :: [kv]) _ _ (fun _ _ _ => False) (hr.make C [] [(kn, kv)]) (I2.env0.make C [] [(kn, kv)]) hbb r2 hq) fun r s' hq' => ?_))
  cases r with
  | error er => exact hx pins σ _ _ er s' I2 hq'
  | ok fl =>
    cases fl with
    | ret u =>
      obtain ⟨v, H', I3, rv, ev, q3⟩ := I2.after hq'
      subst ev
      exact ⟨rv, ⟨V.ref (hp.objs.size + 1), H', I3, rfl, q3⟩⟩
    | next => exact False.elim hq'
    | brk => exact False.elim hq'
    | cont => exact False.elim hq'
/-- e.f, e an exception object that stands by itself -/
def tXfo (K : PySem.W.Frag) (f : Str) (te : TE) : TE := fun σ H Q => te σ H fun x H1 => ∃ (a C d : Addr) (fs : List (Str × V)) (v : V), x = .ref a ∧ XfC K C ∧ PySem.W.findIn K (.ref C) f = some none ∧ H1 a = some (exo a C (some d)) ∧ H1 d = some (exd d fs) ∧ fs.lookup f = some v ∧ Q v H1
theorem pe_xfo {te : TE} {f : Str} (he : PE X e te) (hb : attributeBase e f X.env (eval e X.env) = eval e X.env := by rfl) : PE X (.Attribute e f pos) (tXfo X.K f te) := by
  refine ⟨fun pins s σ H Q I h => ?_⟩
  refine attr_of hb (thn (he.run pins s σ H _ I h) fun u s1 hh => ?_)
  obtain ⟨x, H1, I1, rx, a, C, d, fs, v, ex, T, hno, ea, ed, l, q⟩ := hh
  subst ex
  obtain rfl : u = Value.ref a := rx
  obtain ⟨t1, ho⟩ := exo_at I1.hok ea
  obtain ⟨mA, hns, hr⟩ := exd_at I1.hok ed
  obtain ⟨od, hod, hl⟩ := lookIn_ns hns
  obtain ⟨u, hu, ru⟩ := RelO.some_of (v := v) (o := mA f) (by rw [← l]; exact hr f)
  have J : PySem.W.InstAt s1.heap a _ C (some od) := ⟨ho, rfl, rfl, hod⟩
  exact HandSPX.exc_get I1.kIn J T.ga T.gg T.exC (PySem.W.findObj_own T.hdC hno rfl (by rw [hl, hu])) (handed_of ru) ⟨v, H1, I1.tok _, ru, q⟩
/-- at a stands an exception of the class at C -/
def ErrAt (H : Hp) (a C : Addr) : Prop := H a = some (ExO (.ref C) a) ∨ ∃ (d : Addr) (fs : List (Str × V)), H a = some (exo a C (some d)) ∧ H d = some (exd d fs)
def rIsX (K : PySem.W.Frag) : List V → Hp → VK → Prop := fun xs H Q => ∃ (a D : Addr) (c : V) (u : Value) (b : Bool), xs = [.ref a, c] ∧ ClsV c u ∧ ErrAt H a D ∧ ExcC K D ∧ PySem.W.kitOne K (.ref D) u = some b ∧ Q (.bl b) H
theorem call_isX : CallR X (.builtin "isinstance") (rIsX X.K) := by
  intro pins s σ H xs us Q I r h
  obtain ⟨a, D, c, cv, b, rfl, hc, hE, C, e, q⟩ := h
  obtain ⟨u1, u2, rfl, r1, r2⟩ := vals2 r
  cases r1
  have ec := hc.eq r2
  subst ec
  have J : ∃ ox od, PySem.W.InstAt s.heap a ox D od := by
    rcases hE with hE | ⟨d, fs, ha, hd⟩
    · obtain ⟨⟨oe, vs, ho, hz, hdt, _⟩, _, _⟩ := I.hok a _ hE
      obtain ⟨oc, od, oda, osl⟩ := oe
      obtain ⟨h1, h2⟩ := hz
      dsimp only at h1 h2 hdt
      subst h1 h2 hdt
      exact ⟨_, none, ho, rfl, rfl, trivial⟩
    · obtain ⟨t1, ho⟩ := exo_at I.hok ha
      obtain ⟨mA, hns, hr⟩ := exd_at I.hok hd
      obtain ⟨od, hod, hl⟩ := lookIn_ns hns
      exact ⟨_, some od, ho, rfl, rfl, hod⟩
  obtain ⟨ox, od, J⟩ := J
  have hcl : (PySem.W.clsIn X.K D).isSome = true := by
    obtain ⟨cd, hc, _⟩ := PySem.W.any_some C.hd
    rw [hc]; rfl
  exact PySem.W.kia_one (PySem.W.kitx_exc hcl C.hg C.hk C.hs C.ha C.hn C.ht C.hm) I.kIn J e (fun z => nomatch z) fun tk => ⟨.bl b, H, I.tok tk, rfl, q⟩
end
end L2
end

section
set_option maxRecDepth 100000
set_option maxHeartbeats 4000000
namespace L2
open PySem PySem.Spec PyProof.Rows
def keyD : Key → PyData
  | .inl i => .int i
  | .inr x => .str x
mutual
/-- data at any depth, dicts too -/
inductive Dq (b : Prop) (K : PySem.W.Frag) (H : Hp) : V → PyData → Prop
  | non : Dq b K H .non .none
  | bl (c : Bool) : Dq b K H (.bl c) (.bool c)
  | int (i : Int) : Dq b K H (.int i) (.int i)
  | str (x : Str) : Dq b K H (.str x) (.str x)
  | lst {a : Addr} {xs : List V} {ds : List PyData} : H a = some (.lst xs) → (b → a ≠ sysModules) → DqAll b K H xs ds → Dq b K H (.ref a) (.list ds)
  | tup {a : Addr} {xs : List V} {ds : List PyData} : H a = some (.tup xs) → DqAll b K H xs ds → Dq b K H (.ref a) (.tuple ds)
  | dct {a : Addr} {kvs : List (Key × V)} {ds : List (PyData × PyData)} : H a = some (.dK kvs) → DqKv b K H kvs ds → Dq b K H (.ref a) (.dict ds)
inductive DqAll (b : Prop) (K : PySem.W.Frag) (H : Hp) : List V → List PyData → Prop
  | nil : DqAll b K H [] []
  | cons {v : V} {vs : List V} {d : PyData} {ds : List PyData} : Dq b K H v d → DqAll b K H vs ds → DqAll b K H (v :: vs) (d :: ds)
inductive DqKv (b : Prop) (K : PySem.W.Frag) (H : Hp) : List (Key × V) → List (PyData × PyData) → Prop
  | nil : DqKv b K H [] []
  | cons {k : Key} {v : V} {vs : List (Key × V)} {d : PyData} {ds : List (PyData × PyData)} : Dq b K H v d → DqKv b K H vs ds → DqKv b K H ((k, v) :: vs) ((keyD k, d) :: ds)
end
mutual
theorem Dq.same {b : Prop} {K : PySem.W.Frag} {H H' : Hp} (S : Same H H') : ∀ {v : V} {d : PyData}, Dq b K H v d → Dq b K H' v d
  | _, _, .non => .non
  | _, _, .bl c => .bl c
  | _, _, .int i => .int i
  | _, _, .str x => .str x
  | _, _, .lst h n r => .lst (S _ _ h) n (DqAll.same S r)
  | _, _, .tup h r => .tup (S _ _ h) (DqAll.same S r)
  | _, _, .dct h r => .dct (S _ _ h) (DqKv.same S r)
theorem DqAll.same {b : Prop} {K : PySem.W.Frag} {H H' : Hp} (S : Same H H') : ∀ {v : List V} {d : List PyData}, DqAll b K H v d → DqAll b K H' v d
  | _, _, .nil => .nil
  | _, _, .cons h r => .cons (Dq.same S h) (DqAll.same S r)
theorem DqKv.same {b : Prop} {K : PySem.W.Frag} {H H' : Hp} (S : Same H H') : ∀ {v : List (Key × V)} {d : List (PyData × PyData)}, DqKv b K H v d → DqKv b K H' v d
  | _, _, .nil => .nil
  | _, _, .cons h r => .cons (Dq.same S h) (DqKv.same S r)
end
section
variable {X : Cx} {pins : List (Addr × Obj)} {σ : St} {H : Hp} {s : Shared}
mutual
theorem Dq.reads {b : Prop} (I : Inv X pins σ H s) : ∀ {v : V} {d : PyData} (u : Value), Dq b X.K H v d → RelV v u → ∃ as, Reads s.heap u d as ∧ (b → sysModules ∉ as)
  | _, _, _, .non, r => by
    cases r
    exact ⟨_, Reads.none, by simp⟩
  | _, _, _, .bl c, r => by
    cases r
    exact ⟨_, Reads.bool c, by simp⟩
  | _, _, _, .int i, r => by
    obtain ⟨t, rfl⟩ := r
    exact ⟨_, Reads.int i t, by simp⟩
  | _, _, _, .str x, r => by
    obtain ⟨t, rfl⟩ := r
    exact ⟨_, Reads.str x t, by simp⟩
  | _, _, _, .lst hs hna ha, r => by
      cases r
      obtain ⟨its, rv, ⟨o, n, ho, hc, _, hd⟩, _⟩ := I.list (SqL.of hs)
      obtain ⟨as, hr, hn⟩ := DqAll.reads I its ha rv
      refine ⟨_, Reads.list ho hc hd hr, ?_⟩
      intro hb hm
      rcases List.mem_cons.mp hm with e | e
      · exact hna hb e.symm
      · exact hn hb e
  | _, _, _, .tup hs ha, r => by
      cases r
      obtain ⟨its, rv, ⟨o, ho, hc, n, hd⟩, _⟩ := I.tuple (SqT.of hs)
      obtain ⟨as, hr, hn⟩ := DqAll.reads I its ha rv
      exact ⟨_, Reads.tuple ho hc hd hr, hn⟩
  | _, _, _, .dct hs ha, r => by
      cases r
      obtain ⟨_, hm, vs, kv, o, es, ep, ho, hx, hd, hk, hp, _⟩ := dk_of I.hok hs
      obtain ⟨as, bs, h1, h2, n1, n2⟩ := DqKv.reads I vs es.toList ha kv hp
      refine ⟨_, Reads.dict ho hx.1 hd h1 h2, ?_⟩
      intro hb hmem
      rcases List.mem_append.mp hmem with e | e
      · rcases List.mem_cons.mp e with e | e
        · rw [e] at hm
          simp at hm
        · exact n1 hb e
      · exact n2 hb e
theorem DqAll.reads {b : Prop} (I : Inv X pins σ H s) : ∀ {v : List V} {d : List PyData} (us : List Value), DqAll b X.K H v d → Vals v us → ∃ as, ReadsAll s.heap us d as ∧ (b → sysModules ∉ as)
  | _, _, _, .nil, r => by
    cases r
    exact ⟨_, ReadsAll.nil, by simp⟩
  | _, _, _, .cons h1 h2, r => by
      cases r with
      | cons r1 r2 =>
        obtain ⟨as, q1, n1⟩ := Dq.reads I _ h1 r1
        obtain ⟨bs, q2, n2⟩ := DqAll.reads I _ h2 r2
        exact ⟨_, ReadsAll.cons q1 q2, fun hb hm => (List.mem_append.mp hm).elim (n1 hb) (n2 hb)⟩
theorem DqKv.reads {b : Prop} (I : Inv X pins σ H s) : ∀ {v : List (Key × V)} {d : List (PyData × PyData)} (ws : List (Key × Value)) (es : List DictEntry), DqKv b X.K H v d → KV v ws → Pairs (mixKind X.prog X.w) es ws →
    ∃ as bs, ReadsAll s.heap (es.map (·.key)) (d.map (·.1)) as ∧ ReadsAll s.heap (es.map (·.val)) (d.map (·.2)) bs ∧ (b → sysModules ∉ as) ∧ (b → sysModules ∉ bs)
  | _, _, _, _, .nil, kv, hp => by
    cases kv
    cases hp
    exact ⟨_, _, ReadsAll.nil, ReadsAll.nil, by simp, by simp⟩
  | _, _, _, _, .cons (k := k) h1 h2, kv, hp => by
      cases kv with
      | cons r1 r2 =>
        cases hp with
        | @cons e w es ws hk hv hp =>
          obtain ⟨e1, r1⟩ := r1
          obtain ⟨as, q1, n1⟩ := Dq.reads I _ h1 r1
          obtain ⟨cs, bs, q2, q3, n2, n3⟩ := DqKv.reads I _ _ h2 r2 hp
          have hk2 : keyIs k e.key = true := by
            have := hk
            rw [← e1] at this
            exact this
          have rk : Reads s.heap e.key (keyD k) [] := by
            rcases keyIs_shape hk2 with ⟨i, t, rfl, e2⟩ | ⟨x, t, rfl, e2⟩
            · rw [e2]; exact Reads.int i t
            · rw [e2]; exact Reads.str x t
          refine ⟨[] ++ cs, as ++ bs, ReadsAll.cons rk q2, ReadsAll.cons (by show Reads s.heap e.val _ _; rw [hv]; exact q1) q3, by simpa using n2, fun hb hm => (List.mem_append.mp hm).elim (n1 hb) (n3 hb)⟩
end
end
section
variable {X : Cx}
/-- repr(e), e a list -/
def rRepD (K : PySem.W.Frag) : List V → Hp → VK → Prop := fun xs H Q => ∃ (a : Addr) (d : PyData) (b : Prop), xs = [.ref a] ∧ Dq b K H (.ref a) d ∧ (d.hasDict = true → b) ∧ d.showable = true ∧ d.depth ≤ 20 ∧ d.shown.length ≤ sizeLine ∧ Q (.str d.shown) H
theorem call_reprD (hg : X.A.guards = some []) (hu : X.A.units + 64 < cLine) : CallR X (.builtin "repr") (rRepD X.K) := by
  intro pins s σ H xs us Q I r h
  obtain ⟨a, d, b, rfl, hd, hS, hs, hdp, hz, q⟩ := h
  obtain ⟨u, rfl, ru⟩ := vals1 r
  cases ru
  obtain ⟨as, hr, hn⟩ := Dq.reads I _ hd rfl
  exact repr_of_reads' hr hs (fun z => hn (hS z)) hg (by omega) (fun _ _ e => e) (fun h' u tk k => ⟨.str _, H, I.kept (t' := tk) k, ⟨u, rfl⟩, q⟩) hz
/-- a list display, with the place told to be no place of the start -/
def tLstN (t : TA) : TE := fun σ H Q => t σ H fun xs H1 => xs.length ≤ sizeLine ∧ ∀ p, H1 p = none → p ≠ sysModules → Q (.ref p) (upd H1 p (.lst xs))
theorem pe_lstN {es : List Expr} {t : TA} {pos : Pos} (h : PA X es t) : PE X (.List es pos) (tLstN t) := ⟨fun pins s σ H Q I hq =>
  wpAny_List_spliced (thn (h.run pos pins s σ H _ I hq) fun us s1 ⟨xs, H1, I1, r, z, q⟩ => ⟨r.length ▸ z,
    .ref s1.heap.objs.size, _, I1.laid (o := .lst xs) (t' := s1.toks) (fun _ _ e => Heap.get?_push_of_some _ e) (Nat.le_refl _) ⟨z, us, 0, r, Heap.get?_push_size _ rfl⟩, rfl, q _ (I1.hok.fresh (Nat.le_refl _)) (Nat.ne_of_gt I1.big)⟩)⟩
end
end L2
end

section
set_option maxRecDepth 100000
set_option maxHeartbeats 1000000
namespace K0
open PySem L2
def top (i : Nat) : Stmt := PySem.Challenge.pw_unswayed_k00_errors_of_all_parts.main.body.getD i (.Pass ⟨0, 0, 0, 0⟩)
abbrev sBegun : Stmt := top 31
abbrev sMixed : Stmt := top 32
abbrev sTake : Stmt := top 33
abbrev sPick : Stmt := top 34
abbrev sAny : Stmt := top 35
abbrev sKinds : Stmt := top 36
abbrev sPlain : Stmt := top 37
abbrev sOf : Stmt := top 38
abbrev sLaw : Stmt := top 39
/-- the built-in names that the draws use -/
structure TxB (mg : Str → Option Value) : Prop where
  abs : mg "abs" = none
  int : mg "int" = none
  len : mg "len" = none
section
variable {P : Program} {w : World} {K : PySem.W.Frag} {mg : Str → Option Value} {base : Heap}
/-- the state of the draws -/
def dKvs (l c : Addr) (r t : Int) : List (Key × V) := [(Sum.inr "large", .ref l), (Sum.inr "rest", .int r), (Sum.inr "cells", .ref c), (Sum.inr "turn", .int t)]
structure DrawAt (H : Hp) (d l c : Addr) : Prop where
  hd : ∃ r t, H d = some (.dK (dKvs l c r t))
  hl : ∃ ls : List Int, H l = some (.lst (ls.map V.int)) ∧ ls.length ≤ 63
  hc : ∃ cs : List Int, H c = some (.lst (cs.map V.int)) ∧ cs.length ≤ 63
  ne : l ≠ c
def spBegun (K : PySem.W.Frag) : Sp := fun vs H Q _ => ∃ (a : Addr) (ns : List Int), vs = [.ref a] ∧ SqL K H a (ns.map V.int) ∧ ns.length ≤ 63 ∧
  ∀ (d l c : Addr) H', H d = none → H l = none → H c = none → DrawAt H' d l c → Same H H' → Q (.ref d) H'
theorem _root_.L2.Same.put {H H' : Hp} {D : Addr} {o : HO} (S : Same H H') (h : H D = none) : Same H (upd H' D o) := fun b u e => by
  rw [upd_ne (ne_of_none e h)]; exact S b u e
theorem _root_.L2.Same.new {H H' : Hp} {D : Addr} {o : HO} (S : Same H H') (h : H' D = none) : Same H (upd H' D o) := S.put (S.free h)
theorem dk_merge (l c : Addr) (r t : Int) : mergeK [] (dKvs l c r t) = dKvs l c r t := by
  have h1 : ¬ ("large" : Str) = "rest" := by decide +kernel
  have h2 : ¬ ("large" : Str) = "cells" := by decide +kernel
  have h3 : ¬ ("large" : Str) = "turn" := by decide +kernel
  have h4 : ¬ ("rest" : Str) = "cells" := by decide +kernel
  have h5 : ¬ ("rest" : Str) = "turn" := by decide +kernel
  have h6 : ¬ ("cells" : Str) = "turn" := by decide +kernel
  simp [mergeK, putK, dKvs, h1, h2, h3, h4, h5, h6]
theorem dk_rest (l c : Addr) (r t x : Int) : putK (dKvs l c r t) (Sum.inr "rest" : Key) (V.int x) = dKvs l c x t := by
  have h1 : ¬ ("large" : Str) = "rest" := by decide +kernel
  have h4 : ¬ ("cells" : Str) = "rest" := by decide +kernel
  have h5 : ¬ ("turn" : Str) = "rest" := by decide +kernel
  simp [putK, dKvs, h1, h4, h5]
theorem dk_turn (l c : Addr) (r t x : Int) : putK (dKvs l c r t) (Sum.inr "turn" : Key) (V.int x) = dKvs l c r x := by
  have h1 : ¬ ("large" : Str) = "turn" := by decide +kernel
  have h4 : ¬ ("cells" : Str) = "turn" := by decide +kernel
  have h5 : ¬ ("rest" : Str) = "turn" := by decide +kernel
  simp [putK, dKvs, h1, h4, h5]
theorem dv_large (l c : Addr) (r t : Int) : valV (dKvs l c r t) (Sum.inr "large" : Key) = some (.ref l) := by
  simp [valV, dKvs]
theorem dv_rest (l c : Addr) (r t : Int) : valV (dKvs l c r t) (Sum.inr "rest" : Key) = some (.int r) := by
  have h1 : ¬ ("large" : Str) = "rest" := by decide +kernel
  simp [valV, dKvs, h1]
theorem dv_cells (l c : Addr) (r t : Int) : valV (dKvs l c r t) (Sum.inr "cells" : Key) = some (.ref c) := by
  have h1 : ¬ ("large" : Str) = "cells" := by decide +kernel
  have h4 : ¬ ("rest" : Str) = "cells" := by decide +kernel
  simp [valV, dKvs, h1, h4]
theorem dv_turn (l c : Addr) (r t : Int) : valV (dKvs l c r t) (Sum.inr "turn" : Key) = some (.int t) := by
  have h1 : ¬ ("large" : Str) = "turn" := by decide +kernel
  have h4 : ¬ ("cells" : Str) = "turn" := by decide +kernel
  have h5 : ¬ ("rest" : Str) = "turn" := by decide +kernel
  simp [valV, dKvs, h1, h4, h5]
theorem dg_large {H : Hp} {d l c : Addr} {r t : Int} (e : H d = some (.dK (dKvs l c r t))) : DGet H d (.str "large") (some (.ref l)) := by
  rw [← dv_large l c r t]; exact DGet.k (k := Sum.inr "large") e
theorem dg_rest {H : Hp} {d l c : Addr} {r t : Int} (e : H d = some (.dK (dKvs l c r t))) : DGet H d (.str "rest") (some (.int r)) := by
  rw [← dv_rest l c r t]; exact DGet.k (k := Sum.inr "rest") e
theorem dg_cells {H : Hp} {d l c : Addr} {r t : Int} (e : H d = some (.dK (dKvs l c r t))) : DGet H d (.str "cells") (some (.ref c)) := by
  rw [← dv_cells l c r t]; exact DGet.k (k := Sum.inr "cells") e
theorem dg_turn {H : Hp} {d l c : Addr} {r t : Int} (e : H d = some (.dK (dKvs l c r t))) : DGet H d (.str "turn") (some (.int t)) := by
  rw [← dv_turn l c r t]; exact DGet.k (k := Sum.inr "turn") e
theorem dp_turn {H : Hp} {d l c : Addr} {r t x : Int} (e : H d = some (.dK (dKvs l c r t))) : DPut H d (.str "turn") (.int x) (upd H d (.dK (dKvs l c r x))) := by
  rw [← dk_turn l c r t x]; exact DPut.k (k := Sum.inr "turn") e (by show 4 < sizeLine; decide)
theorem dp_rest {H : Hp} {d l c : Addr} {r t x : Int} (e : H d = some (.dK (dKvs l c r t))) : DPut H d (.str "rest") (.int x) (upd H d (.dK (dKvs l c x t))) := by
  rw [← dk_rest l c r t x]; exact DPut.k (k := Sum.inr "rest") e (by show 4 < sizeLine; decide)
theorem dp_ints {K : PySem.W.Frag} {H : Hp} : ∀ ns : List Int, DpAll K H (ns.map V.int) (ns.map PyData.int)
  | [] => .nil
  | n :: ns => .cons (.int n) (dp_ints ns)
theorem canLay_ints : ∀ ns : List Int, PyData.canLayAll0 (ns.map PyData.int) = true
  | [] => by simp [PyData.canLayAll0]
  | n :: ns => by simp [PyData.canLayAll0, PyData.canLay0, canLay_ints ns]
theorem depth_ints : ∀ ns : List Int, PyData.depthAll (ns.map PyData.int) = 0
  | [] => by simp [PyData.depthAll]
  | n :: ns => by simp [PyData.depthAll, PyData.depth, depth_ints ns]
theorem shaped_ints (ns : List Int) : SeqAt.shaped (.list (ns.map PyData.int)) = true := by
  simp [SeqAt.shaped, PyData.canLay0, PyData.depth, canLay_ints, depth_ints]
theorem seq0 {n : Nat} (h : 0 < n) : seqIndex? 0 n = some 0 := by
  have h' : (0 : Int) < n := by omega
  simp [seqIndex?, h']
  omega
/-- all but what stands at d is as it was -/
def SameX (d : Addr) (H H' : Hp) : Prop := ∀ b o, H b = some o → b ≠ d → H' b = some o
theorem int_at {ns : List Int} {i : Nat} {x : V} (hi : (ns.map V.int)[i]? = some x) : ∃ z, x = V.int z ∧ i < ns.length := by
  rw [List.getElem?_map] at hi
  cases e : ns[i]? with
  | none => rw [e] at hi; cases hi
  | some z => rw [e] at hi; exact ⟨z, (Option.some.inj hi).symm, (List.getElem?_eq_some_iff.mp e).1⟩
theorem scB : FnScope ["script", "large", "grain"] ["script"] (defScope sBegun) := ⟨rfl, rfl, rfl, by decide +kernel, rfl, by decide +kernel, by decide +kernel⟩
theorem ok_begun {f : Addr} {fd : FuncData} (F : Fun K "_law_begun" "_law_begun" sBegun f fd) (T : TxB mg) : FnOk P w K mg base CX0 1 f fd ["script"] (spBegun K) := by
  refine F.ok scB (fun vs H Q E h => ?_) (fun cdv A outer s H vs Q E hr h => ?_)
  · obtain ⟨a, ns, rfl, _⟩ := h
    rfl
  · obtain ⟨a, ns, rfl, hS, hn, k⟩ := h
    refine ⟨_, pss_cons (ps_setLc (i := 1) (own := [("grain", 2)]) (g := gName 2) rfl scB.nd rfl rfl (sw_true rfl rfl rfl (by decide +kernel)) (pi_list (pv 0)) (blkOk_by (own := [("grain", 2)]) (N := ["script", "large", "grain"]) (sc := defScope sBegun) (by decide +kernel))
        (fun _ _ _ _ _ => pg_name (i := 2) scB.nd rfl (Or.inl rfl))
        (fun _ _ _ _ _ => pts_one (pt_cmpR op_ge (pe_callB call_abs (by rfl) T.abs (by decide +kernel) (pa_cons (pv 2) pa_nil)) (pe_op op_pow pe_int pe_int) (nomark _)))
        (fun _ _ _ _ _ => pe_op op_sub (pe_callB call_abs (by rfl) T.abs (by decide +kernel) (pa_cons (pv 2) pa_nil)) (pe_op op_pow pe_int pe_int)))
      (pss_one (ps_ret (pe_disp (pps_cons pe_str (pv 1) (pps_cons pe_str pe_int (pps_cons pe_str (pe_lc (own := [("grain", 2)]) (g := gName 2) (tt := tYes) rfl scB.nd (pi_list (pv 0)) (blkOk_by (own := [("grain", 2)]) (N := ["script", "large", "grain"]) (sc := defScope sBegun) (by decide +kernel))
          (fun _ _ _ _ _ => pg_name (i := 2) scB.nd rfl (Or.inl rfl)) (fun _ _ _ _ _ => pts_nil) (fun _ _ _ _ _ => pe_callB call_abs (by rfl) T.abs (by decide +kernel) (pa_cons (pv 2) pa_nil)))
          (pps_cons pe_str pe_int pps_nil)))) (by rfl) (by rfl) (fun z => by cases z) (by decide)))), ?_⟩
    refine ⟨_, rfl, a, rfl, ⟨_, hS⟩, fun D hD => lc_list (K := K) (a := a) (xs := ns.map V.int) (fun i H' => Same H H' ∧ ∃ ls : List Int, H' D = some (.lst (ls.map V.int)) ∧ ls.length ≤ i) ?_ ?_ ?_ ?_⟩
    · exact ⟨fun b o e => by rw [upd_ne (ne_of_none e hD)]; exact e, [], upd_same, Nat.zero_le _⟩
    · exact fun i H' _ h => h.1.seq hS
    · rintro i x H' hi ⟨S, ls, hL, hle⟩
      obtain ⟨z, rfl, hlt⟩ := int_at hi
      refine ⟨rfl, _, rfl, _, rfl, _, _, rfl, rfl, ⟨by decide, by decide, by decide⟩, _, _, rfl, rfl, _, rfl, ?_⟩
      refine ite2 (fun _ => ?_) (fun _ => ?_)
      · refine ⟨_, rfl, _, rfl, _, _, rfl, rfl, ⟨by decide, by decide, by decide⟩, _, _, rfl, rfl, ?_⟩
        refine ⟨_, hL, ?_, S.put hD, ls ++ [_], by rw [upd_same, List.map_append]; rfl, ?_⟩
        · rw [List.length_map]; exact small1000 (by omega)
        · rw [List.length_append]; simp; omega
      · exact ⟨S, ls, hL, Nat.le_succ_of_le hle⟩
    · rintro H1 ⟨S, ls, hL, hle⟩
      intro d hd
      refine ⟨_, rfl, ?_⟩
      have hDd : D ≠ d := ne_of_none hL hd
      refine ⟨_, rfl, a, rfl, ⟨_, (S.new hd).seq hS⟩, fun c hc => lc_list (K := K) (a := a) (xs := ns.map V.int) (fun i H' => Same (upd H1 d (.dK [])) H' ∧ ∃ cs : List Int, H' c = some (.lst (cs.map V.int)) ∧ cs.length ≤ i) ?_ ?_ ?_ ?_⟩
      · exact ⟨(Same.refl _).put hc, [], upd_same, Nat.zero_le _⟩
      · exact fun i H' _ h => h.1.seq ((S.new hd).seq hS)
      · rintro i x H' hi ⟨S2, cs, hC, hle2⟩
        obtain ⟨z, rfl, hlt⟩ := int_at hi
        refine ⟨rfl, _, rfl, _, rfl, _, hC, ?_, S2.put hc, cs ++ [_], by rw [upd_same, List.map_append]; rfl, ?_⟩
        · rw [List.length_map]; exact small1000 (by omega)
        · rw [List.length_append]; simp; omega
      · rintro H2 ⟨S2, cs, hC, hle2⟩
        rw [List.length_map] at hle hle2
        have hcd : c ≠ d := fun e => by rw [e, upd_same] at hc; cases hc
        have hcD : D ≠ c := fun e => by rw [← e, upd_ne hDd, hL] at hc; cases hc
        refine ⟨S2 _ _ upd_same, dKvs D c 0 0, rfl, (by show 4 ≤ 15; decide), ?_⟩
        refine k d D c _ (S.free hd) hD ?_ ⟨⟨0, 0, by rw [upd_same, dk_merge]⟩, ⟨ls, by rw [upd_ne hDd]; exact S2 _ _ (by rw [upd_ne hDd]; exact hL), by omega⟩, ⟨cs, by rw [upd_ne hcd]; exact hC, by omega⟩, hcD⟩ fun b o e => ?_
        · refine S.free ?_
          rw [upd_ne hcd] at hc
          exact hc
        · have := S _ _ e
          have nd : b ≠ d := ne_of_none this hd
          rw [upd_ne nd]
          exact S2 _ _ (by rw [upd_ne nd]; exact this)
/-- another draw: any number -/
def spMixed : Sp := fun vs H Q _ => ∃ (d l c : Addr), vs = [.ref d] ∧ DrawAt H d l c ∧ ∀ (v : Int) H', DrawAt H' d l c → (∀ b o, H b = some o → b ≠ d → H' b = some o) → Q (.int v) H'
theorem scM : FnScope ["draw", "turn", "found", "great", "blend", "grain"] ["draw"] (defScope sMixed) := ⟨rfl, rfl, rfl, by decide +kernel, rfl, by decide +kernel, by decide +kernel⟩
theorem ok_mixed {f : Addr} {fd : FuncData} (F : Fun K "_law_mixed" "_law_mixed" sMixed f fd) (T : TxB mg) : FnOk P w K mg base CX0 1 f fd ["draw"] spMixed := by
  refine F.ok scM (fun vs H Q E h => ?_) (fun cdv A outer s H vs Q E hr h => ?_)
  · obtain ⟨d, l, c, rfl, _⟩ := h
    rfl
  · obtain ⟨d, l, c, rfl, D, k⟩ := h
    have hu := hu_of hr
    refine ⟨_, pss_cons (ps_dput hu (pv 0) pe_str (pe_op op_add (pe_dget hu (pv 0) pe_str (fun _ _ => rfl)) pe_int) rfl)
      (pss_cons (ps_par (i := 1) (j := 2) (by rfl) scM.nd rfl rfl (by decide) rfl rfl (pa_cons (pe_callTy call_int1 (by rfl) T.int (by decide +kernel) (pa_cons (pe_dget hu (pv 0) pe_str (fun _ _ => rfl)) pa_nil)) (pa_cons pe_int pa_nil)) (by rfl))
      (pss_cons (ps_for PassesOwn.never rfl (pi_list (pe_lst (pa_cons pe_int (pa_cons pe_int (pa_cons pe_int pa_nil))))) (pg_name (i := 3) scM.nd rfl (Or.inl rfl))
        (pss_cons (ps_set (i := 4) scM.nd rfl (Or.inl rfl) (pe_op op_mod (pe_op op_add (pe_op op_mul (pv 1) pe_int) (pe_op op_fdiv (pv 3) pe_int)) (pv 3)))
        (pss_cons (ps_for PassesOwn.never rfl (pi_list (pe_dget hu (pv 0) pe_str (fun _ _ => rfl))) (pg_name (i := 5) scM.nd rfl (Or.inl rfl))
          (pss_one (ps_set (i := 4) scM.nd rfl (Or.inl rfl) (pe_op op_mod (pe_op op_add (pe_op op_mul (pv 4) pe_int) (pe_callTy call_int1 (by rfl) T.int (by decide +kernel) (pa_cons (pv 5) pa_nil))) (pv 3)))))
        (pss_one (ps_set (i := 2) scM.nd rfl (Or.inl rfl) (pe_op op_add (pe_op op_mul (pv 2) pe_int) (pe_op op_mod (pe_op op_pow (pv 4) pe_int) (pv 3))))))))
      (pss_one (ps_ret (pv 2))))), ?_⟩
    obtain ⟨r, t, hd⟩ := D.hd
    obtain ⟨cs, hc, hcl⟩ := D.hc
    obtain ⟨ls, hl, hll⟩ := D.hl
    have hdl : l ≠ d := ne_of hl hd (by intro z; cases z)
    have hdc : c ≠ d := ne_of hc hd (by intro z; cases z)
    refine ⟨_, rfl, d, _, rfl, dg_turn hd, _, _, rfl, rfl, _, rfl, d, _, rfl, dp_turn hd, ?_⟩
    have hd1 : (upd H d (.dK (dKvs l c r (t + 1)))) d = some (.dK (dKvs l c r (t + 1))) := upd_same
    have hS1 : SameX d H (upd H d (.dK (dKvs l c r (t + 1)))) := fun b o e n => by rw [upd_ne n]; exact e
    generalize upd H d (.dK (dKvs l c r (t + 1))) = H1 at hd1 hS1 ⊢
    refine ⟨_, rfl, d, _, rfl, dg_turn hd1, .inl ⟨_, rfl, _, _, rfl, ?_⟩⟩
    refine ⟨by decide, fun p hp => ⟨p, rfl, ⟨_, SqL.of upd_same⟩, for_list (K := K) (a := p) (xs := [V.int 2147483629, V.int 2147483587, V.int 2147483579]) (fun i σ H' => ∃ (f : Int) (g b gr : Option V), σ = [some (.ref d), some (.int (t + 1)), some (.int f), g, b, gr] ∧ Same (upd H1 p (.lst [V.int 2147483629, V.int 2147483587, V.int 2147483579])) H') ?_ ?_ ?_ ?_⟩⟩
    · exact ⟨0, none, none, none, rfl, Same.refl _⟩
    · rintro i σ H' _ ⟨_, _, _, _, _, S⟩
      exact SqL.of (S _ _ upd_same)
    · rintro i x σ H' hi ⟨f, g, b, gr, rfl, S⟩
      obtain ⟨m, rfl, m0, m1⟩ : ∃ m : Int, x = V.int m ∧ 0 < m ∧ m < 2147483648 := by
        match i, hi with
        | 0, hi => cases hi; exact ⟨_, rfl, by decide, by decide⟩
        | 1, hi => cases hi; exact ⟨_, rfl, by decide, by decide⟩
        | 2, hi => cases hi; exact ⟨_, rfl, by decide, by decide⟩
        | n + 3, hi => simp at hi
      have hd2 : H' d = some (.dK (dKvs l c r (t + 1))) := S _ _ (by rw [upd_ne (ne_of_none hd1 hp)]; exact hd1)
      have hc1 : H1 c = some (.lst (cs.map V.int)) := hS1 _ _ hc hdc
      have hc2 : H' c = some (.lst (cs.map V.int)) := S _ _ (by rw [upd_ne (ne_of_none hc1 hp)]; exact hc1)
      refine ⟨_, rfl, _, _, rfl, rfl, .inr ⟨by decide, by decide⟩, _, rfl, _, _, rfl, rfl, ⟨by decide, by decide⟩, _, _, rfl, rfl, _, rfl, _, _, rfl, rfl, m0, ?_⟩
      have b0 := Int.emod_nonneg ((t + 1) * 69621 + m / 7) (Int.ne_of_gt m0)
      have b1 := Int.emod_lt_of_pos ((t + 1) * 69621 + m / 7) m0
      refine ⟨_, rfl, d, _, rfl, dg_cells hd2, c, rfl, ⟨_, SqL.of hc2⟩, for_list (K := K) (a := c) (xs := cs.map V.int) (fun i σ H'' => H'' = H' ∧ ∃ (b : Int) (gr : Option V), σ = [some (.ref d), some (.int (t + 1)), some (.int f), some (.int m), some (.int b), gr] ∧ 0 ≤ b ∧ b < m) ?_ ?_ ?_ ?_⟩
      · exact ⟨rfl, _, gr, rfl, b0, b1⟩
      · rintro i σ H'' _ ⟨rfl, _⟩
        exact SqL.of hc2
      · rintro i x σ H'' hi ⟨rfl, b, gr, rfl, b0, b1⟩
        obtain ⟨z, rfl, _⟩ := int_at hi
        refine ⟨_, rfl, _, _, rfl, rfl, .inr ⟨by decide, by decide⟩, _, rfl, .inl ⟨_, rfl, _, _, rfl, rfl, _, rfl, _, _, rfl, rfl, m0, ?_⟩⟩
        exact ⟨rfl, _, _, rfl, Int.emod_nonneg _ (Int.ne_of_gt m0), Int.emod_lt_of_pos _ m0⟩
      · rintro σ H'' ⟨rfl, b, gr, rfl, b0, b1⟩
        refine ⟨_, rfl, _, _, rfl, rfl, .inr ⟨by decide, by decide⟩, _, rfl, _, _, rfl, rfl, ⟨by decide, by decide, by omega⟩, _, rfl, _, _, rfl, rfl, m0, _, _, rfl, rfl, ?_⟩
        exact ⟨_, _, _, _, rfl, S⟩
    · rintro σ H' ⟨f, g, b, gr, rfl, S⟩
      refine ⟨_, rfl, ?_⟩
      have up : ∀ b o, H1 b = some o → H' b = some o := fun b o e => S _ _ (by rw [upd_ne (ne_of_none e hp)]; exact e)
      exact k f H' ⟨⟨r, t + 1, up _ _ hd1⟩, ⟨ls, up _ _ (hS1 _ _ hl hdl), hll⟩, ⟨cs, up _ _ (hS1 _ _ hc hdc), hcl⟩, D.ne⟩ fun b o e n => up _ _ (hS1 _ _ e n)
/-- a draw below amount -/
def spTake : Sp := fun vs H Q _ => ∃ (d l c : Addr) (n : Int), vs = [.ref d, .int n] ∧ 0 < n ∧ n < 1073741824 ∧ DrawAt H d l c ∧ ∀ (v : Int) H', 0 ≤ v → v < n → DrawAt H' d l c → (∀ b o, H b = some o → b ≠ d → b ≠ l → H' b = some o) → Q (.int v) H'
theorem scT : FnScope ["draw", "amount", "found"] ["draw", "amount"] (defScope sTake) := ⟨rfl, rfl, rfl, by decide +kernel, rfl, by decide +kernel, by decide +kernel⟩
theorem ok_take {f fM : Addr} {fd fdM : FuncData} (F : Fun K "_law_take" "_law_take" sTake f fd) (T : TxB mg) (FM : Fun K "_law_mixed" "_law_mixed" sMixed fM fdM) (bM : Binds K fdM ["draw"] []) (gM : mg "_law_mixed" = some (.ref fM)) :
    FnOk P w K mg base CX0 2 f fd ["draw", "amount"] spTake := by
  have GM : FnOk P w K mg base CX0 1 fM fdM ["draw"] spMixed := ok_mixed FM T
  refine F.ok scT (fun vs H Q E h => ?_) (fun cdv A outer s H vs Q E hr h => ?_)
  · obtain ⟨d, l, c, n, rfl, _⟩ := h
    rfl
  · obtain ⟨d, l, c, n, rfl, n0, n1, D, k⟩ := h
    have hu := hu_of hr
    refine ⟨_, Evl.pss_cut (ps_if (pt_cmpR op_eq (pe_dget hu (pv 0) pe_str (fun _ _ => rfl)) pe_int (nomark _))
        (pss_one (ps_dput hu (pv 0) pe_str (pe_ifExp (pt_cmpR (op_neD hr.units) (pe_dget hu (pv 0) pe_str (fun _ _ => rfl)) (pe_lst pa_nil) (nomark _))
            (pe_bm PySem.F.plainAttrs_list PySem.F.slot_list_pop PySem.F.type_list_pop mt_popAt (pe_dget hu (pv 0) pe_str (fun _ _ => rfl)) (pa_cons pe_int pa_nil))
            (pe_call GM hr rfl gM FM.kp bM .nil pass0 (pa_cons (pv 0) pa_nil))) rfl)) pss_nil)
      (pss_cons (ps_set (i := 2) scT.nd rfl (Or.inl rfl) (pe_op op_mod (pe_callTy call_int1 (by rfl) T.int (by decide +kernel) (pa_cons (pe_dget hu (pv 0) pe_str (fun _ _ => rfl)) pa_nil)) (pv 1)))
      (pss_cons (ps_dput hu (pv 0) pe_str (pe_op op_fdiv (pe_callTy call_int1 (by rfl) T.int (by decide +kernel) (pa_cons (pe_dget hu (pv 0) pe_str (fun _ _ => rfl)) pa_nil)) (pv 1)) rfl)
      (pss_one (ps_ret (pv 2))))), ?_⟩
    obtain ⟨r, t, hd⟩ := D.hd
    obtain ⟨ls, hl, hll⟩ := D.hl
    obtain ⟨cs, hc, hcl⟩ := D.hc
    have hdl : l ≠ d := ne_of hl hd (by intro z; cases z)
    have hdc : c ≠ d := ne_of hc hd (by intro z; cases z)
    refine ⟨fun σ H2 => σ = [some (.ref d), some (.int n), none] ∧ DrawAt H2 d l c ∧ ∀ b o, H b = some o → b ≠ d → b ≠ l → H2 b = some o, ?_, ?_⟩
    · refine ⟨_, rfl, d, _, rfl, dg_rest hd, rfl, _, rfl, ite2 (fun _ => ?_) (fun _ => ?_)⟩
      · cases ls with
        | nil =>
          refine ⟨_, rfl, d, _, rfl, dg_large hd, Nat.zero_le _, fun p hp => ⟨.list [], .list [], .lst (SqL.of (by rw [upd_ne (ne_of_none hl hp)]; exact hl)) .nil, .lst (SqL.of upd_same) .nil, rfl, rfl, _, rfl, ?_⟩⟩
          refine iteF ?_
          have hdp : (upd H p (.lst [])) d = some (.dK (dKvs l c r t)) := by rw [upd_ne (ne_of_none hd hp)]; exact hd
          refine ⟨_, rfl, d, l, c, rfl, ⟨⟨r, t, hdp⟩, ⟨[], by rw [upd_ne (ne_of_none hl hp)]; exact hl, hll⟩, ⟨cs, by rw [upd_ne (ne_of_none hc hp)]; exact hc, hcl⟩, D.ne⟩, fun v H' D' S' => ?_⟩
          obtain ⟨r', t', hd'⟩ := D'.hd
          obtain ⟨ls', hl', hll'⟩ := D'.hl
          obtain ⟨cs', hc', hcl'⟩ := D'.hc
          refine ⟨_, rfl, d, _, rfl, dp_rest hd', ?_⟩
          refine ⟨rfl, ⟨⟨_, _, upd_same⟩, ⟨ls', by rw [upd_ne hdl]; exact hl', hll'⟩, ⟨cs', by rw [upd_ne hdc]; exact hc', hcl'⟩, D.ne⟩, fun b o e n1 n2 => ?_⟩
          rw [upd_ne n1]
          exact S' _ _ (by rw [upd_ne (ne_of_none e hp)]; exact e) n1
        | cons z zs =>
          refine ⟨_, rfl, d, _, rfl, dg_large hd, Nat.zero_le _, fun p hp => ⟨.list ((z :: zs).map PyData.int), .list [], .lst (SqL.of (by rw [upd_ne (ne_of_none hl hp)]; exact hl)) (dp_ints _), .lst (SqL.of upd_same) .nil, shaped_ints _, rfl, _, rfl, ?_⟩⟩
          refine iteT ?_
          have hdp : (upd H p (.lst [])) d = some (.dK (dKvs l c r t)) := by rw [upd_ne (ne_of_none hd hp)]; exact hd
          have hlp : (upd H p (.lst [])) l = some (.lst ((z :: zs).map V.int)) := by rw [upd_ne (ne_of_none hl hp)]; exact hl
          refine ⟨_, rfl, d, _, rfl, dg_large hdp, .inl ⟨rfl, _, SqL.of hlp⟩, l, _, 0, 0, V.int z, rfl, rfl, hlp, by decide, by decide, seq0 (by simp), rfl, ?_⟩
          have hdq : ∀ o, (upd (upd H p (.lst [])) l o) d = some (.dK (dKvs l c r t)) := fun o => by rw [upd_ne hdl.symm]; exact hdp
          refine ⟨_, rfl, d, _, rfl, dp_rest (hdq _), ?_⟩
          refine ⟨rfl, ⟨⟨_, _, upd_same⟩, ⟨zs, by rw [upd_ne hdl, upd_same]; rfl, by simp at hll; omega⟩, ⟨cs, by rw [upd_ne hdc, upd_ne D.ne.symm, upd_ne (ne_of_none hc hp)]; exact hc, hcl⟩, D.ne⟩, fun b o e n1 n2 => ?_⟩
          rw [upd_ne n1, upd_ne n2, upd_ne (ne_of_none e hp)]
          exact e
      · exact ⟨rfl, D, fun _ _ e _ _ => e⟩
    · rintro σ H2 ⟨rfl, D2, S2⟩
      obtain ⟨r2, t2, hd2⟩ := D2.hd
      obtain ⟨ls2, hl2, hll2⟩ := D2.hl
      obtain ⟨cs2, hc2, hcl2⟩ := D2.hc
      refine ⟨_, rfl, d, _, rfl, dg_rest hd2, .inl ⟨_, rfl, _, rfl, _, _, rfl, rfl, n0, ?_⟩⟩
      refine ⟨_, rfl, d, _, rfl, dg_rest hd2, .inl ⟨_, rfl, _, rfl, _, _, rfl, rfl, ⟨n0, n1⟩, _, rfl, d, _, rfl, dp_rest hd2, _, rfl, ?_⟩⟩
      refine k _ _ (Int.emod_nonneg _ (Int.ne_of_gt n0)) (Int.emod_lt_of_pos _ n0) ⟨⟨_, _, upd_same⟩, ⟨ls2, by rw [upd_ne hdl]; exact hl2, hll2⟩, ⟨cs2, by rw [upd_ne hdc]; exact hc2, hcl2⟩, D.ne⟩ fun b o e m1 m2 => ?_
      rw [upd_ne m1]
      exact S2 _ _ e m1 m2
/-- one of some things -/
def spPick (K : PySem.W.Frag) : Sp := fun vs H Q _ => ∃ (d l c p : Addr) (xs : List V), vs = [.ref d, .ref p] ∧ H p = some (.lst xs) ∧ p ≠ l ∧ 0 < xs.length ∧ xs.length < 1000 ∧ DrawAt H d l c ∧
  ∀ (v : V) H', v ∈ xs → DrawAt H' d l c → (∀ b o, H b = some o → b ≠ d → b ≠ l → H' b = some o) → Q v H'
theorem scP : FnScope ["draw", "some"] ["draw", "some"] (defScope sPick) := ⟨rfl, rfl, rfl, by decide +kernel, rfl, by decide +kernel, by decide +kernel⟩
theorem ok_pick {f fT : Addr} {fd fdT : FuncData} (F : Fun K "_law_pick" "_law_pick" sPick f fd) (T : TxB mg) (GT : FnOk P w K mg base CX0 2 fT fdT ["draw", "amount"] spTake) (kT : PySem.W.keepIn K (.ref fT) = true) (bT : Binds K fdT ["draw", "amount"] []) (gT : mg "_law_take" = some (.ref fT)) :
    FnOk P w K mg base CX0 3 f fd ["draw", "some"] (spPick K) := by
  refine F.ok scP (fun vs H Q E h => ?_) (fun cdv A outer s H vs Q E hr h => ?_)
  · obtain ⟨d, l, c, p, xs, rfl, _⟩ := h
    rfl
  · obtain ⟨d, l, c, p, xs, rfl, hp, hpl, h0, h1, D, k⟩ := h
    have hu := hu_of hr
    refine ⟨_, pss_one (ps_ret (pe_ix ix_list (pv 1) (pe_call GT hr rfl gT kT bT .nil pass0 (pa_cons (pv 0) (pa_cons (pe_callB call_len_seq (by rfl) T.len PySem.boot_len (pa_cons (pv 1) pa_nil)) pa_nil))) (fun _ _ => rfl))), ?_⟩
    obtain ⟨r, t, hd⟩ := D.hd
    have npd : p ≠ d := ne_of hp hd (by intro z; cases z)
    refine ⟨_, rfl, _, rfl, _, rfl, p, _, rfl, .inl (SqL.of hp), d, l, c, _, rfl, by omega, by omega, D, fun v H' v0 v1 D' S' => ?_⟩
    have hp' := S' _ _ hp npd hpl
    obtain ⟨j, hj⟩ : ∃ j : Nat, v = j := ⟨v.toNat, by omega⟩
    subst hj
    have hjl : j < xs.length := by omega
    refine ⟨p, xs, _, xs[j], rfl, rfl, SqL.of hp', atI_nat (by simp [hjl]), k _ _ (List.getElem_mem _) D' S'⟩
end
end K0
end

section
set_option maxRecDepth 100000
set_option maxHeartbeats 1000000
namespace K0
open PySem L2
section
variable {P : Program} {w : World} {K : PySem.W.Frag} {mg : Str → Option Value} {base : Heap}
theorem DrawAt.same {H H' : Hp} {d l c : Addr} (D : DrawAt H d l c) (S : Same H H') : DrawAt H' d l c := by
  obtain ⟨⟨r, t, hd⟩, ⟨ls, hl, hll⟩, ⟨cs, hc, hcl⟩, ne⟩ := D
  exact ⟨⟨r, t, S _ _ hd⟩, ⟨ls, S _ _ hl, hll⟩, ⟨cs, S _ _ hc, hcl⟩, ne⟩
theorem new_at {H : Hp} {p : Addr} (o : HO) (h : H p = none) : ∃ H', upd H p o = H' ∧ H' p = some o ∧ Same H H' := ⟨_, rfl, upd_same, (Same.refl _).put h⟩
def menu : List PyData := [.none, .bool false, .int (-5), .int (10 ^ 45), .str "", .str "wide", .str "two words", .list [], .list [.tuple [.int 0, .int 2]], .tuple [], .tuple [.int 4], .dict [], .dict [(.str "a", .tuple [.int 1])], .list [.list [.none]]]
def spAny (K : PySem.W.Frag) : Sp := fun vs H Q _ => ∃ (d l c : Addr), vs = [.ref d] ∧ DrawAt H d l c ∧
  ∀ (v : V) (e : PyData) H', e ∈ menu → Dq (e.hasDict = true) K H' v e → (∀ b o, H b = some o → b ≠ d → b ≠ l → H' b = some o) → Q v H'
theorem scA : FnScope ["draw", "some"] ["draw"] (defScope sAny) := ⟨rfl, rfl, rfl, by decide +kernel, rfl, by decide +kernel, by decide +kernel⟩
/-- the heap without d and l -/
def mask (H : Hp) (d l : Addr) : Hp := fun b => if b = d ∨ b = l then none else H b
theorem mask_at {H : Hp} {d l p : Addr} {o : HO} (h : H p = some o) (n1 : p ≠ d) (n2 : p ≠ l) : mask H d l p = some o := by
  unfold mask
  rw [if_neg (by rintro (h | h) <;> contradiction)]
  exact h
theorem ok_any {f fP : Addr} {fd fdP : FuncData} (F : Fun K "_law_any" "_law_any" sAny f fd) (GP : FnOk P w K mg base CX0 3 fP fdP ["draw", "some"] (spPick K)) (kP : PySem.W.keepIn K (.ref fP) = true) (bP : Binds K fdP ["draw", "some"] []) (gP : mg "_law_pick" = some (.ref fP)) :
    FnOk P w K mg base CX0 4 f fd ["draw"] (spAny K) := by
  refine F.ok scA (fun vs H Q E h => ?_) (fun cdv A outer s H vs Q E hr h => ?_)
  · obtain ⟨d, l, c, rfl, _⟩ := h
    rfl
  · obtain ⟨d, l, c, rfl, D, k⟩ := h
    have hu := hu_of hr
    refine ⟨_, pss_cons (ps_set (i := 1) scA.nd rfl (Or.inl rfl) (pe_lst (pa_cons pe_non (pa_cons pe_bl (pa_cons (pe_un un_neg pe_int) (pa_cons (pe_op op_pow pe_int pe_int) (pa_cons pe_str (pa_cons pe_str (pa_cons pe_str (pa_cons (pe_lst pa_nil)
        (pa_cons (pe_lst (pa_cons (pe_tup (pa_cons pe_int (pa_cons pe_int pa_nil))) pa_nil)) (pa_cons (pe_tup pa_nil) (pa_cons (pe_tup (pa_cons pe_int pa_nil)) (pa_cons pe_dnewK
        (pa_cons (pe_disp (pps_cons pe_str (pe_tup (pa_cons pe_int pa_nil)) pps_nil) (by rfl) (by rfl) (fun z => by cases z) (by decide)) (pa_cons (pe_lst (pa_cons (pe_lst (pa_cons pe_non pa_nil)) pa_nil)) pa_nil))))))))))))))))
      (pss_one (ps_ret (pe_call GP hr rfl gP kP bP .nil pass0 (pa_cons (pv 0) (pa_cons (pv 1) pa_nil))))), ?_⟩
    obtain ⟨r, t, hd⟩ := D.hd
    obtain ⟨ls, hl, hll⟩ := D.hl
    refine ⟨_, rfl, _, _, rfl, rfl, ⟨by decide, by decide, by decide⟩, Nat.zero_le _, fun p1 h1 => ?_⟩
    obtain ⟨H1, e1, a1, S1⟩ := new_at (.lst []) h1
    refine ⟨by show 2 ≤ sizeLine; decide, fun p2 h2 => ?_⟩
    rw [e1] at h2 ⊢
    obtain ⟨H2, e2, a2, S2⟩ := new_at (.tup [.int 0, .int 2]) h2
    refine ⟨by show 1 ≤ sizeLine; decide, fun p3 h3 => ?_⟩
    rw [e2] at h3 ⊢
    obtain ⟨H3, e3, a3, S3⟩ := new_at (.lst [.ref p2]) h3
    refine ⟨Nat.zero_le _, fun p4 h4 => ?_⟩
    rw [e3] at h4 ⊢
    obtain ⟨H4, e4, a4, S4⟩ := new_at (.tup []) h4
    refine ⟨by show 1 ≤ sizeLine; decide, fun p5 h5 => ?_⟩
    rw [e4] at h5 ⊢
    obtain ⟨H5, e5, a5, S5⟩ := new_at (.tup [.int 4]) h5
    refine fun p6 h6 => ?_
    rw [e5] at h6 ⊢
    obtain ⟨H6, e6, a6, S6⟩ := new_at (.dK []) h6
    refine fun p7 h7 => ?_
    rw [e6] at h7 ⊢
    obtain ⟨H7, e7, a7, S7⟩ := new_at (.dK []) h7
    refine ⟨by show 1 ≤ sizeLine; decide, fun p8 h8 => ?_⟩
    rw [e7] at h8 ⊢
    obtain ⟨H8, e8, a8, S8⟩ := new_at (.tup [.int 1]) h8
    rw [e8]
    have a7' : H8 p7 = some (.dK []) := S8 _ _ a7
    have n8 : p7 ≠ p8 := ne_of_none a7 h8
    refine ⟨a7', [(Sum.inr "a", .ref p8)], rfl, (by show 1 ≤ 15; decide), ?_⟩
    obtain ⟨Hb, eb, ab, Sb⟩ : ∃ Hb, upd H8 p7 (.dK (mergeK [] [(Sum.inr "a", .ref p8)])) = Hb ∧ Hb p7 = some (.dK [(Sum.inr "a", .ref p8)]) ∧ SameX p7 H8 Hb := ⟨_, rfl, upd_same, fun b o e n => by rw [upd_ne n]; exact e⟩
    rw [eb]
    refine ⟨by show 1 ≤ sizeLine; decide, fun p9 h9 => ?_⟩
    obtain ⟨H9, e9, a9, S9⟩ := new_at (.lst [.non]) h9
    rw [e9]
    refine ⟨by show 1 ≤ sizeLine; decide, fun p10 h10 => ?_⟩
    obtain ⟨H10, e10, a10, S10⟩ := new_at (.lst [.ref p9]) h10
    rw [e10]
    refine ⟨by show 14 ≤ sizeLine; decide, fun q hq => ?_⟩
    obtain ⟨Hq, eq, aq, Sq⟩ := new_at (.lst [.non, .bl false, .int (-5), .int (10 ^ 45), .str "", .str "wide", .str "two words", .ref p1, .ref p3, .ref p4, .ref p5, .ref p6, .ref p7, .ref p10]) hq
    show gName _ _ _ (upd H10 q (.lst [.non, .bl false, .int (-5), .int (10 ^ 45), .str "", .str "wide", .str "two words", .ref p1, .ref p3, .ref p4, .ref p5, .ref p6, .ref p7, .ref p10])) _
    rw [eq]
    -- what stood before stands
    have x1 : Same H H1 := S1
    have x2 : Same H H2 := x1.trans S2
    have x3 : Same H H3 := x2.trans S3
    have x4 : Same H H4 := x3.trans S4
    have x5 : Same H H5 := x4.trans S5
    have x6 : Same H H6 := x5.trans S6
    have f7 : H p7 = none := x6.free h7
    have T9 : Same Hb H10 := S9.trans S10
    have up : ∀ {b o}, H8 b = some o → b ≠ p7 → H10 b = some o := fun e n => T9 _ _ (Sb _ _ e n)
    have XX : Same H H10 := fun b o e => up (S8 _ _ (S7 _ _ (x6 _ _ e))) (ne_of_none e f7)
    have nq : q ≠ l := (ne_of_none (XX _ _ hl) hq).symm
    refine ⟨_, rfl, _, rfl, d, l, c, q, _, rfl, aq, nq, (by simp), (by simp), D.same (XX.trans Sq), fun v H' hv D' S' => ?_⟩
    -- at each new object: it stands in H'
    have fin : ∀ {b o}, H10 b = some o → H b = none → H' b = some o := fun e n => S' _ _ (Sq _ _ e) (fun z => by rw [z, hd] at n; cases n) (fun z => by rw [z, hl] at n; cases n)
    have f1 : H p1 = none := h1
    have f2 : H p2 = none := x1.free h2
    have f3 : H p3 = none := x2.free h3
    have f4 : H p4 = none := x3.free h4
    have f5 : H p5 = none := x4.free h5
    have f6 : H p6 = none := x5.free h6
    have y7 : Same H H7 := x6.trans S7
    have f8 : H p8 = none := y7.free h8
    have HB : Same H Hb := fun b o e => Sb _ _ (S8 _ _ (y7 _ _ e)) (ne_of_none e f7)
    have f9 : H p9 = none := HB.free h9
    have f10 : H p10 = none := (HB.trans S9).free h10
    have m1 : p1 ≠ p7 := ne_of_none (S6 _ _ (S5 _ _ (S4 _ _ (S3 _ _ (S2 _ _ a1))))) h7
    have m2 : p2 ≠ p7 := ne_of_none (S6 _ _ (S5 _ _ (S4 _ _ (S3 _ _ a2)))) h7
    have m3 : p3 ≠ p7 := ne_of_none (S6 _ _ (S5 _ _ (S4 _ _ a3))) h7
    have m4 : p4 ≠ p7 := ne_of_none (S6 _ _ (S5 _ _ a4)) h7
    have m5 : p5 ≠ p7 := ne_of_none (S6 _ _ a5) h7
    have m6 : p6 ≠ p7 := ne_of_none a6 h7
    have g1 := fin (up (S8 _ _ (S7 _ _ (S6 _ _ (S5 _ _ (S4 _ _ (S3 _ _ (S2 _ _ a1))))))) m1) f1
    have g2 := fin (up (S8 _ _ (S7 _ _ (S6 _ _ (S5 _ _ (S4 _ _ (S3 _ _ a2)))))) m2) f2
    have g3 := fin (up (S8 _ _ (S7 _ _ (S6 _ _ (S5 _ _ (S4 _ _ a3))))) m3) f3
    have g4 := fin (up (S8 _ _ (S7 _ _ (S6 _ _ (S5 _ _ a4)))) m4) f4
    have g5 := fin (up (S8 _ _ (S7 _ _ (S6 _ _ a5))) m5) f5
    have g6 := fin (up (S8 _ _ (S7 _ _ a6)) m6) f6
    have g7 := fin (T9 _ _ ab) f7
    have g8 := fin (up a8 n8.symm) f8
    have g9 := fin (S10 _ _ a9) f9
    have g10 := fin a10 f10
    have out : ∀ b o, H b = some o → b ≠ d → b ≠ l → H' b = some o := fun b o e n1 n2 => S' _ _ (Sq _ _ (XX _ _ e)) n1 n2
    have G : ∀ e : PyData, e ∈ menu → Dq (e.hasDict = true) K H' v e → Q v H' := fun e he hq => k v e H' he hq out
    have M : ∀ n : Nat, ∀ e, menu[n]? = some e → e ∈ menu := fun n e h => List.mem_of_getElem? h
    simp only [List.mem_cons, List.not_mem_nil, or_false] at hv
    rcases hv with rfl | rfl | rfl | rfl | rfl | rfl | rfl | rfl | rfl | rfl | rfl | rfl | rfl | rfl
    · exact G _ (M 0 _ rfl) .non
    · exact G _ (M 1 _ rfl) (.bl _)
    · exact G _ (M 2 _ rfl) (.int _)
    · exact G _ (M 3 _ rfl) (.int _)
    · exact G _ (M 4 _ rfl) (.str _)
    · exact G _ (M 5 _ rfl) (.str _)
    · exact G _ (M 6 _ rfl) (.str _)
    · exact G _ (M 7 _ rfl) (.lst g1 (fun z => absurd z (by decide)) .nil)
    · exact G _ (M 8 _ rfl) (.lst g3 (fun z => absurd z (by decide)) (.cons (.tup g2 (.cons (.int _) (.cons (.int _) .nil))) .nil))
    · exact G _ (M 9 _ rfl) (.tup g4 .nil)
    · exact G _ (M 10 _ rfl) (.tup g5 (.cons (.int _) .nil))
    · exact G _ (M 11 _ rfl) (.dct g6 .nil)
    · exact G _ (M 12 _ rfl) (.dct g7 (.cons (k := Sum.inr "a") (.tup g8 (.cons (.int _) .nil)) .nil))
    · exact G _ (M 13 _ rfl) (.lst g10 (fun z => absurd z (by decide)) (.cons (.lst g9 (fun z => absurd z (by decide)) (.cons .non .nil)) .nil))
end
end K0
end

section
set_option maxRecDepth 100000
set_option maxHeartbeats 1000000
namespace K0
open PySem L2
/-- the names of the errors, as the law asks them -/
def nm : List Str := ["BadPrime", "BadTable", "BadPoly", "BadPoint", "NoMean", "BadInner", "NoStep", "BadDeed", "BadName", "BadLive", "NothingLeft", "BadLot", "BadOthers", "Swayed", "BadRow", "BadMakers", "BadEquations", "LowPrime", "BadAlone", "BadToll", "BadSlant", "BadFamily", "BadNumber", "BadHouse", "TooMany", "NoMark", "NoWatch", "BadText"]
abbrev bmVE : List Value := [.type "ValueError", .type "Exception", .type "BaseException", .type "object"]

abbrev sI0 : Stmt := inClass (top 12) 0
abbrev sI1 : Stmt := inClass (top 6) 0
abbrev sI2 : Stmt := inClass (top 29) 0
abbrev sI3 : Stmt := inClass (top 23) 0
abbrev sI4 : Stmt := inClass (top 26) 0
abbrev sI5 : Stmt := inClass (top 20) 0
/-- what the top has written of the errors: Cs their classes, S the class of all of them -/
structure Tx (K : PySem.W.Frag) (mg : Str → Option Value) (Cs : List Addr) (S : Addr) : Prop where
  b : TxB mg
  isi : mg "isinstance" = none
  rng : mg "range" = none
  enm : mg "enumerate" = none
  rep : mg "repr" = none
  val : mg "ValueError" = none
  gs : ∀ i x, nm[i]? = some x → mg x = some (.ref (Cs.getD i 0))
  gS : mg "SwayError" = some (.ref S)
  pl : ∀ i, i < 22 → PySem.W.excIn K (Cs.getD i 0) bmVE "ValueError.__new__" = true
  kp : ∀ i, i < 28 → PySem.W.keepIn K (.ref (Cs.getD i 0)) = true
  plS : PySem.W.excIn K S bmVE "ValueError.__new__" = true
  kpS : PySem.W.keepIn K (.ref S) = true
  ex : ∀ i, i < 28 → ExcC K (Cs.getD i 0)
  exS : ExcC K S
  xf : ∀ i, 22 ≤ i → i < 28 → XfC K (Cs.getD i 0)
  ox : ∀ i, 22 ≤ i → i < 28 → OexC K (Cs.getD i 0)
  kit : ∀ i j, i < 28 → j < 28 → PySem.W.kitOne K (.ref (Cs.getD i 0)) (.ref (Cs.getD j 0)) = some (decide (j = i))
  kitS : ∀ j, j < 28 → PySem.W.kitOne K (.ref S) (.ref (Cs.getD j 0)) = some false
  kS : ∀ i, i < 28 → PySem.W.kitOne K (.ref (Cs.getD i 0)) (.ref S) = some true
  kV : ∀ i, i < 28 → PySem.W.kitOne K (.ref (Cs.getD i 0)) (.type "ValueError") = some true
  kSV : PySem.W.kitOne K (.ref S) (.type "ValueError") = some true
  nof : ∀ i x, 22 ≤ i → i < 28 → [("part" : Str), "part", "most", "name", "name", "at"][i - 22]? = some x → PySem.W.findIn K (.ref (Cs.getD i 0)) x = some none
section
variable {P : Program} {w : World} {K : PySem.W.Frag} {mg : Str → Option Value} {base : Heap} {Cs : List Addr} {S : Addr}
theorem _root_.L2.ErrAt.same {H H' : Hp} {a C : Addr} (E : ErrAt H a C) (S : Same H H') : ErrAt H' a C := by
  rcases E with E | ⟨d, fs, h1, h2⟩
  · exact .inl (S _ _ E)
  · exact .inr ⟨d, fs, S _ _ h1, S _ _ h2⟩

/-- an error's __init__: self.f = v -/
def spI (f : Str) (C : Addr) : Sp := fun vs H Q _ => ∃ (a : Addr) (v : V), vs = [.ref a, v] ∧ H a = some (exo a C none) ∧ ∀ dx, H dx = none → dx ≠ a → Q .non (upd (upd H dx (exd dx [(f, v)])) a (exo a C (some dx)))

theorem scI0 : FnScope ["self", "part"] ["self", "part"] (defScope sI0) := ⟨rfl, rfl, rfl, by decide +kernel, rfl, by decide +kernel, by decide +kernel⟩
theorem ok_I0 {f : Addr} {fd : FuncData} (F : Fun K "__init__" "BadNumber.__init__" sI0 f fd) (T : Tx K mg Cs S) : FnOk P w K mg base CX0 1 f fd ["self", "part"] (spI "part" (Cs.getD 22 0)) := by
  refine F.ok scI0 (fun vs H Q E h => ?_) (fun cdv A outer s H vs Q E hr h => ?_)
  · obtain ⟨a, v, rfl, _⟩ := h
    rfl
  · obtain ⟨a, v, rfl, ha, k⟩ := h
    refine ⟨_, pss_one (ps_ost (pv 0) (pv 1)), ?_⟩
    exact ⟨_, rfl, _, rfl, a, _, rfl, T.ox 22 (by decide) (by decide), T.nof 22 _ (by decide) (by decide) rfl, .inl ⟨ha, fun dx h1 h2 => k dx h1 h2⟩⟩
theorem scI1 : FnScope ["self", "part"] ["self", "part"] (defScope sI1) := ⟨rfl, rfl, rfl, by decide +kernel, rfl, by decide +kernel, by decide +kernel⟩
theorem ok_I1 {f : Addr} {fd : FuncData} (F : Fun K "__init__" "BadHouse.__init__" sI1 f fd) (T : Tx K mg Cs S) : FnOk P w K mg base CX0 1 f fd ["self", "part"] (spI "part" (Cs.getD 23 0)) := by
  refine F.ok scI1 (fun vs H Q E h => ?_) (fun cdv A outer s H vs Q E hr h => ?_)
  · obtain ⟨a, v, rfl, _⟩ := h
    rfl
  · obtain ⟨a, v, rfl, ha, k⟩ := h
    refine ⟨_, pss_one (ps_ost (pv 0) (pv 1)), ?_⟩
    exact ⟨_, rfl, _, rfl, a, _, rfl, T.ox 23 (by decide) (by decide), T.nof 23 _ (by decide) (by decide) rfl, .inl ⟨ha, fun dx h1 h2 => k dx h1 h2⟩⟩
theorem scI2 : FnScope ["self", "most"] ["self", "most"] (defScope sI2) := ⟨rfl, rfl, rfl, by decide +kernel, rfl, by decide +kernel, by decide +kernel⟩
theorem ok_I2 {f : Addr} {fd : FuncData} (F : Fun K "__init__" "TooMany.__init__" sI2 f fd) (T : Tx K mg Cs S) : FnOk P w K mg base CX0 1 f fd ["self", "most"] (spI "most" (Cs.getD 24 0)) := by
  refine F.ok scI2 (fun vs H Q E h => ?_) (fun cdv A outer s H vs Q E hr h => ?_)
  · obtain ⟨a, v, rfl, _⟩ := h
    rfl
  · obtain ⟨a, v, rfl, ha, k⟩ := h
    refine ⟨_, pss_one (ps_ost (pv 0) (pv 1)), ?_⟩
    exact ⟨_, rfl, _, rfl, a, _, rfl, T.ox 24 (by decide) (by decide), T.nof 24 _ (by decide) (by decide) rfl, .inl ⟨ha, fun dx h1 h2 => k dx h1 h2⟩⟩
theorem scI3 : FnScope ["self", "name"] ["self", "name"] (defScope sI3) := ⟨rfl, rfl, rfl, by decide +kernel, rfl, by decide +kernel, by decide +kernel⟩
theorem ok_I3 {f : Addr} {fd : FuncData} (F : Fun K "__init__" "NoMark.__init__" sI3 f fd) (T : Tx K mg Cs S) : FnOk P w K mg base CX0 1 f fd ["self", "name"] (spI "name" (Cs.getD 25 0)) := by
  refine F.ok scI3 (fun vs H Q E h => ?_) (fun cdv A outer s H vs Q E hr h => ?_)
  · obtain ⟨a, v, rfl, _⟩ := h
    rfl
  · obtain ⟨a, v, rfl, ha, k⟩ := h
    refine ⟨_, pss_one (ps_ost (pv 0) (pv 1)), ?_⟩
    exact ⟨_, rfl, _, rfl, a, _, rfl, T.ox 25 (by decide) (by decide), T.nof 25 _ (by decide) (by decide) rfl, .inl ⟨ha, fun dx h1 h2 => k dx h1 h2⟩⟩
theorem scI4 : FnScope ["self", "name"] ["self", "name"] (defScope sI4) := ⟨rfl, rfl, rfl, by decide +kernel, rfl, by decide +kernel, by decide +kernel⟩
theorem ok_I4 {f : Addr} {fd : FuncData} (F : Fun K "__init__" "NoWatch.__init__" sI4 f fd) (T : Tx K mg Cs S) : FnOk P w K mg base CX0 1 f fd ["self", "name"] (spI "name" (Cs.getD 26 0)) := by
  refine F.ok scI4 (fun vs H Q E h => ?_) (fun cdv A outer s H vs Q E hr h => ?_)
  · obtain ⟨a, v, rfl, _⟩ := h
    rfl
  · obtain ⟨a, v, rfl, ha, k⟩ := h
    refine ⟨_, pss_one (ps_ost (pv 0) (pv 1)), ?_⟩
    exact ⟨_, rfl, _, rfl, a, _, rfl, T.ox 26 (by decide) (by decide), T.nof 26 _ (by decide) (by decide) rfl, .inl ⟨ha, fun dx h1 h2 => k dx h1 h2⟩⟩
theorem scI5 : FnScope ["self", "at"] ["self", "at"] (defScope sI5) := ⟨rfl, rfl, rfl, by decide +kernel, rfl, by decide +kernel, by decide +kernel⟩
theorem ok_I5 {f : Addr} {fd : FuncData} (F : Fun K "__init__" "BadText.__init__" sI5 f fd) (T : Tx K mg Cs S) : FnOk P w K mg base CX0 1 f fd ["self", "at"] (spI "at" (Cs.getD 27 0)) := by
  refine F.ok scI5 (fun vs H Q E h => ?_) (fun cdv A outer s H vs Q E hr h => ?_)
  · obtain ⟨a, v, rfl, _⟩ := h
    rfl
  · obtain ⟨a, v, rfl, ha, k⟩ := h
    refine ⟨_, pss_one (ps_ost (pv 0) (pv 1)), ?_⟩
    exact ⟨_, rfl, _, rfl, a, _, rfl, T.ox 27 (by decide) (by decide), T.nof 27 _ (by decide) (by decide) rfl, .inl ⟨ha, fun dx h1 h2 => k dx h1 h2⟩⟩
/-- which of all classes an error is of -/
def spKinds (K : PySem.W.Frag) (Cs : List Addr) : Sp := fun vs H Q _ => ∃ (e D : Addr) (b : Nat → Bool), vs = [.ref e] ∧ ErrAt H e D ∧ ExcC K D ∧ (∀ j, j < 28 → PySem.W.kitOne K (.ref D) (.ref (Cs.getD j 0)) = some (b j)) ∧
  ∀ p H', Same H H' → H p = none → H' p = some (.lst ((List.range 28).map fun j => .bl (b j))) → Q (.ref p) H'
theorem scK : FnScope ["error", "found"] ["error"] (defScope sKinds) := ⟨rfl, rfl, rfl, by decide +kernel, rfl, by decide +kernel, by decide +kernel⟩
theorem ok_kinds {f : Addr} {fd : FuncData} (F : Fun K "_law_kinds" "_law_kinds" sKinds f fd) (T : Tx K mg Cs S) : FnOk P w K mg base CX0 1 f fd ["error"] (spKinds K Cs) := by
  refine F.ok scK (fun vs H Q E h => ?_) (fun cdv A outer s H vs Q E hr h => ?_)
  · obtain ⟨e, D, b, rfl, _⟩ := h
    rfl
  · obtain ⟨e, D, b, rfl, EA, ec, kb, k⟩ := h
    refine ⟨_, (pss_cons (ps_set (i := 1) scK.nd rfl (Or.inl rfl) (pe_lst pa_nil))
      (pss_cons (ps_set (i := 1) scK.nd rfl (Or.inl rfl) (pe_op op_cat (pv 1) (pe_lst (pa_cons (pe_callB call_isX (by rfl) T.isi (by decide +kernel) (pa_cons (pv 0) (pa_cons (pe_glob (v := .ref (Cs.getD 0 0)) rfl (T.gs 0 _ rfl) rfl) pa_nil))) (pa_cons (pe_callB call_isX (by rfl) T.isi (by decide +kernel) (pa_cons (pv 0) (pa_cons (pe_glob (v := .ref (Cs.getD 1 0)) rfl (T.gs 1 _ rfl) rfl) pa_nil))) (pa_cons (pe_callB call_isX (by rfl) T.isi (by decide +kernel) (pa_cons (pv 0) (pa_cons (pe_glob (v := .ref (Cs.getD 2 0)) rfl (T.gs 2 _ rfl) rfl) pa_nil))) pa_nil))))))
      (pss_cons (ps_set (i := 1) scK.nd rfl (Or.inl rfl) (pe_op op_cat (pv 1) (pe_lst (pa_cons (pe_callB call_isX (by rfl) T.isi (by decide +kernel) (pa_cons (pv 0) (pa_cons (pe_glob (v := .ref (Cs.getD 3 0)) rfl (T.gs 3 _ rfl) rfl) pa_nil))) (pa_cons (pe_callB call_isX (by rfl) T.isi (by decide +kernel) (pa_cons (pv 0) (pa_cons (pe_glob (v := .ref (Cs.getD 4 0)) rfl (T.gs 4 _ rfl) rfl) pa_nil))) (pa_cons (pe_callB call_isX (by rfl) T.isi (by decide +kernel) (pa_cons (pv 0) (pa_cons (pe_glob (v := .ref (Cs.getD 5 0)) rfl (T.gs 5 _ rfl) rfl) pa_nil))) pa_nil))))))
      (pss_cons (ps_set (i := 1) scK.nd rfl (Or.inl rfl) (pe_op op_cat (pv 1) (pe_lst (pa_cons (pe_callB call_isX (by rfl) T.isi (by decide +kernel) (pa_cons (pv 0) (pa_cons (pe_glob (v := .ref (Cs.getD 6 0)) rfl (T.gs 6 _ rfl) rfl) pa_nil))) (pa_cons (pe_callB call_isX (by rfl) T.isi (by decide +kernel) (pa_cons (pv 0) (pa_cons (pe_glob (v := .ref (Cs.getD 7 0)) rfl (T.gs 7 _ rfl) rfl) pa_nil))) (pa_cons (pe_callB call_isX (by rfl) T.isi (by decide +kernel) (pa_cons (pv 0) (pa_cons (pe_glob (v := .ref (Cs.getD 8 0)) rfl (T.gs 8 _ rfl) rfl) pa_nil))) pa_nil))))))
      (pss_cons (ps_set (i := 1) scK.nd rfl (Or.inl rfl) (pe_op op_cat (pv 1) (pe_lst (pa_cons (pe_callB call_isX (by rfl) T.isi (by decide +kernel) (pa_cons (pv 0) (pa_cons (pe_glob (v := .ref (Cs.getD 9 0)) rfl (T.gs 9 _ rfl) rfl) pa_nil))) (pa_cons (pe_callB call_isX (by rfl) T.isi (by decide +kernel) (pa_cons (pv 0) (pa_cons (pe_glob (v := .ref (Cs.getD 10 0)) rfl (T.gs 10 _ rfl) rfl) pa_nil))) (pa_cons (pe_callB call_isX (by rfl) T.isi (by decide +kernel) (pa_cons (pv 0) (pa_cons (pe_glob (v := .ref (Cs.getD 11 0)) rfl (T.gs 11 _ rfl) rfl) pa_nil))) pa_nil))))))
      (pss_cons (ps_set (i := 1) scK.nd rfl (Or.inl rfl) (pe_op op_cat (pv 1) (pe_lst (pa_cons (pe_callB call_isX (by rfl) T.isi (by decide +kernel) (pa_cons (pv 0) (pa_cons (pe_glob (v := .ref (Cs.getD 12 0)) rfl (T.gs 12 _ rfl) rfl) pa_nil))) (pa_cons (pe_callB call_isX (by rfl) T.isi (by decide +kernel) (pa_cons (pv 0) (pa_cons (pe_glob (v := .ref (Cs.getD 13 0)) rfl (T.gs 13 _ rfl) rfl) pa_nil))) (pa_cons (pe_callB call_isX (by rfl) T.isi (by decide +kernel) (pa_cons (pv 0) (pa_cons (pe_glob (v := .ref (Cs.getD 14 0)) rfl (T.gs 14 _ rfl) rfl) pa_nil))) pa_nil))))))
      (pss_cons (ps_set (i := 1) scK.nd rfl (Or.inl rfl) (pe_op op_cat (pv 1) (pe_lst (pa_cons (pe_callB call_isX (by rfl) T.isi (by decide +kernel) (pa_cons (pv 0) (pa_cons (pe_glob (v := .ref (Cs.getD 15 0)) rfl (T.gs 15 _ rfl) rfl) pa_nil))) (pa_cons (pe_callB call_isX (by rfl) T.isi (by decide +kernel) (pa_cons (pv 0) (pa_cons (pe_glob (v := .ref (Cs.getD 16 0)) rfl (T.gs 16 _ rfl) rfl) pa_nil))) (pa_cons (pe_callB call_isX (by rfl) T.isi (by decide +kernel) (pa_cons (pv 0) (pa_cons (pe_glob (v := .ref (Cs.getD 17 0)) rfl (T.gs 17 _ rfl) rfl) pa_nil))) pa_nil))))))
      (pss_cons (ps_set (i := 1) scK.nd rfl (Or.inl rfl) (pe_op op_cat (pv 1) (pe_lst (pa_cons (pe_callB call_isX (by rfl) T.isi (by decide +kernel) (pa_cons (pv 0) (pa_cons (pe_glob (v := .ref (Cs.getD 18 0)) rfl (T.gs 18 _ rfl) rfl) pa_nil))) (pa_cons (pe_callB call_isX (by rfl) T.isi (by decide +kernel) (pa_cons (pv 0) (pa_cons (pe_glob (v := .ref (Cs.getD 19 0)) rfl (T.gs 19 _ rfl) rfl) pa_nil))) (pa_cons (pe_callB call_isX (by rfl) T.isi (by decide +kernel) (pa_cons (pv 0) (pa_cons (pe_glob (v := .ref (Cs.getD 20 0)) rfl (T.gs 20 _ rfl) rfl) pa_nil))) pa_nil))))))
      (pss_cons (ps_set (i := 1) scK.nd rfl (Or.inl rfl) (pe_op op_cat (pv 1) (pe_lst (pa_cons (pe_callB call_isX (by rfl) T.isi (by decide +kernel) (pa_cons (pv 0) (pa_cons (pe_glob (v := .ref (Cs.getD 21 0)) rfl (T.gs 21 _ rfl) rfl) pa_nil))) (pa_cons (pe_callB call_isX (by rfl) T.isi (by decide +kernel) (pa_cons (pv 0) (pa_cons (pe_glob (v := .ref (Cs.getD 22 0)) rfl (T.gs 22 _ rfl) rfl) pa_nil))) (pa_cons (pe_callB call_isX (by rfl) T.isi (by decide +kernel) (pa_cons (pv 0) (pa_cons (pe_glob (v := .ref (Cs.getD 23 0)) rfl (T.gs 23 _ rfl) rfl) pa_nil))) pa_nil))))))
      (pss_cons (ps_set (i := 1) scK.nd rfl (Or.inl rfl) (pe_op op_cat (pv 1) (pe_lst (pa_cons (pe_callB call_isX (by rfl) T.isi (by decide +kernel) (pa_cons (pv 0) (pa_cons (pe_glob (v := .ref (Cs.getD 24 0)) rfl (T.gs 24 _ rfl) rfl) pa_nil))) (pa_cons (pe_callB call_isX (by rfl) T.isi (by decide +kernel) (pa_cons (pv 0) (pa_cons (pe_glob (v := .ref (Cs.getD 25 0)) rfl (T.gs 25 _ rfl) rfl) pa_nil))) (pa_cons (pe_callB call_isX (by rfl) T.isi (by decide +kernel) (pa_cons (pv 0) (pa_cons (pe_glob (v := .ref (Cs.getD 26 0)) rfl (T.gs 26 _ rfl) rfl) pa_nil))) pa_nil))))))
      (pss_cons (ps_set (i := 1) scK.nd rfl (Or.inl rfl) (pe_op op_cat (pv 1) (pe_lst (pa_cons (pe_callB call_isX (by rfl) T.isi (by decide +kernel) (pa_cons (pv 0) (pa_cons (pe_glob (v := .ref (Cs.getD 27 0)) rfl (T.gs 27 _ rfl) rfl) pa_nil))) pa_nil))))
      (pss_one (ps_ret (pv 1)))))))))))))), ?_⟩
    refine ⟨Nat.zero_le _, fun p0 h0 => ?_⟩
    obtain ⟨H0, e0, a0, S0⟩ := new_at (.lst []) h0
    rw [e0]
    have X0 : Same H H0 := S0
    refine ⟨_, rfl, _, rfl, e, D, _, _, _, rfl, .own _, EA.same X0, ec, kb 0 (by decide), _, rfl, e, D, _, _, _, rfl, .own _, EA.same X0, ec, kb 1 (by decide), _, rfl, e, D, _, _, _, rfl, .own _, EA.same X0, ec, kb 2 (by decide), (by show 3 ≤ sizeLine; decide), fun q0 g0 => ?_⟩
    obtain ⟨G0, c0, d0, R0⟩ := new_at (.lst [.bl (b 0), .bl (b 1), .bl (b 2)]) g0
    rw [c0]
    refine ⟨p0, q0, [], [.bl (b 0), .bl (b 1), .bl (b 2)], rfl, rfl, R0 _ _ a0, d0, (by show 3 ≤ sizeLine; decide), fun p1 h1 => ?_⟩
    obtain ⟨H1, e1, a1, S1⟩ := new_at (.lst [.bl (b 0), .bl (b 1), .bl (b 2)]) h1
    show gName _ _ _ (upd G0 p1 (.lst [.bl (b 0), .bl (b 1), .bl (b 2)])) _
    rw [e1]
    have X1 : Same H H1 := (X0.trans R0).trans S1
    refine ⟨_, rfl, _, rfl, e, D, _, _, _, rfl, .own _, EA.same X1, ec, kb 3 (by decide), _, rfl, e, D, _, _, _, rfl, .own _, EA.same X1, ec, kb 4 (by decide), _, rfl, e, D, _, _, _, rfl, .own _, EA.same X1, ec, kb 5 (by decide), (by show 3 ≤ sizeLine; decide), fun q1 g1 => ?_⟩
    obtain ⟨G1, c1, d1, R1⟩ := new_at (.lst [.bl (b 3), .bl (b 4), .bl (b 5)]) g1
    rw [c1]
    refine ⟨p1, q1, [.bl (b 0), .bl (b 1), .bl (b 2)], [.bl (b 3), .bl (b 4), .bl (b 5)], rfl, rfl, R1 _ _ a1, d1, (by show 6 ≤ sizeLine; decide), fun p2 h2 => ?_⟩
    obtain ⟨H2, e2, a2, S2⟩ := new_at (.lst [.bl (b 0), .bl (b 1), .bl (b 2), .bl (b 3), .bl (b 4), .bl (b 5)]) h2
    show gName _ _ _ (upd G1 p2 (.lst [.bl (b 0), .bl (b 1), .bl (b 2), .bl (b 3), .bl (b 4), .bl (b 5)])) _
    rw [e2]
    have X2 : Same H H2 := (X1.trans R1).trans S2
    refine ⟨_, rfl, _, rfl, e, D, _, _, _, rfl, .own _, EA.same X2, ec, kb 6 (by decide), _, rfl, e, D, _, _, _, rfl, .own _, EA.same X2, ec, kb 7 (by decide), _, rfl, e, D, _, _, _, rfl, .own _, EA.same X2, ec, kb 8 (by decide), (by show 3 ≤ sizeLine; decide), fun q2 g2 => ?_⟩
    obtain ⟨G2, c2, d2, R2⟩ := new_at (.lst [.bl (b 6), .bl (b 7), .bl (b 8)]) g2
    rw [c2]
    refine ⟨p2, q2, [.bl (b 0), .bl (b 1), .bl (b 2), .bl (b 3), .bl (b 4), .bl (b 5)], [.bl (b 6), .bl (b 7), .bl (b 8)], rfl, rfl, R2 _ _ a2, d2, (by show 9 ≤ sizeLine; decide), fun p3 h3 => ?_⟩
    obtain ⟨H3, e3, a3, S3⟩ := new_at (.lst [.bl (b 0), .bl (b 1), .bl (b 2), .bl (b 3), .bl (b 4), .bl (b 5), .bl (b 6), .bl (b 7), .bl (b 8)]) h3
    show gName _ _ _ (upd G2 p3 (.lst [.bl (b 0), .bl (b 1), .bl (b 2), .bl (b 3), .bl (b 4), .bl (b 5), .bl (b 6), .bl (b 7), .bl (b 8)])) _
    rw [e3]
    have X3 : Same H H3 := (X2.trans R2).trans S3
    refine ⟨_, rfl, _, rfl, e, D, _, _, _, rfl, .own _, EA.same X3, ec, kb 9 (by decide), _, rfl, e, D, _, _, _, rfl, .own _, EA.same X3, ec, kb 10 (by decide), _, rfl, e, D, _, _, _, rfl, .own _, EA.same X3, ec, kb 11 (by decide), (by show 3 ≤ sizeLine; decide), fun q3 g3 => ?_⟩
    obtain ⟨G3, c3, d3, R3⟩ := new_at (.lst [.bl (b 9), .bl (b 10), .bl (b 11)]) g3
    rw [c3]
    refine ⟨p3, q3, [.bl (b 0), .bl (b 1), .bl (b 2), .bl (b 3), .bl (b 4), .bl (b 5), .bl (b 6), .bl (b 7), .bl (b 8)], [.bl (b 9), .bl (b 10), .bl (b 11)], rfl, rfl, R3 _ _ a3, d3, (by show 12 ≤ sizeLine; decide), fun p4 h4 => ?_⟩
    obtain ⟨H4, e4, a4, S4⟩ := new_at (.lst [.bl (b 0), .bl (b 1), .bl (b 2), .bl (b 3), .bl (b 4), .bl (b 5), .bl (b 6), .bl (b 7), .bl (b 8), .bl (b 9), .bl (b 10), .bl (b 11)]) h4
    show gName _ _ _ (upd G3 p4 (.lst [.bl (b 0), .bl (b 1), .bl (b 2), .bl (b 3), .bl (b 4), .bl (b 5), .bl (b 6), .bl (b 7), .bl (b 8), .bl (b 9), .bl (b 10), .bl (b 11)])) _
    rw [e4]
    have X4 : Same H H4 := (X3.trans R3).trans S4
    refine ⟨_, rfl, _, rfl, e, D, _, _, _, rfl, .own _, EA.same X4, ec, kb 12 (by decide), _, rfl, e, D, _, _, _, rfl, .own _, EA.same X4, ec, kb 13 (by decide), _, rfl, e, D, _, _, _, rfl, .own _, EA.same X4, ec, kb 14 (by decide), (by show 3 ≤ sizeLine; decide), fun q4 g4 => ?_⟩
    obtain ⟨G4, c4, d4, R4⟩ := new_at (.lst [.bl (b 12), .bl (b 13), .bl (b 14)]) g4
    rw [c4]
    refine ⟨p4, q4, [.bl (b 0), .bl (b 1), .bl (b 2), .bl (b 3), .bl (b 4), .bl (b 5), .bl (b 6), .bl (b 7), .bl (b 8), .bl (b 9), .bl (b 10), .bl (b 11)], [.bl (b 12), .bl (b 13), .bl (b 14)], rfl, rfl, R4 _ _ a4, d4, (by show 15 ≤ sizeLine; decide), fun p5 h5 => ?_⟩
    obtain ⟨H5, e5, a5, S5⟩ := new_at (.lst [.bl (b 0), .bl (b 1), .bl (b 2), .bl (b 3), .bl (b 4), .bl (b 5), .bl (b 6), .bl (b 7), .bl (b 8), .bl (b 9), .bl (b 10), .bl (b 11), .bl (b 12), .bl (b 13), .bl (b 14)]) h5
    show gName _ _ _ (upd G4 p5 (.lst [.bl (b 0), .bl (b 1), .bl (b 2), .bl (b 3), .bl (b 4), .bl (b 5), .bl (b 6), .bl (b 7), .bl (b 8), .bl (b 9), .bl (b 10), .bl (b 11), .bl (b 12), .bl (b 13), .bl (b 14)])) _
    rw [e5]
    have X5 : Same H H5 := (X4.trans R4).trans S5
    refine ⟨_, rfl, _, rfl, e, D, _, _, _, rfl, .own _, EA.same X5, ec, kb 15 (by decide), _, rfl, e, D, _, _, _, rfl, .own _, EA.same X5, ec, kb 16 (by decide), _, rfl, e, D, _, _, _, rfl, .own _, EA.same X5, ec, kb 17 (by decide), (by show 3 ≤ sizeLine; decide), fun q5 g5 => ?_⟩
    obtain ⟨G5, c5, d5, R5⟩ := new_at (.lst [.bl (b 15), .bl (b 16), .bl (b 17)]) g5
    rw [c5]
    refine ⟨p5, q5, [.bl (b 0), .bl (b 1), .bl (b 2), .bl (b 3), .bl (b 4), .bl (b 5), .bl (b 6), .bl (b 7), .bl (b 8), .bl (b 9), .bl (b 10), .bl (b 11), .bl (b 12), .bl (b 13), .bl (b 14)], [.bl (b 15), .bl (b 16), .bl (b 17)], rfl, rfl, R5 _ _ a5, d5, (by show 18 ≤ sizeLine; decide), fun p6 h6 => ?_⟩
    obtain ⟨H6, e6, a6, S6⟩ := new_at (.lst [.bl (b 0), .bl (b 1), .bl (b 2), .bl (b 3), .bl (b 4), .bl (b 5), .bl (b 6), .bl (b 7), .bl (b 8), .bl (b 9), .bl (b 10), .bl (b 11), .bl (b 12), .bl (b 13), .bl (b 14), .bl (b 15), .bl (b 16), .bl (b 17)]) h6
    show gName _ _ _ (upd G5 p6 (.lst [.bl (b 0), .bl (b 1), .bl (b 2), .bl (b 3), .bl (b 4), .bl (b 5), .bl (b 6), .bl (b 7), .bl (b 8), .bl (b 9), .bl (b 10), .bl (b 11), .bl (b 12), .bl (b 13), .bl (b 14), .bl (b 15), .bl (b 16), .bl (b 17)])) _
    rw [e6]
    have X6 : Same H H6 := (X5.trans R5).trans S6
    refine ⟨_, rfl, _, rfl, e, D, _, _, _, rfl, .own _, EA.same X6, ec, kb 18 (by decide), _, rfl, e, D, _, _, _, rfl, .own _, EA.same X6, ec, kb 19 (by decide), _, rfl, e, D, _, _, _, rfl, .own _, EA.same X6, ec, kb 20 (by decide), (by show 3 ≤ sizeLine; decide), fun q6 g6 => ?_⟩
    obtain ⟨G6, c6, d6, R6⟩ := new_at (.lst [.bl (b 18), .bl (b 19), .bl (b 20)]) g6
    rw [c6]
    refine ⟨p6, q6, [.bl (b 0), .bl (b 1), .bl (b 2), .bl (b 3), .bl (b 4), .bl (b 5), .bl (b 6), .bl (b 7), .bl (b 8), .bl (b 9), .bl (b 10), .bl (b 11), .bl (b 12), .bl (b 13), .bl (b 14), .bl (b 15), .bl (b 16), .bl (b 17)], [.bl (b 18), .bl (b 19), .bl (b 20)], rfl, rfl, R6 _ _ a6, d6, (by show 21 ≤ sizeLine; decide), fun p7 h7 => ?_⟩
    obtain ⟨H7, e7, a7, S7⟩ := new_at (.lst [.bl (b 0), .bl (b 1), .bl (b 2), .bl (b 3), .bl (b 4), .bl (b 5), .bl (b 6), .bl (b 7), .bl (b 8), .bl (b 9), .bl (b 10), .bl (b 11), .bl (b 12), .bl (b 13), .bl (b 14), .bl (b 15), .bl (b 16), .bl (b 17), .bl (b 18), .bl (b 19), .bl (b 20)]) h7
    show gName _ _ _ (upd G6 p7 (.lst [.bl (b 0), .bl (b 1), .bl (b 2), .bl (b 3), .bl (b 4), .bl (b 5), .bl (b 6), .bl (b 7), .bl (b 8), .bl (b 9), .bl (b 10), .bl (b 11), .bl (b 12), .bl (b 13), .bl (b 14), .bl (b 15), .bl (b 16), .bl (b 17), .bl (b 18), .bl (b 19), .bl (b 20)])) _
    rw [e7]
    have X7 : Same H H7 := (X6.trans R6).trans S7
    refine ⟨_, rfl, _, rfl, e, D, _, _, _, rfl, .own _, EA.same X7, ec, kb 21 (by decide), _, rfl, e, D, _, _, _, rfl, .own _, EA.same X7, ec, kb 22 (by decide), _, rfl, e, D, _, _, _, rfl, .own _, EA.same X7, ec, kb 23 (by decide), (by show 3 ≤ sizeLine; decide), fun q7 g7 => ?_⟩
    obtain ⟨G7, c7, d7, R7⟩ := new_at (.lst [.bl (b 21), .bl (b 22), .bl (b 23)]) g7
    rw [c7]
    refine ⟨p7, q7, [.bl (b 0), .bl (b 1), .bl (b 2), .bl (b 3), .bl (b 4), .bl (b 5), .bl (b 6), .bl (b 7), .bl (b 8), .bl (b 9), .bl (b 10), .bl (b 11), .bl (b 12), .bl (b 13), .bl (b 14), .bl (b 15), .bl (b 16), .bl (b 17), .bl (b 18), .bl (b 19), .bl (b 20)], [.bl (b 21), .bl (b 22), .bl (b 23)], rfl, rfl, R7 _ _ a7, d7, (by show 24 ≤ sizeLine; decide), fun p8 h8 => ?_⟩
    obtain ⟨H8, e8, a8, S8⟩ := new_at (.lst [.bl (b 0), .bl (b 1), .bl (b 2), .bl (b 3), .bl (b 4), .bl (b 5), .bl (b 6), .bl (b 7), .bl (b 8), .bl (b 9), .bl (b 10), .bl (b 11), .bl (b 12), .bl (b 13), .bl (b 14), .bl (b 15), .bl (b 16), .bl (b 17), .bl (b 18), .bl (b 19), .bl (b 20), .bl (b 21), .bl (b 22), .bl (b 23)]) h8
    show gName _ _ _ (upd G7 p8 (.lst [.bl (b 0), .bl (b 1), .bl (b 2), .bl (b 3), .bl (b 4), .bl (b 5), .bl (b 6), .bl (b 7), .bl (b 8), .bl (b 9), .bl (b 10), .bl (b 11), .bl (b 12), .bl (b 13), .bl (b 14), .bl (b 15), .bl (b 16), .bl (b 17), .bl (b 18), .bl (b 19), .bl (b 20), .bl (b 21), .bl (b 22), .bl (b 23)])) _
    rw [e8]
    have X8 : Same H H8 := (X7.trans R7).trans S8
    refine ⟨_, rfl, _, rfl, e, D, _, _, _, rfl, .own _, EA.same X8, ec, kb 24 (by decide), _, rfl, e, D, _, _, _, rfl, .own _, EA.same X8, ec, kb 25 (by decide), _, rfl, e, D, _, _, _, rfl, .own _, EA.same X8, ec, kb 26 (by decide), (by show 3 ≤ sizeLine; decide), fun q8 g8 => ?_⟩
    obtain ⟨G8, c8, d8, R8⟩ := new_at (.lst [.bl (b 24), .bl (b 25), .bl (b 26)]) g8
    rw [c8]
    refine ⟨p8, q8, [.bl (b 0), .bl (b 1), .bl (b 2), .bl (b 3), .bl (b 4), .bl (b 5), .bl (b 6), .bl (b 7), .bl (b 8), .bl (b 9), .bl (b 10), .bl (b 11), .bl (b 12), .bl (b 13), .bl (b 14), .bl (b 15), .bl (b 16), .bl (b 17), .bl (b 18), .bl (b 19), .bl (b 20), .bl (b 21), .bl (b 22), .bl (b 23)], [.bl (b 24), .bl (b 25), .bl (b 26)], rfl, rfl, R8 _ _ a8, d8, (by show 27 ≤ sizeLine; decide), fun p9 h9 => ?_⟩
    obtain ⟨H9, e9, a9, S9⟩ := new_at (.lst [.bl (b 0), .bl (b 1), .bl (b 2), .bl (b 3), .bl (b 4), .bl (b 5), .bl (b 6), .bl (b 7), .bl (b 8), .bl (b 9), .bl (b 10), .bl (b 11), .bl (b 12), .bl (b 13), .bl (b 14), .bl (b 15), .bl (b 16), .bl (b 17), .bl (b 18), .bl (b 19), .bl (b 20), .bl (b 21), .bl (b 22), .bl (b 23), .bl (b 24), .bl (b 25), .bl (b 26)]) h9
    show gName _ _ _ (upd G8 p9 (.lst [.bl (b 0), .bl (b 1), .bl (b 2), .bl (b 3), .bl (b 4), .bl (b 5), .bl (b 6), .bl (b 7), .bl (b 8), .bl (b 9), .bl (b 10), .bl (b 11), .bl (b 12), .bl (b 13), .bl (b 14), .bl (b 15), .bl (b 16), .bl (b 17), .bl (b 18), .bl (b 19), .bl (b 20), .bl (b 21), .bl (b 22), .bl (b 23), .bl (b 24), .bl (b 25), .bl (b 26)])) _
    rw [e9]
    have X9 : Same H H9 := (X8.trans R8).trans S9
    refine ⟨_, rfl, _, rfl, e, D, _, _, _, rfl, .own _, EA.same X9, ec, kb 27 (by decide), (by show 1 ≤ sizeLine; decide), fun q9 g9 => ?_⟩
    obtain ⟨G9, c9, d9, R9⟩ := new_at (.lst [.bl (b 27)]) g9
    rw [c9]
    refine ⟨p9, q9, [.bl (b 0), .bl (b 1), .bl (b 2), .bl (b 3), .bl (b 4), .bl (b 5), .bl (b 6), .bl (b 7), .bl (b 8), .bl (b 9), .bl (b 10), .bl (b 11), .bl (b 12), .bl (b 13), .bl (b 14), .bl (b 15), .bl (b 16), .bl (b 17), .bl (b 18), .bl (b 19), .bl (b 20), .bl (b 21), .bl (b 22), .bl (b 23), .bl (b 24), .bl (b 25), .bl (b 26)], [.bl (b 27)], rfl, rfl, R9 _ _ a9, d9, (by show 28 ≤ sizeLine; decide), fun p10 h10 => ?_⟩
    obtain ⟨H10, e10, a10, S10⟩ := new_at (.lst [.bl (b 0), .bl (b 1), .bl (b 2), .bl (b 3), .bl (b 4), .bl (b 5), .bl (b 6), .bl (b 7), .bl (b 8), .bl (b 9), .bl (b 10), .bl (b 11), .bl (b 12), .bl (b 13), .bl (b 14), .bl (b 15), .bl (b 16), .bl (b 17), .bl (b 18), .bl (b 19), .bl (b 20), .bl (b 21), .bl (b 22), .bl (b 23), .bl (b 24), .bl (b 25), .bl (b 26), .bl (b 27)]) h10
    show gName _ _ _ (upd G9 p10 (.lst [.bl (b 0), .bl (b 1), .bl (b 2), .bl (b 3), .bl (b 4), .bl (b 5), .bl (b 6), .bl (b 7), .bl (b 8), .bl (b 9), .bl (b 10), .bl (b 11), .bl (b 12), .bl (b 13), .bl (b 14), .bl (b 15), .bl (b 16), .bl (b 17), .bl (b 18), .bl (b 19), .bl (b 20), .bl (b 21), .bl (b 22), .bl (b 23), .bl (b 24), .bl (b 25), .bl (b 26), .bl (b 27)])) _
    rw [e10]
    have X10 : Same H H10 := (X9.trans R9).trans S10
    exact ⟨_, rfl, k p10 H10 X10 ((X9.trans R9).free h10) a10⟩
end
end K0
end

section
set_option maxRecDepth 100000
set_option maxHeartbeats 4000000
namespace K0
open PySem L2
section
variable {P : Program} {w : World} {K : PySem.W.Frag} {mg : Str → Option Value} {base : Heap} {Cs : List Addr} {S : Addr}
theorem SameX.trans {p : Addr} {H H1 H2 : Hp} (a : SameX p H H1) (b : SameX p H1 H2) : SameX p H H2 := fun c o e n => b c o (a c o e n) n
theorem SameX.of {p : Addr} {H H1 : Hp} (a : Same H H1) : SameX p H H1 := fun c o e _ => a c o e
/-- the errors without an attribute -/
def spPlain (Cs : List Addr) : Sp := fun vs H Q _ => ∃ v : V, vs = [v] ∧ ∀ (p : Addr) (es : List Addr) H', es.length = 22 → Same H H' → H p = none → H' p = some (.lst (es.map V.ref)) →
  (∀ i, i < 22 → ErrAt H' (es.getD i 0) (Cs.getD i 0)) → Q (.ref p) H'
theorem scR : FnScope ["words_here", "found"] ["words_here"] (defScope sPlain) := ⟨rfl, rfl, rfl, by decide +kernel, rfl, by decide +kernel, by decide +kernel⟩
theorem ok_plain {f : Addr} {fd : FuncData} (F : Fun K "_law_plain_errors" "_law_plain_errors" sPlain f fd) (T : Tx K mg Cs S) : FnOk P w K mg base CX0 1 f fd ["words_here"] (spPlain Cs) := by
  refine F.ok scR (fun vs H Q E h => ?_) (fun cdv A outer s H vs Q E hr h => ?_)
  · obtain ⟨v, rfl, _⟩ := h
    rfl
  · obtain ⟨v, rfl, k⟩ := h
    refine ⟨_, (pss_cons (ps_set (i := 1) scR.nd rfl (Or.inl rfl) (pe_lst pa_nil))
      (pss_cons (ps_set (i := 1) scR.nd rfl (Or.inl rfl) (pe_op op_cat (pv 1) (pe_lst (pa_cons (pe_exc1 PySem.F.excBase_ValueError (T.pl 0 (by decide)) (T.gs 0 _ rfl) (T.kp 0 (by decide)) rfl (pv 0)) (pa_cons (pe_exc1 PySem.F.excBase_ValueError (T.pl 1 (by decide)) (T.gs 1 _ rfl) (T.kp 1 (by decide)) rfl (pv 0)) (pa_cons (pe_exc1 PySem.F.excBase_ValueError (T.pl 2 (by decide)) (T.gs 2 _ rfl) (T.kp 2 (by decide)) rfl (pv 0)) (pa_cons (pe_exc1 PySem.F.excBase_ValueError (T.pl 3 (by decide)) (T.gs 3 _ rfl) (T.kp 3 (by decide)) rfl (pv 0)) (pa_cons (pe_exc1 PySem.F.excBase_ValueError (T.pl 4 (by decide)) (T.gs 4 _ rfl) (T.kp 4 (by decide)) rfl (pv 0)) pa_nil))))))))
      (pss_cons (ps_set (i := 1) scR.nd rfl (Or.inl rfl) (pe_op op_cat (pv 1) (pe_lst (pa_cons (pe_exc1 PySem.F.excBase_ValueError (T.pl 5 (by decide)) (T.gs 5 _ rfl) (T.kp 5 (by decide)) rfl (pv 0)) (pa_cons (pe_exc1 PySem.F.excBase_ValueError (T.pl 6 (by decide)) (T.gs 6 _ rfl) (T.kp 6 (by decide)) rfl (pv 0)) (pa_cons (pe_exc1 PySem.F.excBase_ValueError (T.pl 7 (by decide)) (T.gs 7 _ rfl) (T.kp 7 (by decide)) rfl (pv 0)) (pa_cons (pe_exc1 PySem.F.excBase_ValueError (T.pl 8 (by decide)) (T.gs 8 _ rfl) (T.kp 8 (by decide)) rfl (pv 0)) (pa_cons (pe_exc1 PySem.F.excBase_ValueError (T.pl 9 (by decide)) (T.gs 9 _ rfl) (T.kp 9 (by decide)) rfl (pv 0)) pa_nil))))))))
      (pss_cons (ps_set (i := 1) scR.nd rfl (Or.inl rfl) (pe_op op_cat (pv 1) (pe_lst (pa_cons (pe_exc1 PySem.F.excBase_ValueError (T.pl 10 (by decide)) (T.gs 10 _ rfl) (T.kp 10 (by decide)) rfl (pv 0)) (pa_cons (pe_exc1 PySem.F.excBase_ValueError (T.pl 11 (by decide)) (T.gs 11 _ rfl) (T.kp 11 (by decide)) rfl (pv 0)) (pa_cons (pe_exc1 PySem.F.excBase_ValueError (T.pl 12 (by decide)) (T.gs 12 _ rfl) (T.kp 12 (by decide)) rfl (pv 0)) (pa_cons (pe_exc1 PySem.F.excBase_ValueError (T.pl 13 (by decide)) (T.gs 13 _ rfl) (T.kp 13 (by decide)) rfl (pv 0)) (pa_cons (pe_exc1 PySem.F.excBase_ValueError (T.pl 14 (by decide)) (T.gs 14 _ rfl) (T.kp 14 (by decide)) rfl (pv 0)) pa_nil))))))))
      (pss_cons (ps_set (i := 1) scR.nd rfl (Or.inl rfl) (pe_op op_cat (pv 1) (pe_lst (pa_cons (pe_exc1 PySem.F.excBase_ValueError (T.pl 15 (by decide)) (T.gs 15 _ rfl) (T.kp 15 (by decide)) rfl (pv 0)) (pa_cons (pe_exc1 PySem.F.excBase_ValueError (T.pl 16 (by decide)) (T.gs 16 _ rfl) (T.kp 16 (by decide)) rfl (pv 0)) (pa_cons (pe_exc1 PySem.F.excBase_ValueError (T.pl 17 (by decide)) (T.gs 17 _ rfl) (T.kp 17 (by decide)) rfl (pv 0)) (pa_cons (pe_exc1 PySem.F.excBase_ValueError (T.pl 18 (by decide)) (T.gs 18 _ rfl) (T.kp 18 (by decide)) rfl (pv 0)) (pa_cons (pe_exc1 PySem.F.excBase_ValueError (T.pl 19 (by decide)) (T.gs 19 _ rfl) (T.kp 19 (by decide)) rfl (pv 0)) pa_nil))))))))
      (pss_cons (ps_set (i := 1) scR.nd rfl (Or.inl rfl) (pe_op op_cat (pv 1) (pe_lst (pa_cons (pe_exc1 PySem.F.excBase_ValueError (T.pl 20 (by decide)) (T.gs 20 _ rfl) (T.kp 20 (by decide)) rfl (pv 0)) (pa_cons (pe_exc1 PySem.F.excBase_ValueError (T.pl 21 (by decide)) (T.gs 21 _ rfl) (T.kp 21 (by decide)) rfl (pv 0)) pa_nil)))))
      (pss_one (ps_ret (pv 1))))))))), ?_⟩
    refine ⟨Nat.zero_le _, fun p0 h0 => ?_⟩
    obtain ⟨H0, e0, a0, S0⟩ := new_at (.lst []) h0
    rw [e0]
    refine ⟨_, rfl, _, rfl, fun x0 h1 => ?_⟩
    obtain ⟨H1, e1, a1, S1⟩ := new_at (ExO (.ref (Cs.getD 0 0)) x0) h1
    rw [e1]
    refine ⟨_, rfl, fun x1 h2 => ?_⟩
    obtain ⟨H2, e2, a2, S2⟩ := new_at (ExO (.ref (Cs.getD 1 0)) x1) h2
    rw [e2]
    refine ⟨_, rfl, fun x2 h3 => ?_⟩
    obtain ⟨H3, e3, a3, S3⟩ := new_at (ExO (.ref (Cs.getD 2 0)) x2) h3
    rw [e3]
    refine ⟨_, rfl, fun x3 h4 => ?_⟩
    obtain ⟨H4, e4, a4, S4⟩ := new_at (ExO (.ref (Cs.getD 3 0)) x3) h4
    rw [e4]
    refine ⟨_, rfl, fun x4 h5 => ?_⟩
    obtain ⟨H5, e5, a5, S5⟩ := new_at (ExO (.ref (Cs.getD 4 0)) x4) h5
    rw [e5]
    refine ⟨by show 5 ≤ sizeLine; decide, fun q0 h6 => ?_⟩
    obtain ⟨H6, e6, a6, S6⟩ := new_at (.lst [.ref x0, .ref x1, .ref x2, .ref x3, .ref x4]) h6
    rw [e6]
    refine ⟨p0, q0, [], [.ref x0, .ref x1, .ref x2, .ref x3, .ref x4], rfl, rfl, (S6 _ _ (S5 _ _ (S4 _ _ (S3 _ _ (S2 _ _ (S1 _ _ a0)))))), a6, (by show 5 ≤ sizeLine; decide), fun p1 h7 => ?_⟩
    obtain ⟨H7, e7, a7, S7⟩ := new_at (.lst [.ref x0, .ref x1, .ref x2, .ref x3, .ref x4]) h7
    show gName _ _ _ (upd H6 p1 (.lst [.ref x0, .ref x1, .ref x2, .ref x3, .ref x4])) _
    rw [e7]
    refine ⟨_, rfl, _, rfl, fun x5 h8 => ?_⟩
    obtain ⟨H8, e8, a8, S8⟩ := new_at (ExO (.ref (Cs.getD 5 0)) x5) h8
    rw [e8]
    refine ⟨_, rfl, fun x6 h9 => ?_⟩
    obtain ⟨H9, e9, a9, S9⟩ := new_at (ExO (.ref (Cs.getD 6 0)) x6) h9
    rw [e9]
    refine ⟨_, rfl, fun x7 h10 => ?_⟩
    obtain ⟨H10, e10, a10, S10⟩ := new_at (ExO (.ref (Cs.getD 7 0)) x7) h10
    rw [e10]
    refine ⟨_, rfl, fun x8 h11 => ?_⟩
    obtain ⟨H11, e11, a11, S11⟩ := new_at (ExO (.ref (Cs.getD 8 0)) x8) h11
    rw [e11]
    refine ⟨_, rfl, fun x9 h12 => ?_⟩
    obtain ⟨H12, e12, a12, S12⟩ := new_at (ExO (.ref (Cs.getD 9 0)) x9) h12
    rw [e12]
    refine ⟨by show 5 ≤ sizeLine; decide, fun q1 h13 => ?_⟩
    obtain ⟨H13, e13, a13, S13⟩ := new_at (.lst [.ref x5, .ref x6, .ref x7, .ref x8, .ref x9]) h13
    rw [e13]
    refine ⟨p1, q1, [.ref x0, .ref x1, .ref x2, .ref x3, .ref x4], [.ref x5, .ref x6, .ref x7, .ref x8, .ref x9], rfl, rfl, (S13 _ _ (S12 _ _ (S11 _ _ (S10 _ _ (S9 _ _ (S8 _ _ a7)))))), a13, (by show 10 ≤ sizeLine; decide), fun p2 h14 => ?_⟩
    obtain ⟨H14, e14, a14, S14⟩ := new_at (.lst [.ref x0, .ref x1, .ref x2, .ref x3, .ref x4, .ref x5, .ref x6, .ref x7, .ref x8, .ref x9]) h14
    show gName _ _ _ (upd H13 p2 (.lst [.ref x0, .ref x1, .ref x2, .ref x3, .ref x4, .ref x5, .ref x6, .ref x7, .ref x8, .ref x9])) _
    rw [e14]
    refine ⟨_, rfl, _, rfl, fun x10 h15 => ?_⟩
    obtain ⟨H15, e15, a15, S15⟩ := new_at (ExO (.ref (Cs.getD 10 0)) x10) h15
    rw [e15]
    refine ⟨_, rfl, fun x11 h16 => ?_⟩
    obtain ⟨H16, e16, a16, S16⟩ := new_at (ExO (.ref (Cs.getD 11 0)) x11) h16
    rw [e16]
    refine ⟨_, rfl, fun x12 h17 => ?_⟩
    obtain ⟨H17, e17, a17, S17⟩ := new_at (ExO (.ref (Cs.getD 12 0)) x12) h17
    rw [e17]
    refine ⟨_, rfl, fun x13 h18 => ?_⟩
    obtain ⟨H18, e18, a18, S18⟩ := new_at (ExO (.ref (Cs.getD 13 0)) x13) h18
    rw [e18]
    refine ⟨_, rfl, fun x14 h19 => ?_⟩
    obtain ⟨H19, e19, a19, S19⟩ := new_at (ExO (.ref (Cs.getD 14 0)) x14) h19
    rw [e19]
    refine ⟨by show 5 ≤ sizeLine; decide, fun q2 h20 => ?_⟩
    obtain ⟨H20, e20, a20, S20⟩ := new_at (.lst [.ref x10, .ref x11, .ref x12, .ref x13, .ref x14]) h20
    rw [e20]
    refine ⟨p2, q2, [.ref x0, .ref x1, .ref x2, .ref x3, .ref x4, .ref x5, .ref x6, .ref x7, .ref x8, .ref x9], [.ref x10, .ref x11, .ref x12, .ref x13, .ref x14], rfl, rfl, (S20 _ _ (S19 _ _ (S18 _ _ (S17 _ _ (S16 _ _ (S15 _ _ a14)))))), a20, (by show 15 ≤ sizeLine; decide), fun p3 h21 => ?_⟩
    obtain ⟨H21, e21, a21, S21⟩ := new_at (.lst [.ref x0, .ref x1, .ref x2, .ref x3, .ref x4, .ref x5, .ref x6, .ref x7, .ref x8, .ref x9, .ref x10, .ref x11, .ref x12, .ref x13, .ref x14]) h21
    show gName _ _ _ (upd H20 p3 (.lst [.ref x0, .ref x1, .ref x2, .ref x3, .ref x4, .ref x5, .ref x6, .ref x7, .ref x8, .ref x9, .ref x10, .ref x11, .ref x12, .ref x13, .ref x14])) _
    rw [e21]
    refine ⟨_, rfl, _, rfl, fun x15 h22 => ?_⟩
    obtain ⟨H22, e22, a22, S22⟩ := new_at (ExO (.ref (Cs.getD 15 0)) x15) h22
    rw [e22]
    refine ⟨_, rfl, fun x16 h23 => ?_⟩
    obtain ⟨H23, e23, a23, S23⟩ := new_at (ExO (.ref (Cs.getD 16 0)) x16) h23
    rw [e23]
    refine ⟨_, rfl, fun x17 h24 => ?_⟩
    obtain ⟨H24, e24, a24, S24⟩ := new_at (ExO (.ref (Cs.getD 17 0)) x17) h24
    rw [e24]
    refine ⟨_, rfl, fun x18 h25 => ?_⟩
    obtain ⟨H25, e25, a25, S25⟩ := new_at (ExO (.ref (Cs.getD 18 0)) x18) h25
    rw [e25]
    refine ⟨_, rfl, fun x19 h26 => ?_⟩
    obtain ⟨H26, e26, a26, S26⟩ := new_at (ExO (.ref (Cs.getD 19 0)) x19) h26
    rw [e26]
    refine ⟨by show 5 ≤ sizeLine; decide, fun q3 h27 => ?_⟩
    obtain ⟨H27, e27, a27, S27⟩ := new_at (.lst [.ref x15, .ref x16, .ref x17, .ref x18, .ref x19]) h27
    rw [e27]
    refine ⟨p3, q3, [.ref x0, .ref x1, .ref x2, .ref x3, .ref x4, .ref x5, .ref x6, .ref x7, .ref x8, .ref x9, .ref x10, .ref x11, .ref x12, .ref x13, .ref x14], [.ref x15, .ref x16, .ref x17, .ref x18, .ref x19], rfl, rfl, (S27 _ _ (S26 _ _ (S25 _ _ (S24 _ _ (S23 _ _ (S22 _ _ a21)))))), a27, (by show 20 ≤ sizeLine; decide), fun p4 h28 => ?_⟩
    obtain ⟨H28, e28, a28, S28⟩ := new_at (.lst [.ref x0, .ref x1, .ref x2, .ref x3, .ref x4, .ref x5, .ref x6, .ref x7, .ref x8, .ref x9, .ref x10, .ref x11, .ref x12, .ref x13, .ref x14, .ref x15, .ref x16, .ref x17, .ref x18, .ref x19]) h28
    show gName _ _ _ (upd H27 p4 (.lst [.ref x0, .ref x1, .ref x2, .ref x3, .ref x4, .ref x5, .ref x6, .ref x7, .ref x8, .ref x9, .ref x10, .ref x11, .ref x12, .ref x13, .ref x14, .ref x15, .ref x16, .ref x17, .ref x18, .ref x19])) _
    rw [e28]
    refine ⟨_, rfl, _, rfl, fun x20 h29 => ?_⟩
    obtain ⟨H29, e29, a29, S29⟩ := new_at (ExO (.ref (Cs.getD 20 0)) x20) h29
    rw [e29]
    refine ⟨_, rfl, fun x21 h30 => ?_⟩
    obtain ⟨H30, e30, a30, S30⟩ := new_at (ExO (.ref (Cs.getD 21 0)) x21) h30
    rw [e30]
    refine ⟨by show 2 ≤ sizeLine; decide, fun q4 h31 => ?_⟩
    obtain ⟨H31, e31, a31, S31⟩ := new_at (.lst [.ref x20, .ref x21]) h31
    rw [e31]
    refine ⟨p4, q4, [.ref x0, .ref x1, .ref x2, .ref x3, .ref x4, .ref x5, .ref x6, .ref x7, .ref x8, .ref x9, .ref x10, .ref x11, .ref x12, .ref x13, .ref x14, .ref x15, .ref x16, .ref x17, .ref x18, .ref x19], [.ref x20, .ref x21], rfl, rfl, (S31 _ _ (S30 _ _ (S29 _ _ a28))), a31, (by show 22 ≤ sizeLine; decide), fun p5 h32 => ?_⟩
    obtain ⟨H32, e32, a32, S32⟩ := new_at (.lst [.ref x0, .ref x1, .ref x2, .ref x3, .ref x4, .ref x5, .ref x6, .ref x7, .ref x8, .ref x9, .ref x10, .ref x11, .ref x12, .ref x13, .ref x14, .ref x15, .ref x16, .ref x17, .ref x18, .ref x19, .ref x20, .ref x21]) h32
    show gName _ _ _ (upd H31 p5 (.lst [.ref x0, .ref x1, .ref x2, .ref x3, .ref x4, .ref x5, .ref x6, .ref x7, .ref x8, .ref x9, .ref x10, .ref x11, .ref x12, .ref x13, .ref x14, .ref x15, .ref x16, .ref x17, .ref x18, .ref x19, .ref x20, .ref x21])) _
    rw [e32]
    have T32 : Same H32 H32 := Same.refl _
    have T31 : Same H31 H32 := S32.trans T32
    have T30 : Same H30 H32 := S31.trans T31
    have T29 : Same H29 H32 := S30.trans T30
    have T28 : Same H28 H32 := S29.trans T29
    have T27 : Same H27 H32 := S28.trans T28
    have T26 : Same H26 H32 := S27.trans T27
    have T25 : Same H25 H32 := S26.trans T26
    have T24 : Same H24 H32 := S25.trans T25
    have T23 : Same H23 H32 := S24.trans T24
    have T22 : Same H22 H32 := S23.trans T23
    have T21 : Same H21 H32 := S22.trans T22
    have T20 : Same H20 H32 := S21.trans T21
    have T19 : Same H19 H32 := S20.trans T20
    have T18 : Same H18 H32 := S19.trans T19
    have T17 : Same H17 H32 := S18.trans T18
    have T16 : Same H16 H32 := S17.trans T17
    have T15 : Same H15 H32 := S16.trans T16
    have T14 : Same H14 H32 := S15.trans T15
    have T13 : Same H13 H32 := S14.trans T14
    have T12 : Same H12 H32 := S13.trans T13
    have T11 : Same H11 H32 := S12.trans T12
    have T10 : Same H10 H32 := S11.trans T11
    have T9 : Same H9 H32 := S10.trans T10
    have T8 : Same H8 H32 := S9.trans T9
    have T7 : Same H7 H32 := S8.trans T8
    have T6 : Same H6 H32 := S7.trans T7
    have T5 : Same H5 H32 := S6.trans T6
    have T4 : Same H4 H32 := S5.trans T5
    have T3 : Same H3 H32 := S4.trans T4
    have T2 : Same H2 H32 := S3.trans T3
    have T1 : Same H1 H32 := S2.trans T2
    have T0 : Same H0 H32 := S1.trans T1
    have TT : Same H H32 := S0.trans T0
    have U0 : Same H H0 := S0
    have U1 : Same H H1 := U0.trans S1
    have U2 : Same H H2 := U1.trans S2
    have U3 : Same H H3 := U2.trans S3
    have U4 : Same H H4 := U3.trans S4
    have U5 : Same H H5 := U4.trans S5
    have U6 : Same H H6 := U5.trans S6
    have U7 : Same H H7 := U6.trans S7
    have U8 : Same H H8 := U7.trans S8
    have U9 : Same H H9 := U8.trans S9
    have U10 : Same H H10 := U9.trans S10
    have U11 : Same H H11 := U10.trans S11
    have U12 : Same H H12 := U11.trans S12
    have U13 : Same H H13 := U12.trans S13
    have U14 : Same H H14 := U13.trans S14
    have U15 : Same H H15 := U14.trans S15
    have U16 : Same H H16 := U15.trans S16
    have U17 : Same H H17 := U16.trans S17
    have U18 : Same H H18 := U17.trans S18
    have U19 : Same H H19 := U18.trans S19
    have U20 : Same H H20 := U19.trans S20
    have U21 : Same H H21 := U20.trans S21
    have U22 : Same H H22 := U21.trans S22
    have U23 : Same H H23 := U22.trans S23
    have U24 : Same H H24 := U23.trans S24
    have U25 : Same H H25 := U24.trans S25
    have U26 : Same H H26 := U25.trans S26
    have U27 : Same H H27 := U26.trans S27
    have U28 : Same H H28 := U27.trans S28
    have U29 : Same H H29 := U28.trans S29
    have U30 : Same H H30 := U29.trans S30
    have U31 : Same H H31 := U30.trans S31
    refine ⟨_, rfl, k p5 [x0, x1, x2, x3, x4, x5, x6, x7, x8, x9, x10, x11, x12, x13, x14, x15, x16, x17, x18, x19, x20, x21] H32 rfl TT (U31.free h32) a32 ?_⟩
    intro i hi
    match i, hi with
    | 0, _ => exact .inl (T1 _ _ a1)
    | 1, _ => exact .inl (T2 _ _ a2)
    | 2, _ => exact .inl (T3 _ _ a3)
    | 3, _ => exact .inl (T4 _ _ a4)
    | 4, _ => exact .inl (T5 _ _ a5)
    | 5, _ => exact .inl (T8 _ _ a8)
    | 6, _ => exact .inl (T9 _ _ a9)
    | 7, _ => exact .inl (T10 _ _ a10)
    | 8, _ => exact .inl (T11 _ _ a11)
    | 9, _ => exact .inl (T12 _ _ a12)
    | 10, _ => exact .inl (T15 _ _ a15)
    | 11, _ => exact .inl (T16 _ _ a16)
    | 12, _ => exact .inl (T17 _ _ a17)
    | 13, _ => exact .inl (T18 _ _ a18)
    | 14, _ => exact .inl (T19 _ _ a19)
    | 15, _ => exact .inl (T22 _ _ a22)
    | 16, _ => exact .inl (T23 _ _ a23)
    | 17, _ => exact .inl (T24 _ _ a24)
    | 18, _ => exact .inl (T25 _ _ a25)
    | 19, _ => exact .inl (T26 _ _ a26)
    | 20, _ => exact .inl (T29 _ _ a29)
    | 21, _ => exact .inl (T30 _ _ a30)
    | n + 22, hi => omega
/-- the heap behind a made error -/
theorem ox_at {H : Hp} {a C dx : Addr} {f : Str} {v : V} (ha : H a = none) (hd : (upd H a (exo a C none)) dx = none) (ne : dx ≠ a) : ∃ H', upd (upd (upd H a (exo a C none)) dx (exd dx [(f, v)])) a (exo a C (some dx)) = H' ∧ H' a = some (exo a C (some dx)) ∧ H' dx = some (exd dx [(f, v)]) ∧ Same H H' := by
  refine ⟨_, rfl, upd_same, by rw [upd_ne ne, upd_same], fun b o e => ?_⟩
  have n1 := ne_of_none e ha
  rw [upd_ne n1]
  have : b ≠ dx := fun z => by rw [← z, upd_ne n1] at hd; rw [hd] at e; cases e
  rw [upd_ne this, upd_ne n1]
  exact e
theorem lk1 (f : Str) (v : V) : List.lookup f [(f, v)] = some v := by simp [List.lookup]

theorem kb_0 {f : Addr} {fd : FuncData} (F : Fun K "__init__" "BadNumber.__init__" sI0 f fd) : KBn K fd ["self", "part"] 1 ["part"] (fun us ws => us ++ ws) (fun us ws => us ++ ws) := by
  obtain ⟨oc, od, kV, doc, pm, an, cdv, ct, osl, rfl, lk, hcd⟩ := F.ex
  exact ⟨fun s us ws _ h1 h2 => match us, ws, h1, h2 with | [u], [w], _, _ => BindsTo.of_eq rfl, fun r1 r2 => r1.append r2⟩
theorem kb_1 {f : Addr} {fd : FuncData} (F : Fun K "__init__" "BadHouse.__init__" sI1 f fd) : KBn K fd ["self", "part"] 1 ["part"] (fun us ws => us ++ ws) (fun us ws => us ++ ws) := by
  obtain ⟨oc, od, kV, doc, pm, an, cdv, ct, osl, rfl, lk, hcd⟩ := F.ex
  exact ⟨fun s us ws _ h1 h2 => match us, ws, h1, h2 with | [u], [w], _, _ => BindsTo.of_eq rfl, fun r1 r2 => r1.append r2⟩
theorem kb_2 {f : Addr} {fd : FuncData} (F : Fun K "__init__" "TooMany.__init__" sI2 f fd) : KBn K fd ["self", "most"] 1 ["most"] (fun us ws => us ++ ws) (fun us ws => us ++ ws) := by
  obtain ⟨oc, od, kV, doc, pm, an, cdv, ct, osl, rfl, lk, hcd⟩ := F.ex
  exact ⟨fun s us ws _ h1 h2 => match us, ws, h1, h2 with | [u], [w], _, _ => BindsTo.of_eq rfl, fun r1 r2 => r1.append r2⟩
theorem kb_3 {f : Addr} {fd : FuncData} (F : Fun K "__init__" "NoMark.__init__" sI3 f fd) : KBn K fd ["self", "name"] 1 ["name"] (fun us ws => us ++ ws) (fun us ws => us ++ ws) := by
  obtain ⟨oc, od, kV, doc, pm, an, cdv, ct, osl, rfl, lk, hcd⟩ := F.ex
  exact ⟨fun s us ws _ h1 h2 => match us, ws, h1, h2 with | [u], [w], _, _ => BindsTo.of_eq rfl, fun r1 r2 => r1.append r2⟩
theorem kb_4 {f : Addr} {fd : FuncData} (F : Fun K "__init__" "NoWatch.__init__" sI4 f fd) : KBn K fd ["self", "name"] 1 ["name"] (fun us ws => us ++ ws) (fun us ws => us ++ ws) := by
  obtain ⟨oc, od, kV, doc, pm, an, cdv, ct, osl, rfl, lk, hcd⟩ := F.ex
  exact ⟨fun s us ws _ h1 h2 => match us, ws, h1, h2 with | [u], [w], _, _ => BindsTo.of_eq rfl, fun r1 r2 => r1.append r2⟩
theorem kb_5 {f : Addr} {fd : FuncData} (F : Fun K "__init__" "BadText.__init__" sI5 f fd) : KBn K fd ["self", "at"] 1 ["at"] (fun us ws => us ++ ws) (fun us ws => us ++ ws) := by
  obtain ⟨oc, od, kV, doc, pm, an, cdv, ct, osl, rfl, lk, hcd⟩ := F.ex
  exact ⟨fun s us ws _ h1 h2 => match us, ws, h1, h2 with | [u], [w], _, _ => BindsTo.of_eq rfl, fun r1 r2 => r1.append r2⟩
/-- the errors with an attribute -/
def spOf (Cs : List Addr) : Sp := fun vs H Q _ => ∃ v : V, vs = [v] ∧ ∀ (p : Addr) (ts es : List Addr) H', ts.length = 6 → es.length = 6 → Same H H' → H p = none → H' p = some (.lst (ts.map V.ref)) →
  (∀ i, i < 6 → H' (ts.getD i 0) = some (.tup [.ref (es.getD i 0), v, v]) ∧ ErrAt H' (es.getD i 0) (Cs.getD (22 + i) 0)) → Q (.ref p) H'
/-- the six __init__ -/
structure Inits (K : PySem.W.Frag) (Cs : List Addr) (fi : Nat → Addr) (fdi : Nat → FuncData) : Prop where
  iC : ∀ i, i < 6 → PySem.W.findIn K (.ref (Cs.getD (22 + i) 0)) "__init__" = some (some (.ref (fi i)))
  tI : ∀ i, i < 6 → PySem.W.typeIn K (.ref (fi i)) = some (.type "function")
  F0 : Fun K "__init__" "BadNumber.__init__" sI0 (fi 0) (fdi 0)
  F1 : Fun K "__init__" "BadHouse.__init__" sI1 (fi 1) (fdi 1)
  F2 : Fun K "__init__" "TooMany.__init__" sI2 (fi 2) (fdi 2)
  F3 : Fun K "__init__" "NoMark.__init__" sI3 (fi 3) (fdi 3)
  F4 : Fun K "__init__" "NoWatch.__init__" sI4 (fi 4) (fdi 4)
  F5 : Fun K "__init__" "BadText.__init__" sI5 (fi 5) (fdi 5)
theorem ext_lst {φ : Heap → Prop} {xs : List V} : HO.ext φ ≠ .lst xs := fun z => by cases z
theorem _root_.L2.ErrAt.sameX {H H' : Hp} {a C p : Addr} {xs : List V} (E : ErrAt H a C) (S : SameX p H H') (hp : H p = some (.lst xs)) : ErrAt H' a C := by
  rcases E with E | ⟨d, fs, h1, h2⟩
  · exact .inl (S _ _ E (ne_of E hp ext_lst))
  · exact .inr ⟨d, fs, S _ _ h1 (ne_of h1 hp ext_lst), S _ _ h2 (ne_of h2 hp ext_lst)⟩
/-- k of the six stand in the list at p -/
structure OfAt (Cs : List Addr) (H0 : Hp) (v : V) (p : Addr) (k : Nat) (H : Hp) : Prop where
  ex : ∃ ts es : List Addr, ts.length = k ∧ es.length = k ∧ H p = some (.lst (ts.map V.ref)) ∧ ∀ i, i < k → H (ts.getD i 0) = some (.tup [.ref (es.getD i 0), v, v]) ∧ ErrAt H (es.getD i 0) (Cs.getD (22 + i) 0)
  sm : Same H0 H
  nw : H0 p = none
  sz : k ≤ 6
theorem OfAt.app {H0 H1 H2 : Hp} {v : V} {p t e : Addr} {k : Nat} (O : OfAt Cs H0 v p k H1) (hk : k < 6) (S : Same H1 H2) (ht : H2 t = some (.tup [.ref e, v, v])) (he : ErrAt H2 e (Cs.getD (22 + k) 0)) :
    ∃ xs : List V, H2 p = some (.lst xs) ∧ xs.length < sizeLine ∧ OfAt Cs H0 v p (k + 1) (upd H2 p (.lst (xs ++ [.ref t]))) := by
  obtain ⟨⟨ts, es, l1, l2, hp, hi⟩, sm, nw, sz⟩ := O
  have hp2 := S _ _ hp
  have X : SameX p H2 (upd H2 p (.lst (ts.map V.ref ++ [.ref t]))) := fun b o e n => by rw [upd_ne n]; exact e
  refine ⟨_, hp2, small1000 (by rw [List.length_map, l1]; omega), ⟨ts ++ [t], es ++ [e], by simp [l1], by simp [l2], by rw [upd_same, List.map_append]; rfl, fun i h => ?_⟩, fun b o q => ?_, nw, hk⟩
  · by_cases c : i < k
    · obtain ⟨g1, g2⟩ := hi i c
      have e1 : (ts ++ [t]).getD i 0 = ts.getD i 0 := by simp [List.getD_eq_getElem?_getD, List.getElem?_append_left (show i < ts.length by omega)]
      have e2 : (es ++ [e]).getD i 0 = es.getD i 0 := by simp [List.getD_eq_getElem?_getD, List.getElem?_append_left (show i < es.length by omega)]
      rw [e1, e2]
      exact ⟨X _ _ (S _ _ g1) (ne_of (S _ _ g1) hp2 (fun z => by cases z)), (g2.same S).sameX X hp2⟩
    · have ik : i = k := by omega
      subst ik
      have e1 : (ts ++ [t]).getD i 0 = t := by simp [List.getD_eq_getElem?_getD, ← l1]
      have e2 : (es ++ [e]).getD i 0 = e := by simp [List.getD_eq_getElem?_getD, ← l2]
      rw [e1, e2]
      exact ⟨X _ _ ht (ne_of ht hp2 (fun z => by cases z)), he.sameX X hp2⟩
  · have n : b ≠ p := ne_of_none q nw
    exact X _ _ (S _ _ (sm _ _ q)) n
/-- one of the six rows -/
def tOf (Cs : List Addr) (k : Nat) : TS := fun D σ H => ∃ (H0 : Hp) (v : V) (p : Addr), σ = [some v, some (.ref p)] ∧ OfAt Cs H0 v p k H ∧ ∀ H', OfAt Cs H0 v p (k + 1) H' → D.nx σ H'
theorem ps_weak {X : Cx} {st : Stmt} {t t' : TS} (h : PS X st t) (i : ∀ D σ H, t' D σ H → t D σ H) : PS X st t' := ⟨fun pins s σ H D I q => h.run pins s σ H D I (i _ _ _ q)⟩
theorem scO : FnScope ["each", "found"] ["each"] (defScope sOf) := ⟨rfl, rfl, rfl, by decide +kernel, rfl, by decide +kernel, by decide +kernel⟩

theorem of_0 {f : Addr} {fi : Nat → Addr} {fdi : Nat → FuncData} {cdv : Value} {A : Around} {outer : List Env} {s : Shared} {H : Hp} {E : XK} (T : Tx K mg Cs S) (I : Inits K Cs fi fdi) (hr : Room 2 (A.deeper (PyProof.Rows.envOfC "_law_errors_of" (defScope sOf) s.heap.objs.size f cdv))) :
    PS (cxOf CX0 P w K mg base ["each", "found"] "_law_errors_of" (defScope sOf) f cdv A outer s H E).nox ((defBody sOf).getD 1 (.Pass ⟨0, 0, 0, 0⟩)) (tOf Cs 0) := by
  have G : FnOk P w K mg base CX0 1 (fi 0) (fdi 0) ["self", "part"] (spI "part" (Cs.getD 22 0)) := ok_I0 I.F0 T
  have B : Binds K (fdi 0) ["self", "part"] [] := I.F0.binds fun _ _ _ _ _ _ us hl => match us, hl with | [_, _], _ => rfl
  have kb := kb_0 I.F0
  refine ps_weak (ps_expr (pe_bm PySem.F.plainAttrs_list PySem.F.slot_list_append PySem.F.type_list_append mt_append (pv 1) (pa_cons (pe_tup (pa_cons (pe_oexV (T.ox 22 (by decide) (by decide)) (I.iC 0 (by decide)) (I.tI 0 (by decide)) G hr B pass0 rfl (T.gs 22 _ rfl) (pa_cons (pv 0) pa_nil)) (pa_cons (pe_xfo (pe_oexV (T.ox 22 (by decide) (by decide)) (I.iC 0 (by decide)) (I.tI 0 (by decide)) G hr B pass0 rfl (T.gs 22 _ rfl) (pa_cons (pv 0) pa_nil))) (pa_cons (pe_xfo (pe_oexK (T.ox 22 (by decide) (by decide)) (I.iC 0 (by decide)) (I.tI 0 (by decide)) G hr kb pass0 rfl (T.gs 22 _ rfl) (pk_cons (pv 0) pk_nil))) pa_nil)))) pa_nil))) ?_
  rintro D σ H ⟨H0, v, p, rfl, O, k⟩
  obtain ⟨⟨ts, es, l1, l2, hp, hi⟩, sm, nw, sz⟩ := id O
  refine ⟨_, rfl, .inl ⟨rfl, _, SqL.of hp⟩, _, rfl, (by show 1 ≤ 1000; decide), fun x1 h1 => ⟨x1, v, rfl, upd_same, fun y1 g1 n1 => ⟨rfl, ?_⟩⟩⟩
  obtain ⟨H1, e1, a1, b1, S1⟩ := ox_at (C := Cs.getD 22 0) (f := "part") (v := v) h1 g1 n1
  rw [e1]
  refine ⟨_, rfl, (by show 1 ≤ 1000; decide), fun x2 h2 => ⟨x2, v, rfl, upd_same, fun y2 g2 n2 => ⟨rfl, ?_⟩⟩⟩
  obtain ⟨H2, e2, a2, b2, S2⟩ := ox_at (C := Cs.getD 22 0) (f := "part") (v := v) h2 g2 n2
  rw [e2]
  refine ⟨x2, Cs.getD 22 0, y2, _, v, rfl, T.xf 22 (by decide) (by decide), T.nof 22 _ (by decide) (by decide) rfl, a2, b2, lk1 _ _, ?_⟩
  refine ⟨_, rfl, rfl, fun x3 h3 => ⟨x3, v, rfl, upd_same, fun y3 g3 n3 => ⟨rfl, ?_⟩⟩⟩
  obtain ⟨H3, e3, a3, b3, S3⟩ := ox_at (C := Cs.getD 22 0) (f := "part") (v := v) h3 g3 n3
  rw [e3]
  refine ⟨x3, Cs.getD 22 0, y3, _, v, rfl, T.xf 22 (by decide) (by decide), T.nof 22 _ (by decide) (by decide) rfl, a3, b3, lk1 _ _, ?_⟩
  refine ⟨by show 3 ≤ sizeLine; decide, fun t h4 => ?_⟩
  obtain ⟨H4, e4, a4, S4⟩ := new_at (.tup [.ref x1, v, v]) h4
  rw [e4]
  obtain ⟨xs, q1, q2, q3⟩ := O.app (by decide) (((S1.trans S2).trans S3).trans S4) a4 ((ErrAt.same (.inr ⟨y1, _, a1, b1⟩) S2).same (S3.trans S4))
  exact ⟨p, xs, .ref t, rfl, rfl, q1, q2, k _ q3⟩
theorem of_1 {f : Addr} {fi : Nat → Addr} {fdi : Nat → FuncData} {cdv : Value} {A : Around} {outer : List Env} {s : Shared} {H : Hp} {E : XK} (T : Tx K mg Cs S) (I : Inits K Cs fi fdi) (hr : Room 2 (A.deeper (PyProof.Rows.envOfC "_law_errors_of" (defScope sOf) s.heap.objs.size f cdv))) :
    PS (cxOf CX0 P w K mg base ["each", "found"] "_law_errors_of" (defScope sOf) f cdv A outer s H E).nox ((defBody sOf).getD 2 (.Pass ⟨0, 0, 0, 0⟩)) (tOf Cs 1) := by
  have G : FnOk P w K mg base CX0 1 (fi 1) (fdi 1) ["self", "part"] (spI "part" (Cs.getD 23 0)) := ok_I1 I.F1 T
  have B : Binds K (fdi 1) ["self", "part"] [] := I.F1.binds fun _ _ _ _ _ _ us hl => match us, hl with | [_, _], _ => rfl
  have kb := kb_1 I.F1
  refine ps_weak (ps_expr (pe_bm PySem.F.plainAttrs_list PySem.F.slot_list_append PySem.F.type_list_append mt_append (pv 1) (pa_cons (pe_tup (pa_cons (pe_oexV (T.ox 23 (by decide) (by decide)) (I.iC 1 (by decide)) (I.tI 1 (by decide)) G hr B pass0 rfl (T.gs 23 _ rfl) (pa_cons (pv 0) pa_nil)) (pa_cons (pe_xfo (pe_oexV (T.ox 23 (by decide) (by decide)) (I.iC 1 (by decide)) (I.tI 1 (by decide)) G hr B pass0 rfl (T.gs 23 _ rfl) (pa_cons (pv 0) pa_nil))) (pa_cons (pe_xfo (pe_oexK (T.ox 23 (by decide) (by decide)) (I.iC 1 (by decide)) (I.tI 1 (by decide)) G hr kb pass0 rfl (T.gs 23 _ rfl) (pk_cons (pv 0) pk_nil))) pa_nil)))) pa_nil))) ?_
  rintro D σ H ⟨H0, v, p, rfl, O, k⟩
  obtain ⟨⟨ts, es, l1, l2, hp, hi⟩, sm, nw, sz⟩ := id O
  refine ⟨_, rfl, .inl ⟨rfl, _, SqL.of hp⟩, _, rfl, (by show 1 ≤ 1000; decide), fun x1 h1 => ⟨x1, v, rfl, upd_same, fun y1 g1 n1 => ⟨rfl, ?_⟩⟩⟩
  obtain ⟨H1, e1, a1, b1, S1⟩ := ox_at (C := Cs.getD 23 0) (f := "part") (v := v) h1 g1 n1
  rw [e1]
  refine ⟨_, rfl, (by show 1 ≤ 1000; decide), fun x2 h2 => ⟨x2, v, rfl, upd_same, fun y2 g2 n2 => ⟨rfl, ?_⟩⟩⟩
  obtain ⟨H2, e2, a2, b2, S2⟩ := ox_at (C := Cs.getD 23 0) (f := "part") (v := v) h2 g2 n2
  rw [e2]
  refine ⟨x2, Cs.getD 23 0, y2, _, v, rfl, T.xf 23 (by decide) (by decide), T.nof 23 _ (by decide) (by decide) rfl, a2, b2, lk1 _ _, ?_⟩
  refine ⟨_, rfl, rfl, fun x3 h3 => ⟨x3, v, rfl, upd_same, fun y3 g3 n3 => ⟨rfl, ?_⟩⟩⟩
  obtain ⟨H3, e3, a3, b3, S3⟩ := ox_at (C := Cs.getD 23 0) (f := "part") (v := v) h3 g3 n3
  rw [e3]
  refine ⟨x3, Cs.getD 23 0, y3, _, v, rfl, T.xf 23 (by decide) (by decide), T.nof 23 _ (by decide) (by decide) rfl, a3, b3, lk1 _ _, ?_⟩
  refine ⟨by show 3 ≤ sizeLine; decide, fun t h4 => ?_⟩
  obtain ⟨H4, e4, a4, S4⟩ := new_at (.tup [.ref x1, v, v]) h4
  rw [e4]
  obtain ⟨xs, q1, q2, q3⟩ := O.app (by decide) (((S1.trans S2).trans S3).trans S4) a4 ((ErrAt.same (.inr ⟨y1, _, a1, b1⟩) S2).same (S3.trans S4))
  exact ⟨p, xs, .ref t, rfl, rfl, q1, q2, k _ q3⟩
theorem of_2 {f : Addr} {fi : Nat → Addr} {fdi : Nat → FuncData} {cdv : Value} {A : Around} {outer : List Env} {s : Shared} {H : Hp} {E : XK} (T : Tx K mg Cs S) (I : Inits K Cs fi fdi) (hr : Room 2 (A.deeper (PyProof.Rows.envOfC "_law_errors_of" (defScope sOf) s.heap.objs.size f cdv))) :
    PS (cxOf CX0 P w K mg base ["each", "found"] "_law_errors_of" (defScope sOf) f cdv A outer s H E).nox ((defBody sOf).getD 3 (.Pass ⟨0, 0, 0, 0⟩)) (tOf Cs 2) := by
  have G : FnOk P w K mg base CX0 1 (fi 2) (fdi 2) ["self", "most"] (spI "most" (Cs.getD 24 0)) := ok_I2 I.F2 T
  have B : Binds K (fdi 2) ["self", "most"] [] := I.F2.binds fun _ _ _ _ _ _ us hl => match us, hl with | [_, _], _ => rfl
  have kb := kb_2 I.F2
  refine ps_weak (ps_expr (pe_bm PySem.F.plainAttrs_list PySem.F.slot_list_append PySem.F.type_list_append mt_append (pv 1) (pa_cons (pe_tup (pa_cons (pe_oexV (T.ox 24 (by decide) (by decide)) (I.iC 2 (by decide)) (I.tI 2 (by decide)) G hr B pass0 rfl (T.gs 24 _ rfl) (pa_cons (pv 0) pa_nil)) (pa_cons (pe_xfo (pe_oexV (T.ox 24 (by decide) (by decide)) (I.iC 2 (by decide)) (I.tI 2 (by decide)) G hr B pass0 rfl (T.gs 24 _ rfl) (pa_cons (pv 0) pa_nil))) (pa_cons (pe_xfo (pe_oexK (T.ox 24 (by decide) (by decide)) (I.iC 2 (by decide)) (I.tI 2 (by decide)) G hr kb pass0 rfl (T.gs 24 _ rfl) (pk_cons (pv 0) pk_nil))) pa_nil)))) pa_nil))) ?_
  rintro D σ H ⟨H0, v, p, rfl, O, k⟩
  obtain ⟨⟨ts, es, l1, l2, hp, hi⟩, sm, nw, sz⟩ := id O
  refine ⟨_, rfl, .inl ⟨rfl, _, SqL.of hp⟩, _, rfl, (by show 1 ≤ 1000; decide), fun x1 h1 => ⟨x1, v, rfl, upd_same, fun y1 g1 n1 => ⟨rfl, ?_⟩⟩⟩
  obtain ⟨H1, e1, a1, b1, S1⟩ := ox_at (C := Cs.getD 24 0) (f := "most") (v := v) h1 g1 n1
  rw [e1]
  refine ⟨_, rfl, (by show 1 ≤ 1000; decide), fun x2 h2 => ⟨x2, v, rfl, upd_same, fun y2 g2 n2 => ⟨rfl, ?_⟩⟩⟩
  obtain ⟨H2, e2, a2, b2, S2⟩ := ox_at (C := Cs.getD 24 0) (f := "most") (v := v) h2 g2 n2
  rw [e2]
  refine ⟨x2, Cs.getD 24 0, y2, _, v, rfl, T.xf 24 (by decide) (by decide), T.nof 24 _ (by decide) (by decide) rfl, a2, b2, lk1 _ _, ?_⟩
  refine ⟨_, rfl, rfl, fun x3 h3 => ⟨x3, v, rfl, upd_same, fun y3 g3 n3 => ⟨rfl, ?_⟩⟩⟩
  obtain ⟨H3, e3, a3, b3, S3⟩ := ox_at (C := Cs.getD 24 0) (f := "most") (v := v) h3 g3 n3
  rw [e3]
  refine ⟨x3, Cs.getD 24 0, y3, _, v, rfl, T.xf 24 (by decide) (by decide), T.nof 24 _ (by decide) (by decide) rfl, a3, b3, lk1 _ _, ?_⟩
  refine ⟨by show 3 ≤ sizeLine; decide, fun t h4 => ?_⟩
  obtain ⟨H4, e4, a4, S4⟩ := new_at (.tup [.ref x1, v, v]) h4
  rw [e4]
  obtain ⟨xs, q1, q2, q3⟩ := O.app (by decide) (((S1.trans S2).trans S3).trans S4) a4 ((ErrAt.same (.inr ⟨y1, _, a1, b1⟩) S2).same (S3.trans S4))
  exact ⟨p, xs, .ref t, rfl, rfl, q1, q2, k _ q3⟩
theorem of_3 {f : Addr} {fi : Nat → Addr} {fdi : Nat → FuncData} {cdv : Value} {A : Around} {outer : List Env} {s : Shared} {H : Hp} {E : XK} (T : Tx K mg Cs S) (I : Inits K Cs fi fdi) (hr : Room 2 (A.deeper (PyProof.Rows.envOfC "_law_errors_of" (defScope sOf) s.heap.objs.size f cdv))) :
    PS (cxOf CX0 P w K mg base ["each", "found"] "_law_errors_of" (defScope sOf) f cdv A outer s H E).nox ((defBody sOf).getD 4 (.Pass ⟨0, 0, 0, 0⟩)) (tOf Cs 3) := by
  have G : FnOk P w K mg base CX0 1 (fi 3) (fdi 3) ["self", "name"] (spI "name" (Cs.getD 25 0)) := ok_I3 I.F3 T
  have B : Binds K (fdi 3) ["self", "name"] [] := I.F3.binds fun _ _ _ _ _ _ us hl => match us, hl with | [_, _], _ => rfl
  have kb := kb_3 I.F3
  refine ps_weak (ps_expr (pe_bm PySem.F.plainAttrs_list PySem.F.slot_list_append PySem.F.type_list_append mt_append (pv 1) (pa_cons (pe_tup (pa_cons (pe_oexV (T.ox 25 (by decide) (by decide)) (I.iC 3 (by decide)) (I.tI 3 (by decide)) G hr B pass0 rfl (T.gs 25 _ rfl) (pa_cons (pv 0) pa_nil)) (pa_cons (pe_xfo (pe_oexV (T.ox 25 (by decide) (by decide)) (I.iC 3 (by decide)) (I.tI 3 (by decide)) G hr B pass0 rfl (T.gs 25 _ rfl) (pa_cons (pv 0) pa_nil))) (pa_cons (pe_xfo (pe_oexK (T.ox 25 (by decide) (by decide)) (I.iC 3 (by decide)) (I.tI 3 (by decide)) G hr kb pass0 rfl (T.gs 25 _ rfl) (pk_cons (pv 0) pk_nil))) pa_nil)))) pa_nil))) ?_
  rintro D σ H ⟨H0, v, p, rfl, O, k⟩
  obtain ⟨⟨ts, es, l1, l2, hp, hi⟩, sm, nw, sz⟩ := id O
  refine ⟨_, rfl, .inl ⟨rfl, _, SqL.of hp⟩, _, rfl, (by show 1 ≤ 1000; decide), fun x1 h1 => ⟨x1, v, rfl, upd_same, fun y1 g1 n1 => ⟨rfl, ?_⟩⟩⟩
  obtain ⟨H1, e1, a1, b1, S1⟩ := ox_at (C := Cs.getD 25 0) (f := "name") (v := v) h1 g1 n1
  rw [e1]
  refine ⟨_, rfl, (by show 1 ≤ 1000; decide), fun x2 h2 => ⟨x2, v, rfl, upd_same, fun y2 g2 n2 => ⟨rfl, ?_⟩⟩⟩
  obtain ⟨H2, e2, a2, b2, S2⟩ := ox_at (C := Cs.getD 25 0) (f := "name") (v := v) h2 g2 n2
  rw [e2]
  refine ⟨x2, Cs.getD 25 0, y2, _, v, rfl, T.xf 25 (by decide) (by decide), T.nof 25 _ (by decide) (by decide) rfl, a2, b2, lk1 _ _, ?_⟩
  refine ⟨_, rfl, rfl, fun x3 h3 => ⟨x3, v, rfl, upd_same, fun y3 g3 n3 => ⟨rfl, ?_⟩⟩⟩
  obtain ⟨H3, e3, a3, b3, S3⟩ := ox_at (C := Cs.getD 25 0) (f := "name") (v := v) h3 g3 n3
  rw [e3]
  refine ⟨x3, Cs.getD 25 0, y3, _, v, rfl, T.xf 25 (by decide) (by decide), T.nof 25 _ (by decide) (by decide) rfl, a3, b3, lk1 _ _, ?_⟩
  refine ⟨by show 3 ≤ sizeLine; decide, fun t h4 => ?_⟩
  obtain ⟨H4, e4, a4, S4⟩ := new_at (.tup [.ref x1, v, v]) h4
  rw [e4]
  obtain ⟨xs, q1, q2, q3⟩ := O.app (by decide) (((S1.trans S2).trans S3).trans S4) a4 ((ErrAt.same (.inr ⟨y1, _, a1, b1⟩) S2).same (S3.trans S4))
  exact ⟨p, xs, .ref t, rfl, rfl, q1, q2, k _ q3⟩
theorem of_4 {f : Addr} {fi : Nat → Addr} {fdi : Nat → FuncData} {cdv : Value} {A : Around} {outer : List Env} {s : Shared} {H : Hp} {E : XK} (T : Tx K mg Cs S) (I : Inits K Cs fi fdi) (hr : Room 2 (A.deeper (PyProof.Rows.envOfC "_law_errors_of" (defScope sOf) s.heap.objs.size f cdv))) :
    PS (cxOf CX0 P w K mg base ["each", "found"] "_law_errors_of" (defScope sOf) f cdv A outer s H E).nox ((defBody sOf).getD 5 (.Pass ⟨0, 0, 0, 0⟩)) (tOf Cs 4) := by
  have G : FnOk P w K mg base CX0 1 (fi 4) (fdi 4) ["self", "name"] (spI "name" (Cs.getD 26 0)) := ok_I4 I.F4 T
  have B : Binds K (fdi 4) ["self", "name"] [] := I.F4.binds fun _ _ _ _ _ _ us hl => match us, hl with | [_, _], _ => rfl
  have kb := kb_4 I.F4
  refine ps_weak (ps_expr (pe_bm PySem.F.plainAttrs_list PySem.F.slot_list_append PySem.F.type_list_append mt_append (pv 1) (pa_cons (pe_tup (pa_cons (pe_oexV (T.ox 26 (by decide) (by decide)) (I.iC 4 (by decide)) (I.tI 4 (by decide)) G hr B pass0 rfl (T.gs 26 _ rfl) (pa_cons (pv 0) pa_nil)) (pa_cons (pe_xfo (pe_oexV (T.ox 26 (by decide) (by decide)) (I.iC 4 (by decide)) (I.tI 4 (by decide)) G hr B pass0 rfl (T.gs 26 _ rfl) (pa_cons (pv 0) pa_nil))) (pa_cons (pe_xfo (pe_oexK (T.ox 26 (by decide) (by decide)) (I.iC 4 (by decide)) (I.tI 4 (by decide)) G hr kb pass0 rfl (T.gs 26 _ rfl) (pk_cons (pv 0) pk_nil))) pa_nil)))) pa_nil))) ?_
  rintro D σ H ⟨H0, v, p, rfl, O, k⟩
  obtain ⟨⟨ts, es, l1, l2, hp, hi⟩, sm, nw, sz⟩ := id O
  refine ⟨_, rfl, .inl ⟨rfl, _, SqL.of hp⟩, _, rfl, (by show 1 ≤ 1000; decide), fun x1 h1 => ⟨x1, v, rfl, upd_same, fun y1 g1 n1 => ⟨rfl, ?_⟩⟩⟩
  obtain ⟨H1, e1, a1, b1, S1⟩ := ox_at (C := Cs.getD 26 0) (f := "name") (v := v) h1 g1 n1
  rw [e1]
  refine ⟨_, rfl, (by show 1 ≤ 1000; decide), fun x2 h2 => ⟨x2, v, rfl, upd_same, fun y2 g2 n2 => ⟨rfl, ?_⟩⟩⟩
  obtain ⟨H2, e2, a2, b2, S2⟩ := ox_at (C := Cs.getD 26 0) (f := "name") (v := v) h2 g2 n2
  rw [e2]
  refine ⟨x2, Cs.getD 26 0, y2, _, v, rfl, T.xf 26 (by decide) (by decide), T.nof 26 _ (by decide) (by decide) rfl, a2, b2, lk1 _ _, ?_⟩
  refine ⟨_, rfl, rfl, fun x3 h3 => ⟨x3, v, rfl, upd_same, fun y3 g3 n3 => ⟨rfl, ?_⟩⟩⟩
  obtain ⟨H3, e3, a3, b3, S3⟩ := ox_at (C := Cs.getD 26 0) (f := "name") (v := v) h3 g3 n3
  rw [e3]
  refine ⟨x3, Cs.getD 26 0, y3, _, v, rfl, T.xf 26 (by decide) (by decide), T.nof 26 _ (by decide) (by decide) rfl, a3, b3, lk1 _ _, ?_⟩
  refine ⟨by show 3 ≤ sizeLine; decide, fun t h4 => ?_⟩
  obtain ⟨H4, e4, a4, S4⟩ := new_at (.tup [.ref x1, v, v]) h4
  rw [e4]
  obtain ⟨xs, q1, q2, q3⟩ := O.app (by decide) (((S1.trans S2).trans S3).trans S4) a4 ((ErrAt.same (.inr ⟨y1, _, a1, b1⟩) S2).same (S3.trans S4))
  exact ⟨p, xs, .ref t, rfl, rfl, q1, q2, k _ q3⟩
theorem of_5 {f : Addr} {fi : Nat → Addr} {fdi : Nat → FuncData} {cdv : Value} {A : Around} {outer : List Env} {s : Shared} {H : Hp} {E : XK} (T : Tx K mg Cs S) (I : Inits K Cs fi fdi) (hr : Room 2 (A.deeper (PyProof.Rows.envOfC "_law_errors_of" (defScope sOf) s.heap.objs.size f cdv))) :
    PS (cxOf CX0 P w K mg base ["each", "found"] "_law_errors_of" (defScope sOf) f cdv A outer s H E).nox ((defBody sOf).getD 6 (.Pass ⟨0, 0, 0, 0⟩)) (tOf Cs 5) := by
  have G : FnOk P w K mg base CX0 1 (fi 5) (fdi 5) ["self", "at"] (spI "at" (Cs.getD 27 0)) := ok_I5 I.F5 T
  have B : Binds K (fdi 5) ["self", "at"] [] := I.F5.binds fun _ _ _ _ _ _ us hl => match us, hl with | [_, _], _ => rfl
  have kb := kb_5 I.F5
  refine ps_weak (ps_expr (pe_bm PySem.F.plainAttrs_list PySem.F.slot_list_append PySem.F.type_list_append mt_append (pv 1) (pa_cons (pe_tup (pa_cons (pe_oexV (T.ox 27 (by decide) (by decide)) (I.iC 5 (by decide)) (I.tI 5 (by decide)) G hr B pass0 rfl (T.gs 27 _ rfl) (pa_cons (pv 0) pa_nil)) (pa_cons (pe_xfo (pe_oexV (T.ox 27 (by decide) (by decide)) (I.iC 5 (by decide)) (I.tI 5 (by decide)) G hr B pass0 rfl (T.gs 27 _ rfl) (pa_cons (pv 0) pa_nil))) (pa_cons (pe_xfo (pe_oexK (T.ox 27 (by decide) (by decide)) (I.iC 5 (by decide)) (I.tI 5 (by decide)) G hr kb pass0 rfl (T.gs 27 _ rfl) (pk_cons (pv 0) pk_nil))) pa_nil)))) pa_nil))) ?_
  rintro D σ H ⟨H0, v, p, rfl, O, k⟩
  obtain ⟨⟨ts, es, l1, l2, hp, hi⟩, sm, nw, sz⟩ := id O
  refine ⟨_, rfl, .inl ⟨rfl, _, SqL.of hp⟩, _, rfl, (by show 1 ≤ 1000; decide), fun x1 h1 => ⟨x1, v, rfl, upd_same, fun y1 g1 n1 => ⟨rfl, ?_⟩⟩⟩
  obtain ⟨H1, e1, a1, b1, S1⟩ := ox_at (C := Cs.getD 27 0) (f := "at") (v := v) h1 g1 n1
  rw [e1]
  refine ⟨_, rfl, (by show 1 ≤ 1000; decide), fun x2 h2 => ⟨x2, v, rfl, upd_same, fun y2 g2 n2 => ⟨rfl, ?_⟩⟩⟩
  obtain ⟨H2, e2, a2, b2, S2⟩ := ox_at (C := Cs.getD 27 0) (f := "at") (v := v) h2 g2 n2
  rw [e2]
  refine ⟨x2, Cs.getD 27 0, y2, _, v, rfl, T.xf 27 (by decide) (by decide), T.nof 27 _ (by decide) (by decide) rfl, a2, b2, lk1 _ _, ?_⟩
  refine ⟨_, rfl, rfl, fun x3 h3 => ⟨x3, v, rfl, upd_same, fun y3 g3 n3 => ⟨rfl, ?_⟩⟩⟩
  obtain ⟨H3, e3, a3, b3, S3⟩ := ox_at (C := Cs.getD 27 0) (f := "at") (v := v) h3 g3 n3
  rw [e3]
  refine ⟨x3, Cs.getD 27 0, y3, _, v, rfl, T.xf 27 (by decide) (by decide), T.nof 27 _ (by decide) (by decide) rfl, a3, b3, lk1 _ _, ?_⟩
  refine ⟨by show 3 ≤ sizeLine; decide, fun t h4 => ?_⟩
  obtain ⟨H4, e4, a4, S4⟩ := new_at (.tup [.ref x1, v, v]) h4
  rw [e4]
  obtain ⟨xs, q1, q2, q3⟩ := O.app (by decide) (((S1.trans S2).trans S3).trans S4) a4 ((ErrAt.same (.inr ⟨y1, _, a1, b1⟩) S2).same (S3.trans S4))
  exact ⟨p, xs, .ref t, rfl, rfl, q1, q2, k _ q3⟩
theorem ok_of {f : Addr} {fd : FuncData} {fi : Nat → Addr} {fdi : Nat → FuncData} (F : Fun K "_law_errors_of" "_law_errors_of" sOf f fd) (T : Tx K mg Cs S) (I : Inits K Cs fi fdi) : FnOk P w K mg base CX0 3 f fd ["each"] (spOf Cs) := by
  refine F.ok scO (fun vs H Q E h => ?_) (fun cdv A outer s H vs Q E hr h => ?_)
  · obtain ⟨v, rfl, _⟩ := h
    rfl
  · obtain ⟨v, rfl, k⟩ := h
    refine ⟨_, pss_cons (ps_set (i := 1) scO.nd rfl (Or.inl rfl) (pe_lst pa_nil)) (pss_cons (of_0 T I hr) (pss_cons (of_1 T I hr) (pss_cons (of_2 T I hr) (pss_cons (of_3 T I hr) (pss_cons (of_4 T I hr) (pss_cons (of_5 T I hr) (pss_one (ps_ret (pv 1))))))))), ?_⟩
    refine ⟨Nat.zero_le _, fun p hp => ?_⟩
    refine ⟨H, v, p, rfl, ⟨⟨[], [], rfl, rfl, upd_same, fun i hi => absurd hi (Nat.not_lt_zero _)⟩, (Same.refl _).put hp, hp, by decide⟩, fun H1 O1 => ⟨H, v, p, rfl, O1, fun H2 O2 => ⟨H, v, p, rfl, O2, fun H3 O3 => ⟨H, v, p, rfl, O3, fun H4 O4 => ⟨H, v, p, rfl, O4, fun H5 O5 => ⟨H, v, p, rfl, O5, fun H6 O6 => ?_⟩⟩⟩⟩⟩⟩
    obtain ⟨⟨ts, es, l1, l2, hq, hi⟩, sm, nw, sz⟩ := O6
    exact ⟨_, rfl, k p ts es H6 l1 l2 sm nw hq hi⟩
end
end K0
end

section
set_option maxRecDepth 100000
set_option maxHeartbeats 4000000
namespace L2
open PySem PySem.Spec PyProof.Rows
/-- one run of a def at one around: for a def whose body leans on what that around is (here: that no repr is under way) -/
theorem run_def {P : Program} {w : World} {K : PySem.W.Frag} {mg : Str → Option Value} {base : Heap} {k : Nat} {f : Addr} {fd : FuncData} {x : Str} {st : Stmt} {N ps : List Str} (F : Fun K x x st f fd) (S : FnScope N ps (defScope st))
    {A : Around} {outer : List Env} {s : Shared} {H : Hp} {args : Args} {us : List Value} {vs : List V} {Q : VK} (hl : vs.length = ps.length) (hr : Room (k + 1) A) (e0 : Env0 P w K mg base A outer s H) (hb : BindsTo s fd args (ps.zip us)) (r : Vals vs us)
    (hbody : ∀ cdv : Value, ∃ t, PSs (cxOf CX0 P w K mg base N x (defScope st) f cdv A outer s H E0).nox (defBody st) t ∧ t { nx := fun _ H' => Q .non H', rt := Q } (start N vs) H) :
    codeAny (model P w) A (.call (.ref f) args) (CR CX0 outer P w H s Q E0) s := by
  obtain ⟨oc, od, kV, doc, pm, an, cdv, ct, osl, rfl, lk, hcd⟩ := F.ex
  have old : ∀ b o, base.get? b = some o → s.heap.get? b = some o := fun b o e => (e0.bs b o e).1
  have KX : K.In s.heap := e0.mod.kin.keeps old
  refine codeAny_call_function hr.depth (KX _ _ lk) rfl S.co S.gen rfl (PySem.W.codeRec_of KX hcd) (hb _ _ _ _ ?_)
  refine wpAny_newFunctionEnv_cells S.kind (fun y hy => ?_) fun env he s1 x => ?_
  · exact (S.par y.1 (List.of_mem_zip (a := y.1) (b := y.2) hy).1).imp id fun q => ⟨q, PySem.W.cellsFrom_some _ _ _ (.inl q)⟩
  · subst he
    refine ⟨(e0.mod.nolimit.keeps old).keeps x.toInCall.keep, codeAny_func ?_⟩
    obtain ⟨t, ht, hq⟩ := hbody cdv
    refine wpAny_mono (ht.nox.run [] s1 (start N vs) H _ (inv_start S hr.hd e0 hl r x) hq) (fun fl s' hs => ?_) fun e s' hs => hs
    cases fl with
    | ret u => exact let ⟨v, σ', H', J, rv, q⟩ := hs; ⟨v, H', J.os, J.bare, J.base, J.hok, rv, q⟩
    | next => exact let ⟨σ', H', J, q⟩ := hs; ⟨.non, H', J.os, J.bare, J.base, J.hok, rfl, q⟩
    | brk => exact let ⟨_, _, _, q⟩ := hs; q.elim
    | cont => exact let ⟨_, _, _, q⟩ := hs; q.elim
/-- what a law's call finds at its entry, told of an abstract heap with the script alone -/
theorem entry_env {P : Program} {w : World} {K : PySem.W.Frag} {mg mb : Str → Option Value} {s : Shared} {a : Addr} {vs : List Value} {H : Hp} (KX : K.In s.heap) (hns : s.heap.Ns mainGlobals mg) (hb : s.heap.Ns builtinsNs mb) (hbb : ∀ x : Str, x ≠ "__name__" → mb x = bootBuiltins x)
    (hlim : s.heap.NoLimit) (hg : s.gens = #[]) (ha : s.heap.get? a = some { cls := .type "list", data := .seq vs.toArray }) (hok : HOk P w H s.heap) (hA : ∀ b o, H b = some o → b = a ∧ K.lookup a = none) :
    Env0 P w K mg (hidT s.heap H) callerA [] s H := by
  have free : ∀ {b : Addr}, (b = a → K.lookup a ≠ none) → H b = none := fun {b} n => by
    cases q : H b with
    | none => rfl
    | some u => exact absurd (hA b u q).2 (n (hA b u q).1)
  have dict : ∀ {b : Addr} {m : Str → Option Value}, s.heap.Ns b m → (hidT s.heap H).Ns b m := fun {b m} ⟨o, es, ep, e, d, r⟩ => by
    refine ⟨o, es, ep, hidT_get e ?_, d, r⟩
    cases q : H b with
    | none => rfl
    | some u =>
      have := (hA b u q).1
      rw [this, ha] at e
      cases e
      exact absurd (show Data.seq vs.toArray _ = Data.dict es ep from d) (fun z => by cases z)
  refine ⟨rfl, ⟨fun b o e => hidT_get (KX b o e) (free fun z => by rw [← z, e]; simp), dict hns, ⟨mb, dict hb, hbb⟩, let ⟨mc, h1, h2⟩ := hlim; ⟨mc, dict h1, h2⟩⟩, fun b o e => of_hidT e, Nat.le_of_eq (hidT_size _ _), trivial, fun b hb => absurd hb (by simp [frs]), hok, .of_eq hg⟩
/-- the end of a law whose call is run at its own around -/
theorem walk_at_entry {l : PySem.W.OpenLaw} {n : Nat} {q : Program} {loose : List Str} {XP : (Str → Option Value) → Heap → Prop} {YP : World → Heap → Prop} {d : DefRec} {K : Params → PySem.W.Frag} (hn : l.most = some n) (hn2 : n ≤ sizeLine) (hdf : d.params.defaults = [])
    (hY : ∀ (w : World) (h : Heap), YP w h → (K w.params).In h)
    (F : ∀ (w : World) (mg : Str → Option Value) (fa : Addr) (h : Heap), (K w.params).In h → h.Ns mainGlobals mg → mg d.name = some (.ref fa) →
      ∀ (base : Heap) (s : Shared) (H : Hp) (a : Addr) (ns : List Int), (K w.params).In base → base.Ns mainGlobals mg → Env0 l.prog w (K w.params) mg base callerA [] s H → SqL (K w.params) H a (ns.map V.int) → ns.length ≤ n →
        codeAny (model l.prog w) callerA (.call (.ref fa) ⟨[.ref a], []⟩) (CR CX0 [] l.prog w H s (fun v _ => v = .bl true) E0) s) :
    PySem.W.WalkO q loose XP YP l.row.toRowW d [] (fun f vs => PySem.call f vs) := by
  refine Att.attach_call hn hdf fun w s₀ s mg mb fa o pm cd doc a vs ns G Y ho hd hcd hmg hobj hints hlen hg => ?_
  have KX := hY w _ Y
  have rv := vals_ints hints
  have lv := hints.length
  have post : ∀ (H : Hp), (∀ b o, H b = some o → ∃ ob xs, o = .frz ob (.lst xs)) → HOk l.prog w H s.heap → ∀ r s', CR CX0 [] l.prog w H s (fun v _ => v = .bl true) E0 r s' → r = .ok (.ret (.bool true)) ∧ OldK s.heap s'.heap ∧ s'.os = s.os ∧ AllBare s'.gens := by
    intro H only hok r s' h
    match r, h with
    | .ok (.ret u), ⟨v, H', os, bare, un, hok', rv, e⟩ =>
      subst e
      have eu : u = Value.bool true := rv
      subst eu
      refine ⟨rfl, OldK.of_keep fun b ob e => ?_, os, bare⟩
      cases q : H b with
      | none => exact un.keep b ob e q (fun z => absurd z (by simp [frs])) (by simp)
      | some u =>
        obtain ⟨ob', xs, rfl⟩ := only b u q
        have z1 : s.heap.get? b = some ob' := (hok b _ q).1
        have z2 : s'.heap.get? b = some ob' := (hok' b _ (un.frzs b ob' _ q)).1
        rw [e] at z1
        cases z1
        exact z2
    | .error _, h => exact (show False from h).elim
    | .ok .next, h => exact (show False from h).elim
    | .ok .brk, h => exact (show False from h).elim
    | .ok .cont, h => exact (show False from h).elim
  have go : ∀ H : Hp, (∀ b o, H b = some o → ∃ ob xs, o = .frz ob (.lst xs)) → (∀ b o, H b = some o → b = a ∧ (K w.params).lookup a = none) → HOk l.prog w H s.heap → SqL (K w.params) H a (ns.map V.int) →
      codeAny (model l.prog w) callerA (.call (.ref fa) ⟨[.ref a], []⟩) (fun r s' => r = .ok (.ret (.bool true)) ∧ OldK s.heap s'.heap ∧ s'.os = s.os ∧ AllBare s'.gens) s := by
    intro H only hA hok hS
    have e0 := entry_env (P := l.prog) KX G.T.g G.T.b G.T.builtins G.T.nolimit hg hobj hok hA
    exact codeAny_mono (F w mg fa _ KX G.T.g hmg _ s H a ns e0.mod.kin e0.mod.glob e0 hS hlen) (post H only hok)
  cases hk : (K w.params).lookup a with
  | some ob =>
    have e := KX a ob hk
    rw [hobj] at e
    cases e
    exact go (fun _ => none) (fun _ _ z => by cases z) (fun _ _ z => by cases z) (fun _ _ z => by cases z) (.inr ⟨_, vs.toArray, _, hk, rfl, rfl, rfl, by rw [List.size_toArray, lv]; exact Nat.le_trans hlen hn2, by simpa using rv⟩)
  | none =>
    have at_a : ∀ b o, upd (fun _ => none) a (.frz { cls := .type "list", data := .seq vs.toArray } (.lst (ns.map V.int))) b = some o → b = a ∧ o = .frz { cls := .type "list", data := .seq vs.toArray } (.lst (ns.map V.int)) := fun b o z => by
      by_cases hb : b = a
      · subst hb
        rw [upd_same] at z
        exact ⟨rfl, (Option.some.inj z).symm⟩
      · rw [upd_ne hb] at z
        cases z
    refine go (upd (fun _ => none) a (.frz { cls := .type "list", data := .seq vs.toArray } (.lst (ns.map V.int)))) (fun b o z => ⟨_, _, (at_a b o z).2⟩) (fun b o z => ⟨(at_a b o z).1, hk⟩) (fun b o z => ?_) (.inl (.inr ⟨_, upd_same⟩))
    obtain ⟨rfl, rfl⟩ := at_a b o z
    exact ⟨hobj, by rw [List.length_map]; exact Nat.le_trans hlen hn2, vs, _, rv, hobj⟩
end L2
end

section
set_option maxRecDepth 100000
set_option maxHeartbeats 4000000
namespace K0
open PySem L2
section
variable {P : Program} {w : World} {K : PySem.W.Frag} {mg : Str → Option Value} {base : Heap} {Cs : List Addr} {S : Addr}
abbrev NL : List Str := ["script", "draw", "words_here", "each", "threes_here", "errors_here", "spot", "error", "base_here", "item", "k"]
theorem scL : FnScope NL ["script"] (defScope sLaw) := ⟨rfl, rfl, rfl, by decide +kernel, rfl, by decide +kernel, by decide +kernel⟩
abbrev lawCx (P : Program) (w : World) (K : PySem.W.Frag) (mg : Str → Option Value) (base : Heap) (f : Addr) (cdv : Value) (s : Shared) (H : Hp) : Cx := (cxOf CX0 P w K mg base NL "law" (defScope sLaw) f cdv callerA [] s H E0).nox
abbrev stL (i : Nat) : Stmt := (defBody sLaw).getD i (.Pass ⟨0, 0, 0, 0⟩)
abbrev slots (a d : Addr) (wd v : V) (th er : Addr) (sp eo bh : Option V) : St := [some (.ref a), some (.ref d), some wd, some v, some (.ref th), some (.ref er), sp, eo, bh, none, none]
theorem dp_bls {K : PySem.W.Frag} {H : Hp} : ∀ bs : List Bool, DpAll K H (bs.map V.bl) (bs.map PyData.bool)
  | [] => .nil
  | b :: bs => .cons (.bl b) (dp_bls bs)
theorem canLay_bls : ∀ bs : List Bool, PyData.canLayAll0 (bs.map PyData.bool) = true
  | [] => by simp [PyData.canLayAll0]
  | n :: ns => by simp [PyData.canLayAll0, PyData.canLay0, canLay_bls ns]
theorem depth_bls : ∀ bs : List Bool, PyData.depthAll (bs.map PyData.bool) = 0
  | [] => by simp [PyData.depthAll]
  | n :: ns => by simp [PyData.depthAll, PyData.depth, depth_bls ns]
theorem shaped_bls (bs : List Bool) : SeqAt.shaped (.list (bs.map PyData.bool)) = true := by
  simp [SeqAt.shaped, PyData.canLay0, PyData.depth, canLay_bls, depth_bls]
theorem eqv_bls (bs : List Bool) : PyData.eqv (.list (bs.map PyData.bool)) (.list (bs.map PyData.bool)) = true := SeqAt.eqv_refl _ (by simp [PyData.canLay0, canLay_bls])
def tFor5 (Cs : List Addr) : TS := fun D σ H => ∃ (a d th er : Addr) (wd v : V) (es : List Addr), σ = slots a d wd v th er none none none ∧ H er = some (.lst (es.map V.ref)) ∧ es.length = 28 ∧ (∀ i, i < 28 → ErrAt H (es.getD i 0) (Cs.getD i 0)) ∧
  ∀ sp eo H', Same H H' → D.nx (slots a d wd v th er sp eo none) H'
theorem law_for {f fK : Addr} {dK : FuncData} {cdv : Value} {s : Shared} {H : Hp} (T : Tx K mg Cs S) (GK : FnOk P w K mg base CX0 1 fK dK ["error"] (spKinds K Cs)) (kK : PySem.W.keepIn K (.ref fK) = true) (bK : Binds K dK ["error"] []) (gK : mg "_law_kinds" = some (.ref fK))
    (hr : Room 4 (callerA.deeper (PyProof.Rows.envOfC "law" (defScope sLaw) s.heap.objs.size f cdv))) : PS (lawCx P w K mg base f cdv s H) (stL 4) (tFor5 Cs) := by
  have r1 : Room 1 _ := hr.mono (by decide)
  refine ps_weak (ps_for PassesOwn.never rfl (pi_enum (by rfl) T.enm (pa_cons (pv 5) pa_nil))
          (pg_tup rfl (pgs_cons (pg_name (i := 6) scL.nd rfl (Or.inr rfl)) (pgs_cons (pg_name (i := 7) scL.nd rfl (Or.inl rfl)) pgs_nil)))
          (pss_cons (ps_if (pt_cmpR (op_neD hr.units) (pe_call GK r1 rfl gK kK bK .nil pass0 (pa_cons (pv 7) pa_nil))
              (pe_lc (own := [("k", 10)]) (g := gName 10) (tt := tYes) rfl scL.nd (pi_range1 rfl T.rng (pa_cons pe_int pa_nil)) (blkOk_by (own := [("k", 10)]) (N := NL) (sc := defScope sLaw) (by decide +kernel))
                (fun _ _ _ _ _ => pg_name (i := 10) scL.nd rfl (Or.inl rfl)) (fun _ _ _ _ _ => pts_nil) (fun _ _ _ _ _ => pe_cmpR op_eq (pv 10) (pv 6) (nomark _))) (nomark _))
              (pss_one (ps_ret pe_bl)) pss_nil)
          (pss_one (ps_if (PW.pt (pw_or (pt_not (pt_val (pe_callB call_isX (by rfl) T.isi (by decide +kernel) (pa_cons (pv 7) (pa_cons (pe_glob (v := .ref S) rfl T.gS rfl) pa_nil)))))
                (pw_or1 (pt_not (pt_val (pe_callB call_isX (by rfl) T.isi (by decide +kernel) (pa_cons (pv 7) (pa_cons (pe_bltn (v := .ty "ValueError") (by rfl) T.val (by decide +kernel) rfl) pa_nil)))))))) (pss_one (ps_ret pe_bl)) pss_nil)))) ?_
  rintro D σ H ⟨a, d, th, er, wd, v, es, rfl, he, le, hE, k⟩
  refine ⟨_, rfl, er, _, rfl, SqL.of he, for_it (walk_enum (xs := es.map V.ref)) (fun i σ H' => ∃ sp eo, σ = slots a d wd v th er sp eo none ∧ Same H H') ⟨none, none, rfl, Same.refl _⟩ ?_ ?_ ?_⟩
  · rintro i σ H' _ ⟨sp, eo, _, S⟩
    exact SqL.of (S _ _ he)
  · rintro i x σ H1 H2 hi ⟨sp, eo, rfl, S1⟩ ⟨t, x, y, rfl, ht, rfl, ex, ey⟩
    rw [List.length_map, le] at hi
    refine ⟨t, _, rfl, SqT.of upd_same, rfl, ?_⟩
    have ye : y = .ref (es.getD i 0) := by
      have : (es.map V.ref)[i]? = some (.ref (es.getD i 0)) := by
        rw [List.getElem?_map, List.getD_eq_getElem?_getD, List.getElem?_eq_getElem (by omega)]
        rfl
      exact Option.some.inj (ey.symm.trans this)
    have xe : x = .int (i : Nat) := (Option.some.inj ex).symm
    subst ye xe
    have S2 : Same H (upd H1 t (.tup [.int (i : Nat), .ref (es.getD i 0)])) := S1.new ht
    generalize upd H1 t (.tup [.int (i : Nat), .ref (es.getD i 0)]) = H2 at S2 ⊢
    have E2 := (hE i hi).same S2
    refine ⟨_, _, rfl, _, _, rfl, rfl, ?_⟩
    refine ⟨_, rfl, es.getD i 0, Cs.getD i 0, fun j => decide (j = i), rfl, E2, T.ex i hi, fun j hj => T.kit i j hi hj, fun p H3 S3 np hp => ?_⟩
    refine ⟨28, rfl, by decide, by decide, fun D1 hD => lc_range (lo := 0) (n := 28) (fun n H' => Same H3 H' ∧ H' D1 = some (.lst (((List.range n).map fun j => decide (V.int (0 + (j : Nat)) = V.int (i : Nat))).map V.bl))) ?_ ?_ ?_⟩
    · exact ⟨(Same.refl _).put hD, upd_same⟩
    · rintro n H' hn ⟨S4, hL⟩
      refine ⟨rfl, _, rfl, _, rfl, rfl, _, hL, ?_, S4.put hD, ?_⟩
      · rw [List.length_map, List.length_map, List.length_range]
        exact small1000 (by omega)
      · rw [upd_same, List.range_succ, List.map_append, List.map_append]
        rfl
    · rintro H4 ⟨S4, hL⟩
      have hp4 := S4 _ _ hp
      have e28 : ((List.range 28).map fun j => V.bl (decide (j = i))) = (((List.range 28).map fun j => decide (V.int (0 + (j : Nat)) = V.int (i : Nat))).map V.bl) := by
        rw [List.map_map]
        refine List.map_congr_left fun j _ => ?_
        show V.bl (decide (j = i)) = V.bl (decide (V.int (0 + (j : Nat)) = V.int (i : Nat)))
        congr 1
        by_cases c : j = i
        · subst c; simp
        · rw [decide_eq_false c, decide_eq_false (fun z => c (by injection z with z; omega))]
      rw [e28] at hp4
      refine ⟨_, _, .lst (SqL.of hp4) (dp_bls _), .lst (SqL.of hL) (dp_bls _), shaped_bls _, shaped_bls _, _, rfl, ?_⟩
      refine ite2 (fun c => absurd c (by rw [eqv_bls]; decide)) (fun _ => ?_)
      have S5 := (S2.trans S3).trans S4
      have E5 := (hE i hi).same S5
      refine ⟨_, rfl, es.getD i 0, Cs.getD i 0, _, _, _, rfl, .own _, E5, T.ex i hi, T.kS i hi, true, rfl, ?_⟩
      refine iteF ?_
      refine ⟨_, rfl, es.getD i 0, Cs.getD i 0, _, _, _, rfl, .ty _, E5, T.ex i hi, T.kV i hi, true, rfl, ?_⟩
      refine iteF ?_
      exact ⟨_, _, rfl, S5⟩
  · rintro σ H' ⟨sp, eo, rfl, S⟩
    exact k sp eo H' S
theorem menu_ok : ∀ e ∈ menu, (PyData.list [e, e]).showable = true ∧ (PyData.list [e, e]).depth ≤ 20 ∧ (PyData.list [e, e]).shown.length ≤ sizeLine := by
  have h : menu.all (fun e => (PyData.list [e, e]).showable && (decide ((PyData.list [e, e]).depth ≤ 20) && decide ((PyData.list [e, e]).shown.length ≤ sizeLine))) = true := by decide +kernel
  intro e he
  have := List.all_eq_true.mp h e he
  simp only [Bool.and_eq_true, decide_eq_true_eq] at this
  exact this
theorem has2 (e : PyData) (h : (PyData.list [e, e]).hasDict = true) : e.hasDict = true := by
  simpa [PyData.hasDict, PyData.hasDictAll] using h
def tIf6 (K : PySem.W.Frag) : TS := fun D σ H => ∃ (a d th er : Addr) (wd v : V) (sp eo : Option V) (ts es : List Addr) (e : PyData), σ = slots a d wd v th er sp eo none ∧ H th = some (.lst (ts.map V.ref)) ∧ ts.length = 6 ∧
  (∀ i, i < 6 → H (ts.getD i 0) = some (.tup [.ref (es.getD i 0), v, v])) ∧ e ∈ menu ∧ Dq (e.hasDict = true) K H v e ∧ ∀ H', Same H H' → D.nx (slots a d wd v th er sp eo none) H'
theorem law_if {f : Addr} {cdv : Value} {s : Shared} {H : Hp} (T : Tx K mg Cs S) (hr : Room 4 (callerA.deeper (PyProof.Rows.envOfC "law" (defScope sLaw) s.heap.objs.size f cdv))) : PS (lawCx P w K mg base f cdv s H) (stL 5) (tIf6 K) := by
  have hu := hr.units
  refine ps_weak (ps_if (pt_cmpR (op_neD hr.units) (pe_lc (own := [("item", 9)]) (g := gName 9) rfl scL.nd (pi_list (pv 4)) (blkOk_by (own := [("item", 9)]) (N := NL) (sc := defScope sLaw) (by decide +kernel))
            (fun _ _ _ _ _ => pg_name (i := 9) scL.nd rfl (Or.inl rfl))
            (fun _ _ _ _ _ => pts_one (pt_cmpR op_ne (pe_callB (r := rRepD K) (id := "repr") (call_reprD rfl hr.units) (by rfl) T.rep (by decide +kernel) (pa_cons (pe_lstN (pa_cons (pe_ix (r := rIxT K) ix_tup (pv 9) pe_int (fun _ _ => rfl)) (pa_cons (pe_ix (r := rIxT K) ix_tup (pv 9) pe_int (fun _ _ => rfl)) pa_nil))) pa_nil))
              (pe_callB (r := rRepD K) (id := "repr") (call_reprD rfl hr.units) (by rfl) T.rep (by decide +kernel) (pa_cons (pe_lstN (pa_cons (pv 3) (pa_cons (pv 3) pa_nil))) pa_nil)) (nomark _)))
            (fun _ _ _ _ _ => pe_int)) (pe_lst pa_nil) (nomark _)) (pss_one (ps_ret pe_bl)) pss_nil) ?_
  rintro D σ H ⟨a, d, th, er, wd, v, sp, eo, ts, es, e, rfl, hth, lt, ht, he, hq, k⟩
  obtain ⟨m1, m2, m3⟩ := menu_ok e he
  refine ⟨_, rfl, th, rfl, ⟨_, SqL.of hth⟩, fun D1 hD => lc_list (K := K) (a := th) (xs := ts.map V.ref) (fun i H' => Same H H' ∧ H' D1 = some (.lst [])) ?_ ?_ ?_ ?_⟩
  · exact ⟨(Same.refl _).put hD, upd_same⟩
  · rintro i H' _ ⟨S1, _⟩
    exact SqL.of (S1 _ _ hth)
  · rintro i x H' hi ⟨S1, hL⟩
    have hil : i < 6 := by
      have := (List.getElem?_eq_some_iff.mp hi).1
      rw [List.length_map, lt] at this
      exact this
    have xe : x = .ref (ts.getD i 0) := by
      have : (ts.map V.ref)[i]? = some (.ref (ts.getD i 0)) := by
        rw [List.getElem?_map, List.getD_eq_getElem?_getD, List.getElem?_eq_getElem (by omega)]
        rfl
      exact Option.some.inj (hi.symm.trans this)
    subst xe
    have ht1 := S1 _ _ (ht i hil)
    have q1 := hq.same S1
    refine ⟨rfl, _, rfl, ts.getD i 0, _, _, v, rfl, rfl, SqT.of ht1, atI_nat (j := 1) rfl, _, rfl, ts.getD i 0, _, _, v, rfl, rfl, SqT.of ht1, atI_nat (j := 2) rfl, (by show 2 ≤ sizeLine; decide), fun p hp np => ?_⟩
    have S2 : Same H' (upd H' p (.lst [v, v])) := (Same.refl _).put hp
    have q2 := q1.same S2
    refine ⟨p, .list [e, e], e.hasDict = true, rfl, .lst upd_same (fun _ => np) (.cons q2 (.cons q2 .nil)), has2 e, m1, m2, m3, ?_⟩
    have hL2 := S2 _ _ hL
    have S12 := S1.trans S2
    generalize upd H' p (.lst [v, v]) = H2 at S2 q2 hL2 S12 ⊢
    refine ⟨_, rfl, _, rfl, (by show 2 ≤ sizeLine; decide), fun p2 hp2 np2 => ?_⟩
    have S3 : Same H2 (upd H2 p2 (.lst [v, v])) := (Same.refl _).put hp2
    have q3 := q2.same S3
    refine ⟨p2, .list [e, e], e.hasDict = true, rfl, .lst upd_same (fun _ => np2) (.cons q3 (.cons q3 .nil)), has2 e, m1, m2, m3, ?_⟩
    refine ⟨rfl, _, rfl, ?_⟩
    refine iteNS rfl ?_
    exact ⟨S12.trans S3, S3 _ _ hL2⟩
  · rintro H' ⟨S1, hL⟩
    refine ⟨Nat.zero_le _, fun p hp => ⟨.list [], .list [], .lst (SqL.of (by rw [upd_ne (ne_of_none hL hp)]; exact hL)) .nil, .lst (SqL.of upd_same) .nil, rfl, rfl, _, rfl, ?_⟩⟩
    refine iteF ?_
    exact k _ (S1.new hp)
end
end K0
end

section
set_option maxRecDepth 100000
set_option maxHeartbeats 4000000
namespace K0
open PySem L2
section
variable {P : Program} {w : World} {K : PySem.W.Frag} {mg : Str → Option Value} {base : Heap} {Cs : List Addr} {S : Addr}
theorem getD_app_left {α : Type} {xs ys : List α} {i : Nat} {d : α} (h : i < xs.length) : (xs ++ ys).getD i d = xs.getD i d := by
  simp [List.getD_eq_getElem?_getD, List.getElem?_append_left h]
theorem getD_app_right {α : Type} {xs ys : List α} {i : Nat} {d : α} (h : xs.length ≤ i) : (xs ++ ys).getD i d = ys.getD (i - xs.length) d := by
  simp [List.getD_eq_getElem?_getD, List.getElem?_append_right h]
theorem law_run {f fB fP fA fK fR fO : Addr} {fd dB dP dA dK dR dO : FuncData} (F : Fun K "law" "law" sLaw f fd) (T : Tx K mg Cs S)
    (GB : FnOk P w K mg base CX0 1 fB dB ["script"] (spBegun K)) (kB : PySem.W.keepIn K (.ref fB) = true) (bB : Binds K dB ["script"] []) (gB : mg "_law_begun" = some (.ref fB))
    (GP : FnOk P w K mg base CX0 3 fP dP ["draw", "some"] (spPick K)) (kP : PySem.W.keepIn K (.ref fP) = true) (bP : Binds K dP ["draw", "some"] []) (gP : mg "_law_pick" = some (.ref fP))
    (GA : FnOk P w K mg base CX0 4 fA dA ["draw"] (spAny K)) (kA : PySem.W.keepIn K (.ref fA) = true) (bA : Binds K dA ["draw"] []) (gA : mg "_law_any" = some (.ref fA))
    (GK : FnOk P w K mg base CX0 1 fK dK ["error"] (spKinds K Cs)) (kK : PySem.W.keepIn K (.ref fK) = true) (bK : Binds K dK ["error"] []) (gK : mg "_law_kinds" = some (.ref fK))
    (GR : FnOk P w K mg base CX0 1 fR dR ["words_here"] (spPlain Cs)) (kR : PySem.W.keepIn K (.ref fR) = true) (bR : Binds K dR ["words_here"] []) (gR : mg "_law_plain_errors" = some (.ref fR))
    (GO : FnOk P w K mg base CX0 3 fO dO ["each"] (spOf Cs)) (kO : PySem.W.keepIn K (.ref fO) = true) (bO : Binds K dO ["each"] []) (gO : mg "_law_errors_of" = some (.ref fO))
    {s : Shared} {H : Hp} {a : Addr} {ns : List Int} (e0 : Env0 P w K mg base callerA [] s H) (hS : SqL K H a (ns.map V.int)) (hn : ns.length ≤ 63) (hb : BindsTo s fd ⟨[.ref a], []⟩ [("script", .ref a)]) :
    codeAny (model P w) callerA (.call (.ref f) ⟨[.ref a], []⟩) (CR CX0 [] P w H s (fun v _ => v = .bl true) E0) s := by
  have hr : Room 5 callerA := ⟨rfl, by decide, by decide⟩
  refine run_def F scL (vs := [.ref a]) (us := [.ref a]) rfl hr e0 hb (.cons rfl .nil) fun cdv => ?_
  have hr : Room 4 (callerA.deeper (PyProof.Rows.envOfC "law" (defScope sLaw) s.heap.objs.size f cdv)) := hr.deeper _
  have r1 : Room 1 _ := hr.mono (by decide)
  have r3 : Room 3 _ := hr.mono (by decide)
  refine ⟨_, pss_cons (ps_set (i := 1) scL.nd rfl (Or.inl rfl) (pe_call GB r1 rfl gB kB bB .nil pass0 (pa_cons (pv 0) pa_nil)))
      (pss_cons (ps_asg (pe_tup (pa_cons (pe_call GP r3 rfl gP kP bP .nil pass0 (pa_cons (pv 1) (pa_cons (pe_lst (pa_cons pe_str (pa_cons pe_str (pa_cons pe_str pa_nil)))) pa_nil)))
            (pa_cons (pe_call GA hr rfl gA kA bA .nil pass0 (pa_cons (pv 1) pa_nil)) pa_nil)))
          (pg_tup rfl (pgs_cons (pg_name (i := 2) scL.nd rfl (Or.inl rfl)) (pgs_cons (pg_name (i := 3) scL.nd rfl (Or.inr rfl)) pgs_nil))))
      (pss_cons (ps_set (i := 4) scL.nd rfl (Or.inl rfl) (pe_call GO r3 rfl gO kO bO .nil pass0 (pa_cons (pv 3) pa_nil)))
      (pss_cons (ps_set (i := 5) scL.nd rfl (Or.inl rfl) (pe_op op_cat (pe_call GR r1 rfl gR kR bR .nil pass0 (pa_cons (pv 2) pa_nil))
          (pe_lc (own := [("item", 9)]) (g := gName 9) (tt := tYes) rfl scL.nd (pi_list (pv 4)) (blkOk_by (own := [("item", 9)]) (N := NL) (sc := defScope sLaw) (by decide +kernel))
            (fun _ _ _ _ _ => pg_name (i := 9) scL.nd rfl (Or.inl rfl)) (fun _ _ _ _ _ => pts_nil) (fun _ _ _ _ _ => pe_ix (r := rIxT K) ix_tup (pv 9) pe_int (fun _ _ => rfl)))))
      (pss_cons (law_for T GK kK bK gK hr) (pss_cons (law_if T hr)
      (pss_cons (ps_set (i := 8) scL.nd rfl (Or.inl rfl) (pe_exc1 PySem.F.excBase_ValueError T.plS T.gS T.kpS rfl pe_str))
      (pss_one (ps_ret (pe_and (pe_cmpR op_notIn_seq pe_bl (pe_call GK r1 rfl gK kK bK .nil pass0 (pa_cons (pv 8) pa_nil)) (by rfl))
          (pe_one (pe_callB call_isX (by rfl) T.isi (by decide +kernel) (pa_cons (pv 8) (pa_cons (pe_bltn (v := .ty "ValueError") (by rfl) T.val (by decide +kernel) rfl) pa_nil))))))))))))), ?_⟩
  -- draw = _law_begun(script)
  refine ⟨_, rfl, a, ns, rfl, hS, hn, fun d l c H1 nd nl nc D1 S1 => ?_⟩
  -- words_here, each = ..
  refine ⟨_, rfl, (by show 3 ≤ sizeLine; decide), fun p hp => ?_⟩
  obtain ⟨H2, e2, a2, S2⟩ := new_at (.lst [.str "", .str "w", .str "nothing of the kind"]) hp
  rw [e2]
  have npl : p ≠ l := by
    obtain ⟨ls, hl, _⟩ := D1.hl
    exact (ne_of_none hl hp).symm
  refine ⟨d, l, c, p, _, rfl, a2, npl, (by simp), (by simp), D1.same S2, fun wd H3 hw D3 X3 => ?_⟩
  refine ⟨_, rfl, d, l, c, rfl, D3, fun v e H4 he hq X4 => ?_⟩
  have S4 : Same H H4 := fun b o z => by
    have n1 : b ≠ d := fun q => by rw [q, nd] at z; cases z
    have n2 : b ≠ l := fun q => by rw [q, nl] at z; cases z
    exact X4 _ _ (X3 _ _ (S2 _ _ (S1 _ _ z)) n1 n2) n1 n2
  clear X3 X4 S1 S2 e2 a2 D1 D3
  refine ⟨by show 2 ≤ sizeLine; decide, fun t ht => ?_⟩
  obtain ⟨H5, e5, a5, S5⟩ := new_at (.tup [wd, v]) ht
  rw [e5]
  refine ⟨t, _, rfl, SqT.of a5, rfl, _, _, rfl, _, _, rfl, rfl, ?_⟩
  -- threes_here = _law_errors_of(each)
  refine ⟨_, rfl, v, rfl, fun th ts es H6 l1 l2 S6 _ h6 hi => ?_⟩
  -- errors_here = ..
  refine ⟨_, rfl, wd, rfl, fun q xs H7 l3 S7 _ h7 hx => ?_⟩
  have h67 := S7 _ _ h6
  refine ⟨_, rfl, th, rfl, ⟨_, SqL.of h67⟩, fun D1 hD => lc_list (K := K) (a := th) (xs := ts.map V.ref) (fun i H' => Same H7 H' ∧ H' D1 = some (.lst ((es.take i).map V.ref))) ?_ ?_ ?_ ?_⟩
  · exact ⟨(Same.refl _).put hD, by rw [upd_same]; rfl⟩
  · rintro i H' _ ⟨S8, _⟩
    exact SqL.of (S8 _ _ h67)
  · rintro i x H' hx' ⟨S8, hL⟩
    have hil : i < 6 := by
      have := (List.getElem?_eq_some_iff.mp hx').1
      rw [List.length_map, l1] at this
      exact this
    have xe : x = .ref (ts.getD i 0) := by
      have : (ts.map V.ref)[i]? = some (.ref (ts.getD i 0)) := by
        rw [List.getElem?_map, List.getD_eq_getElem?_getD, List.getElem?_eq_getElem (by omega)]
        rfl
      exact Option.some.inj (hx'.symm.trans this)
    subst xe
    have ht1 := S8 _ _ (S7 _ _ (hi i hil).1)
    refine ⟨rfl, _, rfl, ts.getD i 0, _, _, .ref (es.getD i 0), rfl, rfl, SqT.of ht1, atI_nat (j := 0) rfl, _, hL, ?_, S8.put hD, ?_⟩
    · rw [List.length_map]
      exact small1000 (Nat.le_trans (List.length_take_le _ _) (by omega))
    · rw [upd_same, List.take_add_one, List.map_append, List.getElem?_eq_getElem (by omega : i < es.length)]
      simp [List.getD_eq_getElem?_getD, List.getElem?_eq_getElem (by omega : i < es.length)]
  · rintro H8 ⟨S8, hL⟩
    rw [List.length_map, l1, ← l2, List.take_length] at hL
    refine ⟨q, D1, _, _, rfl, rfl, S8 _ _ h7, hL, ?_, fun er hr' => ?_⟩
    · rw [List.length_map, List.length_map, l3, l2]
      decide
    · obtain ⟨H9, e9, a9, S9⟩ := new_at (.lst ((xs ++ es).map V.ref)) hr'
      rw [← List.map_append, e9]
      have S69 : Same H6 H9 := (S7.trans S8).trans S9
      -- the loop
      refine ⟨a, d, th, er, wd, v, xs ++ es, rfl, a9, by rw [List.length_append, l3, l2], fun i h => ?_, fun sp eo HA SA => ?_⟩
      · by_cases c : i < 22
        · rw [getD_app_left (by omega)]
          exact (hx i c).same (S8.trans S9)
        · have q := ((hi (i - 22) (by omega)).2).same S69
          rw [getD_app_right (by omega), l3]
          rw [show 22 + (i - 22) = i by omega] at q
          exact q
      · have S6A := S69.trans SA
        -- if [..] != []
        refine ⟨a, d, th, er, wd, v, sp, eo, ts, es, e, rfl, S6A _ _ h6, l1, fun i h => S6A _ _ (hi i h).1, he, ((hq.same S5).same S6).same S6A, fun HB SB => ?_⟩
        -- base_here = SwayError('w'); return ..
        refine fun x hx => ?_
        obtain ⟨HC, eC, aC, SC⟩ := new_at (ExO (.ref S) x) hx
        show gName _ _ _ (upd HB x (ExO (.ref S) x)) _
        rw [eC]
        refine ⟨_, rfl, x, S, fun _ => false, rfl, .inl aC, T.exS, fun j hj => T.kitS j hj, fun p2 HD SD np h2 => ?_⟩
        refine ⟨p2, _, rfl, .inl (SqL.of h2), rfl, by decide, _, rfl, ?_⟩
        refine iteT ?_
        exact ⟨_, rfl, x, S, _, _, _, rfl, .ty _, ErrAt.same (.inl aC) SD, T.exS, T.kSV, rfl⟩
end
end K0
end

section
set_option maxRecDepth 100000
set_option maxHeartbeats 4000000
namespace K0
open PySem L2
def cAt (K : PySem.W.Frag) (n : Str) : Addr := match PySem.W.nsIn K mainGlobals n with | some (some (.ref a)) => a | _ => 0
def csOf (K : PySem.W.Frag) : List Addr := nm.map (cAt K)
def nsB (K : PySem.W.Frag) (n : Str) : Bool := decide (PySem.W.nsIn K mainGlobals n = some (some (.ref (cAt K n))))
def excB (K : PySem.W.Frag) (D : Addr) : Bool := xfB K D && (decide (PySem.W.findIn K (.ref D) "__class__" = some (some (.builtin "object.__class__"))) && (decide (PySem.W.mroIn K D (.type "object") = some true) && PySem.W.keepIn K (.ref D)))
def oxB (K : PySem.W.Frag) (C : Addr) : Bool := decide (PySem.W.findIn K (.ref C) "__setattr__" = some (some (.builtin "object.__setattr__"))) && decide (PySem.W.typeIn K (.ref C) = some (.type "type"))
def fnm : List Str := ["part", "part", "most", "name", "name", "at"]
def rowB (K : PySem.W.Frag) (Cs : List Addr) (S : Addr) (i : Nat) : Bool :=
  (List.range 28).all (fun j => decide (PySem.W.kitOne K (.ref (Cs.getD i 0)) (.ref (Cs.getD j 0)) = some (decide (j = i)))) && (decide (PySem.W.kitOne K (.ref (Cs.getD i 0)) (.ref S) = some true) && decide (PySem.W.kitOne K (.ref (Cs.getD i 0)) (.type "ValueError") = some true))
def onceB (K : PySem.W.Frag) : Bool := decide (PySem.W.specialIn K (.builtin "object.__class__") "__get__" = some (some (.builtin "getset_descriptor.__get__"))) && decide (PySem.W.takesIn K (.builtin "object.__class__") = some true)
def rowS (K : PySem.W.Frag) (Cs : List Addr) (S : Addr) : Bool := (List.range 28).all (fun j => decide (PySem.W.kitOne K (.ref S) (.ref (Cs.getD j 0)) = some false)) && (decide (PySem.W.kitOne K (.ref S) (.type "ValueError") = some true) && PySem.W.excIn K S bmVE "ValueError.__new__")
def fldB (K : PySem.W.Frag) (Cs : List Addr) (i : Nat) : Bool := oxB K (Cs.getD (22 + i) 0) && decide (PySem.W.findIn K (.ref (Cs.getD (22 + i) 0)) (fnm.getD i "") = some none)
/-- all that is asked of the classes, for the kernel to reckon -/
def allB (K : PySem.W.Frag) : Bool :=
  nm.all (nsB K) && (nsB K "SwayError" && ((List.range 28).all (fun i => excB K ((csOf K).getD i 0)) && (excB K (cAt K "SwayError") && (onceB K && ((List.range 22).all (fun i => PySem.W.excIn K ((csOf K).getD i 0) bmVE "ValueError.__new__") &&
    ((List.range 28).all (rowB K (csOf K) (cAt K "SwayError")) && (rowS K (csOf K) (cAt K "SwayError") && (List.range 6).all (fldB K (csOf K)))))))))
theorem cs_at {K : PySem.W.Frag} {i : Nat} {x : Str} (h : nm[i]? = some x) : (csOf K).getD i 0 = cAt K x := by
  unfold csOf
  rw [List.getD_eq_getElem?_getD, List.getElem?_map, h]
  rfl
theorem excB_ok {K : PySem.W.Frag} {D : Addr} (o : onceB K = true) (h : excB K D = true) : ExcC K D ∧ XfC K D ∧ PySem.W.keepIn K (.ref D) = true := by
  simp only [excB, onceB, Bool.and_eq_true, decide_eq_true_eq] at h o
  obtain ⟨h1, h2, h3, h4⟩ := h
  have X := xfB_ok h1
  exact ⟨⟨X.ga, X.gg, X.exC, X.hdC, h2, o.1, o.2, h3⟩, X, h4⟩
theorem tx_of {K : PySem.W.Frag} {h : Heap} {mg : Str → Option Value} (X : K.In h) (G : h.Ns mainGlobals mg) (B : allB K = true)
    (z : ∀ n ∈ ([("abs" : Str), "int", "len", "isinstance", "range", "enumerate", "repr", "ValueError"] : List Str), PySem.W.nsIn K mainGlobals n = some none)
    (ob : ∀ i, 22 ≤ i → i < 28 → ∃ nm' q N bs bm sn sub ab col dd k0 k1 k2 k3 k5, K.lookup ((csOf K).getD i 0) = some (excClassObj nm' q ((csOf K).getD i 0) N bs bm true sn sub ab col dd k0 k1 k2 k3 k5 "ValueError.__new__") ∧ PySem.HandSPX.refsVE bm = true) :
    Tx K mg (csOf K) (cAt K "SwayError") := by
  simp only [allB, Bool.and_eq_true, List.all_eq_true, List.mem_range] at B
  obtain ⟨b1, b2, b3, b4, b5, b6, b7, b8, b9⟩ := B
  have none_ : ∀ n ∈ ([("abs" : Str), "int", "len", "isinstance", "range", "enumerate", "repr", "ValueError"] : List Str), mg n = none := fun n hn => PySem.W.mg_none_of X G (z n hn)
  have cls : ∀ i, i < 28 → ExcC K ((csOf K).getD i 0) ∧ XfC K ((csOf K).getD i 0) ∧ PySem.W.keepIn K (.ref ((csOf K).getD i 0)) = true := fun i hi => excB_ok b5 (b3 i hi)
  have clsS := excB_ok b5 b4
  have rows : ∀ i, i < 28 → (∀ j, j < 28 → PySem.W.kitOne K (.ref ((csOf K).getD i 0)) (.ref ((csOf K).getD j 0)) = some (decide (j = i))) ∧ PySem.W.kitOne K (.ref ((csOf K).getD i 0)) (.ref (cAt K "SwayError")) = some true ∧ PySem.W.kitOne K (.ref ((csOf K).getD i 0)) (.type "ValueError") = some true := fun i hi => by
    have := b7 i hi
    simp only [rowB, Bool.and_eq_true, List.all_eq_true, List.mem_range, decide_eq_true_eq] at this
    exact this
  simp only [rowS, Bool.and_eq_true, List.all_eq_true, List.mem_range, decide_eq_true_eq] at b8
  have fld : ∀ i, i < 6 → (PySem.W.findIn K (.ref ((csOf K).getD (22 + i) 0)) "__setattr__" = some (some (.builtin "object.__setattr__")) ∧ PySem.W.typeIn K (.ref ((csOf K).getD (22 + i) 0)) = some (.type "type")) ∧ PySem.W.findIn K (.ref ((csOf K).getD (22 + i) 0)) (fnm.getD i "") = some none := fun i hi => by
    have := b9 i hi
    simp only [fldB, oxB, Bool.and_eq_true, decide_eq_true_eq] at this
    exact this
  refine { b := ⟨none_ _ (by simp), none_ _ (by simp), none_ _ (by simp)⟩, isi := none_ _ (by simp), rng := none_ _ (by simp), enm := none_ _ (by simp), rep := none_ _ (by simp), val := none_ _ (by simp), gs := fun i x hx => ?_, gS := PySem.W.mg_of X G (by simpa [nsB] using b2), pl := b6, kp := fun i hi => (cls i hi).2.2, plS := b8.2.2, kpS := clsS.2.2, ex := fun i hi => (cls i hi).1, exS := clsS.1, xf := fun i _ hi => (cls i hi).2.1, ox := fun i h1 h2 => ?_, kit := fun i j hi hj => (rows i hi).1 j hj, kitS := b8.1, kS := fun i hi => (rows i hi).2.1, kV := fun i hi => (rows i hi).2.2, kSV := b8.2.1, nof := fun i x h1 h2 hx => ?_ }
  · rw [cs_at hx]
    exact PySem.W.mg_of X G (by simpa [nsB] using b1 x (List.mem_of_getElem? hx))
  · obtain ⟨j, rfl⟩ : ∃ j, i = 22 + j := ⟨i - 22, by omega⟩
    have f := fld j (by omega)
    exact ⟨ob _ h1 h2, f.1.1, (cls _ h2).2.1.exC, f.1.2, (cls _ h2).2.2⟩
  · obtain ⟨j, rfl⟩ : ∃ j, i = 22 + j := ⟨i - 22, by omega⟩
    have f := (fld j (by omega)).2
    have e : fnm.getD j "" = x := by
      rw [Nat.add_sub_cancel_left] at hx
      rw [List.getD_eq_getElem?_getD]
      show (fnm[j]?).getD "" = x
      rw [show fnm[j]? = some x from hx]
      rfl
    rw [← e]
    exact f

theorem all_mk {P : Program} {w : World} {K : PySem.W.Frag} {h : Heap} {mg : Str → Option Value} {fa : Addr} (X : K.In h) (G : h.Ns mainGlobals mg) (hfa : mg "law" = some (.ref fa)) (B : allB K = true)
    {f0 : Addr} {od0 an0 : Option Addr} {sl0 : Array (Option Value)} {oc0 kv0 dc0 pm0 cd0 ct0 : Value}
    {f1 : Addr} {od1 an1 : Option Addr} {sl1 : Array (Option Value)} {oc1 kv1 dc1 pm1 cd1 ct1 : Value}
    {f2 : Addr} {od2 an2 : Option Addr} {sl2 : Array (Option Value)} {oc2 kv2 dc2 pm2 cd2 ct2 : Value}
    {f3 : Addr} {od3 an3 : Option Addr} {sl3 : Array (Option Value)} {oc3 kv3 dc3 pm3 cd3 ct3 : Value}
    {f4 : Addr} {od4 an4 : Option Addr} {sl4 : Array (Option Value)} {oc4 kv4 dc4 pm4 cd4 ct4 : Value}
    {f5 : Addr} {od5 an5 : Option Addr} {sl5 : Array (Option Value)} {oc5 kv5 dc5 pm5 cd5 ct5 : Value}
    {f6 : Addr} {od6 an6 : Option Addr} {sl6 : Array (Option Value)} {oc6 kv6 dc6 pm6 cd6 ct6 : Value}
    {f7 : Addr} {od7 an7 : Option Addr} {sl7 : Array (Option Value)} {oc7 kv7 dc7 pm7 cd7 ct7 : Value}
    {f8 : Addr} {od8 an8 : Option Addr} {sl8 : Array (Option Value)} {oc8 kv8 dc8 pm8 cd8 ct8 : Value}
    {C0 f20 : Addr} {od20 an20 : Option Addr} {sl20 : Array (Option Value)} {oc20 kv20 dc20 pm20 cd20 ct20 : Value}
    {nn0 nq0 : Str} {N0 : Addr} {bs0 bm0 : List Value} {sn0 : List Str} {sb0 : List Value} {ab0 : Bool} {co0 : Option Bool} {dd0 : Option Addr} {x00 x10 x20 x30 x50 : Option Value}
    {C1 f21 : Addr} {od21 an21 : Option Addr} {sl21 : Array (Option Value)} {oc21 kv21 dc21 pm21 cd21 ct21 : Value}
    {nn1 nq1 : Str} {N1 : Addr} {bs1 bm1 : List Value} {sn1 : List Str} {sb1 : List Value} {ab1 : Bool} {co1 : Option Bool} {dd1 : Option Addr} {x01 x11 x21 x31 x51 : Option Value}
    {C2 f22 : Addr} {od22 an22 : Option Addr} {sl22 : Array (Option Value)} {oc22 kv22 dc22 pm22 cd22 ct22 : Value}
    {nn2 nq2 : Str} {N2 : Addr} {bs2 bm2 : List Value} {sn2 : List Str} {sb2 : List Value} {ab2 : Bool} {co2 : Option Bool} {dd2 : Option Addr} {x02 x12 x22 x32 x52 : Option Value}
    {C3 f23 : Addr} {od23 an23 : Option Addr} {sl23 : Array (Option Value)} {oc23 kv23 dc23 pm23 cd23 ct23 : Value}
    {nn3 nq3 : Str} {N3 : Addr} {bs3 bm3 : List Value} {sn3 : List Str} {sb3 : List Value} {ab3 : Bool} {co3 : Option Bool} {dd3 : Option Addr} {x03 x13 x23 x33 x53 : Option Value}
    {C4 f24 : Addr} {od24 an24 : Option Addr} {sl24 : Array (Option Value)} {oc24 kv24 dc24 pm24 cd24 ct24 : Value}
    {nn4 nq4 : Str} {N4 : Addr} {bs4 bm4 : List Value} {sn4 : List Str} {sb4 : List Value} {ab4 : Bool} {co4 : Option Bool} {dd4 : Option Addr} {x04 x14 x24 x34 x54 : Option Value}
    {C5 f25 : Addr} {od25 an25 : Option Addr} {sl25 : Array (Option Value)} {oc25 kv25 dc25 pm25 cd25 ct25 : Value}
    {nn5 nq5 : Str} {N5 : Addr} {bs5 bm5 : List Value} {sn5 : List Str} {sb5 : List Value} {ab5 : Bool} {co5 : Option Bool} {dd5 : Option Addr} {x05 x15 x25 x35 x55 : Option Value}
    (a0 : PySem.W.nsIn K mainGlobals "_law_begun" = some (some (.ref f0)))
    (l0 : K.lookup f0 = some ⟨oc0, od0, .func (PySem.W.fnOf "_law_begun" "_law_begun" (defArgs sBegun) (defBody sBegun) (defScope sBegun) .none kv0 dc0 pm0 an0 cd0 ct0), sl0⟩)
    (c0 : PySem.W.codeIn K cd0 "_law_begun" = true)
    (k0 : PySem.W.keepIn K (.ref f0) = true)
    (a1 : PySem.W.nsIn K mainGlobals "_law_mixed" = some (some (.ref f1)))
    (l1 : K.lookup f1 = some ⟨oc1, od1, .func (PySem.W.fnOf "_law_mixed" "_law_mixed" (defArgs sMixed) (defBody sMixed) (defScope sMixed) .none kv1 dc1 pm1 an1 cd1 ct1), sl1⟩)
    (c1 : PySem.W.codeIn K cd1 "_law_mixed" = true)
    (k1 : PySem.W.keepIn K (.ref f1) = true)
    (a2 : PySem.W.nsIn K mainGlobals "_law_take" = some (some (.ref f2)))
    (l2 : K.lookup f2 = some ⟨oc2, od2, .func (PySem.W.fnOf "_law_take" "_law_take" (defArgs sTake) (defBody sTake) (defScope sTake) .none kv2 dc2 pm2 an2 cd2 ct2), sl2⟩)
    (c2 : PySem.W.codeIn K cd2 "_law_take" = true)
    (k2 : PySem.W.keepIn K (.ref f2) = true)
    (a3 : PySem.W.nsIn K mainGlobals "_law_pick" = some (some (.ref f3)))
    (l3 : K.lookup f3 = some ⟨oc3, od3, .func (PySem.W.fnOf "_law_pick" "_law_pick" (defArgs sPick) (defBody sPick) (defScope sPick) .none kv3 dc3 pm3 an3 cd3 ct3), sl3⟩)
    (c3 : PySem.W.codeIn K cd3 "_law_pick" = true)
    (k3 : PySem.W.keepIn K (.ref f3) = true)
    (a4 : PySem.W.nsIn K mainGlobals "_law_any" = some (some (.ref f4)))
    (l4 : K.lookup f4 = some ⟨oc4, od4, .func (PySem.W.fnOf "_law_any" "_law_any" (defArgs sAny) (defBody sAny) (defScope sAny) .none kv4 dc4 pm4 an4 cd4 ct4), sl4⟩)
    (c4 : PySem.W.codeIn K cd4 "_law_any" = true)
    (k4 : PySem.W.keepIn K (.ref f4) = true)
    (a5 : PySem.W.nsIn K mainGlobals "_law_kinds" = some (some (.ref f5)))
    (l5 : K.lookup f5 = some ⟨oc5, od5, .func (PySem.W.fnOf "_law_kinds" "_law_kinds" (defArgs sKinds) (defBody sKinds) (defScope sKinds) .none kv5 dc5 pm5 an5 cd5 ct5), sl5⟩)
    (c5 : PySem.W.codeIn K cd5 "_law_kinds" = true)
    (k5 : PySem.W.keepIn K (.ref f5) = true)
    (a6 : PySem.W.nsIn K mainGlobals "_law_plain_errors" = some (some (.ref f6)))
    (l6 : K.lookup f6 = some ⟨oc6, od6, .func (PySem.W.fnOf "_law_plain_errors" "_law_plain_errors" (defArgs sPlain) (defBody sPlain) (defScope sPlain) .none kv6 dc6 pm6 an6 cd6 ct6), sl6⟩)
    (c6 : PySem.W.codeIn K cd6 "_law_plain_errors" = true)
    (k6 : PySem.W.keepIn K (.ref f6) = true)
    (a7 : PySem.W.nsIn K mainGlobals "_law_errors_of" = some (some (.ref f7)))
    (l7 : K.lookup f7 = some ⟨oc7, od7, .func (PySem.W.fnOf "_law_errors_of" "_law_errors_of" (defArgs sOf) (defBody sOf) (defScope sOf) .none kv7 dc7 pm7 an7 cd7 ct7), sl7⟩)
    (c7 : PySem.W.codeIn K cd7 "_law_errors_of" = true)
    (k7 : PySem.W.keepIn K (.ref f7) = true)
    (a8 : PySem.W.nsIn K mainGlobals "law" = some (some (.ref f8)))
    (l8 : K.lookup f8 = some ⟨oc8, od8, .func (PySem.W.fnOf "law" "law" (defArgs sLaw) (defBody sLaw) (defScope sLaw) .none kv8 dc8 pm8 an8 cd8 ct8), sl8⟩)
    (c8 : PySem.W.codeIn K cd8 "law" = true)
    (k8 : PySem.W.keepIn K (.ref f8) = true)
    (g0 : PySem.W.nsIn K mainGlobals "BadNumber" = some (some (.ref C0)))
    (x0 : K.lookup C0 = some (excClassObj nn0 nq0 C0 N0 bs0 bm0 true sn0 sb0 ab0 co0 dd0 x00 x10 x20 x30 x50 "ValueError.__new__"))
    (r0 : PySem.HandSPX.refsVE bm0 = true)
    (a20 : PySem.W.findIn K (.ref C0) "__init__" = some (some (.ref f20)))
    (t20 : PySem.W.typeIn K (.ref f20) = some (.type "function"))
    (l20 : K.lookup f20 = some ⟨oc20, od20, .func (PySem.W.fnOf "__init__" "BadNumber.__init__" (defArgs sI0) (defBody sI0) (defScope sI0) .none kv20 dc20 pm20 an20 cd20 ct20), sl20⟩)
    (c20 : PySem.W.codeIn K cd20 "BadNumber.__init__" = true)
    (k20 : PySem.W.keepIn K (.ref f20) = true)
    (g1 : PySem.W.nsIn K mainGlobals "BadHouse" = some (some (.ref C1)))
    (x1 : K.lookup C1 = some (excClassObj nn1 nq1 C1 N1 bs1 bm1 true sn1 sb1 ab1 co1 dd1 x01 x11 x21 x31 x51 "ValueError.__new__"))
    (r1 : PySem.HandSPX.refsVE bm1 = true)
    (a21 : PySem.W.findIn K (.ref C1) "__init__" = some (some (.ref f21)))
    (t21 : PySem.W.typeIn K (.ref f21) = some (.type "function"))
    (l21 : K.lookup f21 = some ⟨oc21, od21, .func (PySem.W.fnOf "__init__" "BadHouse.__init__" (defArgs sI1) (defBody sI1) (defScope sI1) .none kv21 dc21 pm21 an21 cd21 ct21), sl21⟩)
    (c21 : PySem.W.codeIn K cd21 "BadHouse.__init__" = true)
    (k21 : PySem.W.keepIn K (.ref f21) = true)
    (g2 : PySem.W.nsIn K mainGlobals "TooMany" = some (some (.ref C2)))
    (x2 : K.lookup C2 = some (excClassObj nn2 nq2 C2 N2 bs2 bm2 true sn2 sb2 ab2 co2 dd2 x02 x12 x22 x32 x52 "ValueError.__new__"))
    (r2 : PySem.HandSPX.refsVE bm2 = true)
    (a22 : PySem.W.findIn K (.ref C2) "__init__" = some (some (.ref f22)))
    (t22 : PySem.W.typeIn K (.ref f22) = some (.type "function"))
    (l22 : K.lookup f22 = some ⟨oc22, od22, .func (PySem.W.fnOf "__init__" "TooMany.__init__" (defArgs sI2) (defBody sI2) (defScope sI2) .none kv22 dc22 pm22 an22 cd22 ct22), sl22⟩)
    (c22 : PySem.W.codeIn K cd22 "TooMany.__init__" = true)
    (k22 : PySem.W.keepIn K (.ref f22) = true)
    (g3 : PySem.W.nsIn K mainGlobals "NoMark" = some (some (.ref C3)))
    (x3 : K.lookup C3 = some (excClassObj nn3 nq3 C3 N3 bs3 bm3 true sn3 sb3 ab3 co3 dd3 x03 x13 x23 x33 x53 "ValueError.__new__"))
    (r3 : PySem.HandSPX.refsVE bm3 = true)
    (a23 : PySem.W.findIn K (.ref C3) "__init__" = some (some (.ref f23)))
    (t23 : PySem.W.typeIn K (.ref f23) = some (.type "function"))
    (l23 : K.lookup f23 = some ⟨oc23, od23, .func (PySem.W.fnOf "__init__" "NoMark.__init__" (defArgs sI3) (defBody sI3) (defScope sI3) .none kv23 dc23 pm23 an23 cd23 ct23), sl23⟩)
    (c23 : PySem.W.codeIn K cd23 "NoMark.__init__" = true)
    (k23 : PySem.W.keepIn K (.ref f23) = true)
    (g4 : PySem.W.nsIn K mainGlobals "NoWatch" = some (some (.ref C4)))
    (x4 : K.lookup C4 = some (excClassObj nn4 nq4 C4 N4 bs4 bm4 true sn4 sb4 ab4 co4 dd4 x04 x14 x24 x34 x54 "ValueError.__new__"))
    (r4 : PySem.HandSPX.refsVE bm4 = true)
    (a24 : PySem.W.findIn K (.ref C4) "__init__" = some (some (.ref f24)))
    (t24 : PySem.W.typeIn K (.ref f24) = some (.type "function"))
    (l24 : K.lookup f24 = some ⟨oc24, od24, .func (PySem.W.fnOf "__init__" "NoWatch.__init__" (defArgs sI4) (defBody sI4) (defScope sI4) .none kv24 dc24 pm24 an24 cd24 ct24), sl24⟩)
    (c24 : PySem.W.codeIn K cd24 "NoWatch.__init__" = true)
    (k24 : PySem.W.keepIn K (.ref f24) = true)
    (g5 : PySem.W.nsIn K mainGlobals "BadText" = some (some (.ref C5)))
    (x5 : K.lookup C5 = some (excClassObj nn5 nq5 C5 N5 bs5 bm5 true sn5 sb5 ab5 co5 dd5 x05 x15 x25 x35 x55 "ValueError.__new__"))
    (r5 : PySem.HandSPX.refsVE bm5 = true)
    (a25 : PySem.W.findIn K (.ref C5) "__init__" = some (some (.ref f25)))
    (t25 : PySem.W.typeIn K (.ref f25) = some (.type "function"))
    (l25 : K.lookup f25 = some ⟨oc25, od25, .func (PySem.W.fnOf "__init__" "BadText.__init__" (defArgs sI5) (defBody sI5) (defScope sI5) .none kv25 dc25 pm25 an25 cd25 ct25), sl25⟩)
    (c25 : PySem.W.codeIn K cd25 "BadText.__init__" = true)
    (k25 : PySem.W.keepIn K (.ref f25) = true)
    (z0 : PySem.W.nsIn K mainGlobals "abs" = some none)
    (z1 : PySem.W.nsIn K mainGlobals "int" = some none)
    (z2 : PySem.W.nsIn K mainGlobals "len" = some none)
    (z3 : PySem.W.nsIn K mainGlobals "isinstance" = some none)
    (z4 : PySem.W.nsIn K mainGlobals "range" = some none)
    (z5 : PySem.W.nsIn K mainGlobals "enumerate" = some none)
    (z6 : PySem.W.nsIn K mainGlobals "repr" = some none)
    (z7 : PySem.W.nsIn K mainGlobals "ValueError" = some none)
    : ∀ (base : Heap) (s : Shared) (H : Hp) (a : Addr) (ns : List Int), K.In base → base.Ns mainGlobals mg → Env0 P w K mg base callerA [] s H → SqL K H a (ns.map V.int) → ns.length ≤ 63 →
      codeAny (model P w) callerA (.call (.ref fa) ⟨[.ref a], []⟩) (CR CX0 [] P w H s (fun v _ => v = .bl true) E0) s := by
  have e := hfa.symm.trans (PySem.W.mg_of X G a8)
  cases e
  have e0 : (csOf K).getD 22 0 = C0 := by rw [cs_at (x := "BadNumber") rfl]; unfold cAt; rw [g0]
  have e1 : (csOf K).getD 23 0 = C1 := by rw [cs_at (x := "BadHouse") rfl]; unfold cAt; rw [g1]
  have e2 : (csOf K).getD 24 0 = C2 := by rw [cs_at (x := "TooMany") rfl]; unfold cAt; rw [g2]
  have e3 : (csOf K).getD 25 0 = C3 := by rw [cs_at (x := "NoMark") rfl]; unfold cAt; rw [g3]
  have e4 : (csOf K).getD 26 0 = C4 := by rw [cs_at (x := "NoWatch") rfl]; unfold cAt; rw [g4]
  have e5 : (csOf K).getD 27 0 = C5 := by rw [cs_at (x := "BadText") rfl]; unfold cAt; rw [g5]
  have T : Tx K mg (csOf K) (cAt K "SwayError") := by
    refine tx_of X G B (fun n hn => ?_) fun i h1 h2 => ?_
    · simp only [List.mem_cons, List.not_mem_nil, or_false] at hn
      rcases hn with rfl | rfl | rfl | rfl | rfl | rfl | rfl | rfl
      · exact z0
      · exact z1
      · exact z2
      · exact z3
      · exact z4
      · exact z5
      · exact z6
      · exact z7
    · obtain ⟨j, rfl⟩ : ∃ j, i = 22 + j := ⟨i - 22, by omega⟩
      match j, h2 with
      | 0, _ => exact e0.symm ▸ ⟨_, _, _, _, _, _, _, _, _, _, _, _, _, _, _, x0, r0⟩
      | 1, _ => exact e1.symm ▸ ⟨_, _, _, _, _, _, _, _, _, _, _, _, _, _, _, x1, r1⟩
      | 2, _ => exact e2.symm ▸ ⟨_, _, _, _, _, _, _, _, _, _, _, _, _, _, _, x2, r2⟩
      | 3, _ => exact e3.symm ▸ ⟨_, _, _, _, _, _, _, _, _, _, _, _, _, _, _, x3, r3⟩
      | 4, _ => exact e4.symm ▸ ⟨_, _, _, _, _, _, _, _, _, _, _, _, _, _, _, x4, r4⟩
      | 5, _ => exact e5.symm ▸ ⟨_, _, _, _, _, _, _, _, _, _, _, _, _, _, _, x5, r5⟩
      | n + 6, h2 => omega
  let fi : Nat → Addr := fun i => match i with | 0 => f20 | 1 => f21 | 2 => f22 | 3 => f23 | 4 => f24 | _ => f25
  have F20 := fun_mk (st := sI0) l20 c20 k20
  have F21 := fun_mk (st := sI1) l21 c21 k21
  have F22 := fun_mk (st := sI2) l22 c22 k22
  have F23 := fun_mk (st := sI3) l23 c23 k23
  have F24 := fun_mk (st := sI4) l24 c24 k24
  have F25 := fun_mk (st := sI5) l25 c25 k25
  let fdi : Nat → FuncData := fun i => match i with | 0 => (PySem.W.fnOf "__init__" "BadNumber.__init__" (defArgs sI0) (defBody sI0) (defScope sI0) .none kv20 dc20 pm20 an20 cd20 ct20) | 1 => (PySem.W.fnOf "__init__" "BadHouse.__init__" (defArgs sI1) (defBody sI1) (defScope sI1) .none kv21 dc21 pm21 an21 cd21 ct21) | 2 => (PySem.W.fnOf "__init__" "TooMany.__init__" (defArgs sI2) (defBody sI2) (defScope sI2) .none kv22 dc22 pm22 an22 cd22 ct22) | 3 => (PySem.W.fnOf "__init__" "NoMark.__init__" (defArgs sI3) (defBody sI3) (defScope sI3) .none kv23 dc23 pm23 an23 cd23 ct23) | 4 => (PySem.W.fnOf "__init__" "NoWatch.__init__" (defArgs sI4) (defBody sI4) (defScope sI4) .none kv24 dc24 pm24 an24 cd24 ct24) | _ => (PySem.W.fnOf "__init__" "BadText.__init__" (defArgs sI5) (defBody sI5) (defScope sI5) .none kv25 dc25 pm25 an25 cd25 ct25)
  have I : Inits K (csOf K) fi fdi := by
    refine ⟨fun i hi => ?_, fun i hi => ?_, F20, F21, F22, F23, F24, F25⟩
    · match i, hi with
      | 0, _ => exact e0.symm ▸ a20
      | 1, _ => exact e1.symm ▸ a21
      | 2, _ => exact e2.symm ▸ a22
      | 3, _ => exact e3.symm ▸ a23
      | 4, _ => exact e4.symm ▸ a24
      | 5, _ => exact e5.symm ▸ a25
      | n + 6, hi => omega
    · match i, hi with
      | 0, _ => exact t20
      | 1, _ => exact t21
      | 2, _ => exact t22
      | 3, _ => exact t23
      | 4, _ => exact t24
      | 5, _ => exact t25
      | n + 6, hi => omega
  have D0 := fun_mk (st := sBegun) l0 c0 k0
  have b0 := D0.binds (ps := ["script"]) fun _ _ _ _ _ _ us hl => match us, hl with | [_], _ => rfl
  have D1 := fun_mk (st := sMixed) l1 c1 k1
  have b1 := D1.binds (ps := ["draw"]) fun _ _ _ _ _ _ us hl => match us, hl with | [_], _ => rfl
  have D2 := fun_mk (st := sTake) l2 c2 k2
  have b2 := D2.binds (ps := ["draw", "amount"]) fun _ _ _ _ _ _ us hl => match us, hl with | [_, _], _ => rfl
  have D3 := fun_mk (st := sPick) l3 c3 k3
  have b3 := D3.binds (ps := ["draw", "some"]) fun _ _ _ _ _ _ us hl => match us, hl with | [_, _], _ => rfl
  have D4 := fun_mk (st := sAny) l4 c4 k4
  have b4 := D4.binds (ps := ["draw"]) fun _ _ _ _ _ _ us hl => match us, hl with | [_], _ => rfl
  have D5 := fun_mk (st := sKinds) l5 c5 k5
  have b5 := D5.binds (ps := ["error"]) fun _ _ _ _ _ _ us hl => match us, hl with | [_], _ => rfl
  have D6 := fun_mk (st := sPlain) l6 c6 k6
  have b6 := D6.binds (ps := ["words_here"]) fun _ _ _ _ _ _ us hl => match us, hl with | [_], _ => rfl
  have D7 := fun_mk (st := sOf) l7 c7 k7
  have b7 := D7.binds (ps := ["each"]) fun _ _ _ _ _ _ us hl => match us, hl with | [_], _ => rfl
  have D8 := fun_mk (st := sLaw) l8 c8 k8
  have b8 := D8.binds (ps := ["script"]) fun _ _ _ _ _ _ us hl => match us, hl with | [_], _ => rfl
  intro base s H a ns _ _ e0 hS hn
  have GT := ok_take (P := P) (w := w) (base := base) D2 T.b D1 b1 (PySem.W.mg_of X G a1)
  have GP := ok_pick D3 T.b GT k2 b2 (PySem.W.mg_of X G a2)
  have GA := ok_any D4 GP k3 b3 (PySem.W.mg_of X G a3)
  exact law_run D8 T (ok_begun D0 T.b) k0 b0 (PySem.W.mg_of X G a0) GP k3 b3 (PySem.W.mg_of X G a3) GA k4 b4 (PySem.W.mg_of X G a4) (ok_kinds D5 T) k5 b5 (PySem.W.mg_of X G a5)
    (ok_plain D6 T) k6 b6 (PySem.W.mg_of X G a6) (ok_of D7 T I) k7 b7 (PySem.W.mg_of X G a7) e0 hS hn (.of_eq rfl)
end K0
end

open PySem PySem.W PyProof.Rows
set_option maxRecDepth 100000 in
set_option maxHeartbeats 0 in
open_top k0_head for PySem.Challenge.rw_unswayed_k00_errors_of_all_parts
set_option maxRecDepth 100000 in
set_option maxHeartbeats 0 in
theorem PySem.Challenge.cw_unswayed_k00_errors_of_all_parts_holds : PySem.Challenge.rw_unswayed_k00_errors_of_all_parts.Holds := by
  refine k0_head ?_
  k_fill
  refine L2.walk_at_entry (l := PySem.Challenge.rw_unswayed_k00_errors_of_all_parts) (n := 63) rfl (by decide) rfl (fun w h Y => PySem.W.kIn_of Y) ?F
  case F =>
    intro w mg fa h KX G hmg
    refine' K0.all_mk KX G hmg (by kernel_rfl) ?a0 ?l0 ?c0 ?k0 ?a1 ?l1 ?c1 ?k1 ?a2 ?l2 ?c2 ?k2 ?a3 ?l3 ?c3 ?k3 ?a4 ?l4 ?c4 ?k4 ?a5 ?l5 ?c5 ?k5 ?a6 ?l6 ?c6 ?k6 ?a7 ?l7 ?c7 ?k7 ?a8 ?l8 ?c8 ?k8 ?g0 ?x0 ?r0 ?a20 ?t20 ?l20 ?c20 ?k20 ?g1 ?x1 ?r1 ?a21 ?t21 ?l21 ?c21 ?k21 ?g2 ?x2 ?r2 ?a22 ?t22 ?l22 ?c22 ?k22 ?g3 ?x3 ?r3 ?a23 ?t23 ?l23 ?c23 ?k23 ?g4 ?x4 ?r4 ?a24 ?t24 ?l24 ?c24 ?k24 ?g5 ?x5 ?r5 ?a25 ?t25 ?l25 ?c25 ?k25 ?z0 ?z1 ?z2 ?z3 ?z4 ?z5 ?z6 ?z7
    (case a0 => k_is)
    (case l0 => k_is)
    (case c0 => k_is)
    (case k0 => k_is)
    (case a1 => k_is)
    (case l1 => k_is)
    (case c1 => k_is)
    (case k1 => k_is)
    (case a2 => k_is)
    (case l2 => k_is)
    (case c2 => k_is)
    (case k2 => k_is)
    (case a3 => k_is)
    (case l3 => k_is)
    (case c3 => k_is)
    (case k3 => k_is)
    (case a4 => k_is)
    (case l4 => k_is)
    (case c4 => k_is)
    (case k4 => k_is)
    (case a5 => k_is)
    (case l5 => k_is)
    (case c5 => k_is)
    (case k5 => k_is)
    (case a6 => k_is)
    (case l6 => k_is)
    (case c6 => k_is)
    (case k6 => k_is)
    (case a7 => k_is)
    (case l7 => k_is)
    (case c7 => k_is)
    (case k7 => k_is)
    (case a8 => k_is)
    (case l8 => k_is)
    (case c8 => k_is)
    (case k8 => k_is)
    (case g0 => k_is)
    (case x0 => k_is)
    (case r0 => rfl)
    (case a20 => k_is)
    (case t20 => k_is)
    (case l20 => k_is)
    (case c20 => k_is)
    (case k20 => k_is)
    (case g1 => k_is)
    (case x1 => k_is)
    (case r1 => rfl)
    (case a21 => k_is)
    (case t21 => k_is)
    (case l21 => k_is)
    (case c21 => k_is)
    (case k21 => k_is)
    (case g2 => k_is)
    (case x2 => k_is)
    (case r2 => rfl)
    (case a22 => k_is)
    (case t22 => k_is)
    (case l22 => k_is)
    (case c22 => k_is)
    (case k22 => k_is)
    (case g3 => k_is)
    (case x3 => k_is)
    (case r3 => rfl)
    (case a23 => k_is)
    (case t23 => k_is)
    (case l23 => k_is)
    (case c23 => k_is)
    (case k23 => k_is)
    (case g4 => k_is)
    (case x4 => k_is)
    (case r4 => rfl)
    (case a24 => k_is)
    (case t24 => k_is)
    (case l24 => k_is)
    (case c24 => k_is)
    (case k24 => k_is)
    (case g5 => k_is)
    (case x5 => k_is)
    (case r5 => rfl)
    (case a25 => k_is)
    (case t25 => k_is)
    (case l25 => k_is)
    (case c25 => k_is)
    (case k25 => k_is)
    (case z0 => k_is)
    (case z1 => k_is)
    (case z2 => k_is)
    (case z3 => k_is)
    (case z4 => k_is)
    (case z5 => k_is)
    (case z6 => k_is)
    (case z7 => k_is)
#print axioms PySem.Challenge.cw_unswayed_k00_errors_of_all_parts_holds
