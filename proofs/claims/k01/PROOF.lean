import PyProof.Rows.All
import Wide.All
import OpenK.AllK
import Wide.FinOn
import HandS.ForMost
import HandS.ForExc
import HandS.ExcInit
import HandS.ExcIs
import HandS.ExcField
import HandS.IsInst
import KE.KStateDown
import HandS.Defaults
import HandS.Head0
import HandS.Head1
import HandS.Head2
import HandS.Head3
import HandS.Head4
import HandS.HeadEnd
import HandS.HeadHook1
import HandS.HeadHook2
import HandS.HeadHook3
import HandS.HeadHook4
import HandS.Walk
import PySem.Challenge.RW_jointkeys_k01_errors
set_option Elab.async false
set_option linter.all false
set_option maxRecDepth 100000
set_option maxHeartbeats 4000000
/-! Own exceptions as plain values: made, their fields read, their methods called, isinstance asked of them. -/
namespace L2.Jk
open PySem PySem.W PySem.Spec PySem.Calls PyProof.Rows

/-- what an own error class says of itself, for its instances as values -/
structure ErrC (K : Frag) (C : Addr) : Prop where
  ox : OexC K C
  xf : XfC K C
  kk : findIn K (.ref C) "__class__" = some (some (.builtin "object.__class__"))
  kn : specialIn K (.builtin "object.__class__") "__get__" = some (some (.builtin "getset_descriptor.__get__"))
  kt : takesIn K (.builtin "object.__class__") = some true
  km : mroIn K C (.type "object") = some true

section
variable {prog : Program} {w : World} {A : Around} {E : Value → Shared → Prop} {s : Shared} {K : Frag} {e C f : Addr} {oe od : Obj}

/-- e.__class__ of an error with a dict of its own -/
theorem err_class {Q : Option Value → Shared → Prop} (T : ErrC K C) (X : K.In s.heap) (I : InstAt s.heap e oe C (some od)) (h : Q (some (.ref C)) { s with toks := s.toks + 1 }) :
    wpAny (model prog w) A (getAttr? (.ref e) "__class__") Q E s := by
  obtain ⟨cd, hcd, _⟩ := any_some T.xf.hdC
  have look := findObj_data (od := od) (show (clsIn K C).isSome = true by rw [hcd]; rfl) T.kk T.kn T.kt
  obtain ⟨hp, gn, dr, tk, os⟩ := s
  have lt := I.type (M := model prog w)
  have lg := looks_findIn (M := model prog w) X T.xf.ga
  have lh := looks_findIn (M := model prog w) X T.xf.gg
  have lf := looks_find (M := model prog w) X I look
  have inB : Looks (model prog w) hp (isInstance (.ref e) (.type "BaseException")) true := lt.andThen (looks_subIn X T.xf.exC)
  have n2 : (Value.builtin "BaseException.__getattribute__" == Value.builtin "object.__getattribute__") = false := by decide +kernel
  have n1 : (onTheHeap (Value.ref C) && Value.builtin "BaseException.__getattribute__" == Value.builtin "object.__getattribute__") = false := by rw [n2] <;> rfl
  unfold getAttr? getAttrBy? getAttrBy
  refine wpAny_bind (wpAny_mkText (wpAny_bind (wpAny_attempt (wpAny_holding (wpAny_bind (lt.at (wpAny_bind (lg.at ?_))))))))
  show wpAny _ _ (if (onTheHeap (Value.ref C) && Value.builtin "BaseException.__getattribute__" == Value.builtin "object.__getattribute__") = true then _ else _) _ _ _
  rw [n1, if_neg Bool.false_ne_true]
  unfold getAttrByItsOwn hookBefore
  refine wpAny_bind ?_
  rw [if_pos (show onTheHeap (Value.ref C) = true from rfl)]
  refine lh.at (wpAny_bind (wpAny_attempt (wpAny_holding ?_)))
  unfold callGetattribute
  rw [show (false && onTheHeap (Value.builtin "BaseException.__getattribute__")) = false from rfl, if_neg Bool.false_ne_true]
  unfold boundAndCalled
  rw [PySem.F.excAttr_ValueError.ga.bind (.ref e)]
  refine wpAny_bind (wpAny_pure ?_)
  show wpAny _ _ (call (.builtin "BaseException.__getattribute__") [.ref e, .str "__class__" tk]) _ _ _
  refine wpAny_call (codeAny_call_builtin PySem.F.excAttr_ValueError.ga.plain PySem.F.entry_bexc_ga ?_)
  refine @check_slot (model prog w) _ _ ⟨hp, gn, dr, tk + 1, os⟩ "BaseException.__getattribute__" "BaseException" "__getattribute__" (.ref e) [.str "__class__" tk] [] _
    (by decide +kernel) (by decide +kernel) inB (PySem.F.args_bexc_ga (.ref e) (.str "__class__" tk)) ?_
  unfold Builtin.«object.__getattribute__»
  refine wpAny_bind (wpAny_of_eq (a := ((Value.ref e : Value), [Value.str "__class__" tk])) (by first | rfl | (simp only [slotArgs]; rfl)) ?_)
  refine wpAny_bind (wpAny_pure (wpAny_bind (lt.at (wpAny_bind (lf.at ?_)))))
  show wpAny _ _ (holding [Value.builtin "object.__class__"] (call (.builtin "getset_descriptor.__get__") [.builtin "object.__class__", .ref e, .ref C]) >>= ret) _ _ _
  refine wpAny_bind (wpAny_holding (wpAny_call (class_get (s := ⟨hp, gn, dr, tk + 1, os⟩) (ox := oe) (od := some od) X I T.km ?_)))
  refine wpAny_pure ?_
  show wpAny _ _ (handedOut (.ref C)) _ _ _
  rw [handedOut_of (v := .ref C) rfl]
  first
    | exact wpAny_pure (wpAny_pure h)
    | exact wpAny_pure h
    | exact wpAny_pure (wpAny_bind (wpAny_pure (wpAny_pure h)))
/-- isinstance may be asked of it -/
theorem err_kit (T : ErrC K C) : KitX K (.ref e) (.ref C) (fun h => ∃ o d, InstAt h e o C (some d)) where
  ty := fun _ _ _ ⟨_, _, I⟩ => I.type
  it := fun _ _ X _ => by
    obtain ⟨cd, hc, _⟩ := any_some T.xf.hdC
    unfold clsIn at hc
    split at hc
    · rename_i ho
      intro _ _ _ _ k q
      unfold isType loadHead
      exact wpAny_bind (wpAny_loadPart (k _ _ (X _ _ ho)) (wpAny_pure q))
    · cases hc
  ne := fun h tp dd its n sl X htp => by
    obtain ⟨cd, hc, _⟩ := any_some T.xf.hdC
    refine Bool.eq_false_iff.mpr fun q => ?_
    have z : C = tp := Value.ref.inj (beq_iff_eq.mp q)
    subst z
    unfold clsIn at hc
    split at hc
    · rename_i ho
      have y := (X _ _ ho).symm.trans htp
      cases y
    · cases hc
  ca := fun X ⟨_, _, I⟩ k => err_class T X I k

/-- the method of an error, found in its class -/
theorem err_meth {name : Str} {pl : Sem Bool} {Q : Value × List Value → Shared → Prop} (T : ErrC K C) (X : K.In s.heap) (I : InstAt s.heap e oe C (some od))
    (hf : findIn K (.ref C) name = some (some (.ref f))) (ht : isFn K (.ref f) = true) (hs : shadowIn (some od) name = some false) (h : Q (.ref f, [.ref e]) s) :
    wpAny (model prog w) A (getMethod (.ref e) name pl) Q E s := by
  have cn : Manifest.canonical "BaseException.__getattribute__" = "object.__getattribute__" := by first | kernel_rfl | decide +kernel
  obtain ⟨r, ra, rb⟩ := Option.map_eq_some_iff.mp hs
  have dd := I.dict
  unfold getMethod specialOf
  refine wpAny_bind (wpAny_bind (I.type.here ((looks_findIn X T.xf.ga).here ?_)))
  dsimp only
  rw [cn, if_neg (by decide)]
  refine wpAny_bind (wpAny_bind (I.type.here ((looks_findIn X T.xf.gg).here ?_)))
  refine wpAny_bind (wpAny_bind (I.type.here ((looks_findIn X hf).here (wpAny_bind ((looks_typeIn X (beq_iff_eq.mp ht)).here ?_)))))
  rw [if_neg (by decide +kernel)]
  refine wpAny_bind (wpAny_loadPart I.at_ ?_)
  cases q : oe.dict with
  | none => exact wpAny_bind (wpAny_rule (wpAny_pure h))
  | some dx =>
    rw [q] at dd
    refine wpAny_bind (wpAny_bind (wpAny_loadPart dd ?_))
    rw [nsLook_of ra]
    refine wpAny_pure ?_
    rw [rb]
    exact wpAny_bind (wpAny_rule (wpAny_pure h))
end

section
variable {X : Cx} {pins : List (Addr × Obj)} {σ : St} {H : Hp} {s : Shared} {C a d : Addr} {fs : List (Str × V)}
/-- an error as the heap holds it -/
theorem err_at (I : Inv X pins σ H s) (ha : H a = some (exo a C (some d))) (hd : H d = some (exd d fs)) :
    ∃ o od mA, InstAt s.heap a o C (some od) ∧ s.heap.Ns1 d mA ∧ (∀ f, RelO (fs.lookup f) (mA f)) ∧ s.heap.get? d = some od ∧ ∀ f, lookIn f od = some (mA f) := by
  obtain ⟨t1, ho⟩ := exo_at I.hok ha
  obtain ⟨mA, hn, r⟩ := exd_at I.hok hd
  obtain ⟨od, hod, hl⟩ := lookIn_ns hn
  exact ⟨_, od, mA, ⟨ho, rfl, rfl, hod⟩, hn, r, hod, hl⟩
/-- e.f of an error -/
def tEf (K : Frag) (f : Str) (te : TE) : TE := fun σ H Q => te σ H fun x H1 => ∃ (a C d : Addr) (fs : List (Str × V)) (v : V), x = .ref a ∧ ErrC K C ∧ findIn K (.ref C) f = some none ∧
  H1 a = some (exo a C (some d)) ∧ H1 d = some (exd d fs) ∧ fs.lookup f = some v ∧ Q v H1
theorem pe_ef {e : Expr} {te : TE} {pos : Pos} {n : Str} (he : PE X e te) (hb : attributeBase e n X.env (eval e X.env) = eval e X.env := by rfl) :
    PE X (.Attribute e n pos) (tEf X.K n te) := by
  refine ⟨fun pins s σ H Q I h => ?_⟩
  refine attr_of hb (thn (he.run pins s σ H _ I h) fun u s1 hh => ?_)
  obtain ⟨x, H1, I1, rx, a, C, d, fs, v, ex, T, hno, ha, hd, l, q⟩ := hh
  subst ex
  obtain rfl : u = Value.ref a := rx
  obtain ⟨o, od, mA, J, hn, r, hod, hl⟩ := err_at I1 ha hd
  obtain ⟨u, hu, ru⟩ := RelO.some_of (v := v) (o := mA n) (by rw [← l]; exact r n)
  exact HandSPX.exc_get I1.kIn J T.xf.ga T.xf.gg T.xf.exC (findObj_own T.xf.hdC hno rfl (by rw [hl, hu])) (handed_of ru) ⟨v, H1, I1.tok _, ru, q⟩
/-- what a def promises, met when it is called: which def it is shows in the heap -/
def Does (X : Cx) (CX : CXT) (f : Addr) (vs : List V) (H : Hp) (Q : VK) (E : XK) : Prop :=
  ∃ (k : Nat) (fd : FuncData) (ps : List Str) (sp : Sp), keepIn X.K (.ref f) = true ∧ FnOk X.prog X.w X.K X.mg X.base CX k f fd ps sp ∧ Room k X.A ∧ Binds X.K fd ps [] ∧ sp vs H Q E
/-- e.m() of an error -/
def tEm0 (X : Cx) (CX : CXT) (m : Str) (E : XK) (te : TE) : TE := fun σ H Q => te σ H fun x H1 => ∃ (a C d f : Addr) (fs : List (Str × V)), x = .ref a ∧ ErrC X.K C ∧
  H1 a = some (exo a C (some d)) ∧ H1 d = some (exd d fs) ∧ fs.lookup m = none ∧ findIn X.K (.ref C) m = some (some (.ref f)) ∧ isFn X.K (.ref f) = true ∧ Does X CX f [.ref a] H1 Q E
theorem pe_em0 {CX : CXT} {E : XK} {o : Expr} {m : Str} {ta : TE} {apos pos : Pos} {pl : Sem Bool} (he : PE X o ta) (hx : Passes CX X E)
    (ht : eval (.Call (.Attribute o m apos) [] [] pos) X.env = (do
      let ov ← eval o X.env
      standAt apos.atName
      let (f, first) ← holding [ov] (getMethod ov m pl)
      callWith pos f first (backTo pos (starEach [] X.env)) (backToKw pos (keywordEach [] X.env))) := by rfl) :
    PE X (.Call (.Attribute o m apos) [] [] pos) (tEm0 X CX m E ta) := by
  refine ⟨fun pins s σ H Q I h => ?_⟩
  refine methodCall_KW (pl := pl) (thn (he.run pins s σ H _ I h) fun u s1 hh => ?_) ht
  obtain ⟨x, H1, I1, rx, a, C, d, f, fs, ex, T, ha, hd, l, hf, hfn, k, fd, ps, sp, kp, F, hr, hb, q⟩ := hh
  subst ex
  obtain rfl : u = Value.ref a := rx
  obtain ⟨o, od, mA, J, hn, r, hod, hl⟩ := err_at I1 ha hd
  have hno : mA m = none := RelO.none_of (by rw [← l]; exact r m)
  refine err_meth T I1.kIn J hf hfn (by show (lookIn m od).map _ = _; rw [hl, hno]; rfl) ?_
  exact callWith_K0 (first := [.ref a]) I1.kIn kp (run_fn (us := [.ref a]) (vs := [.ref a]) F hr hb .nil hx I1 (.cons rfl .nil) q)
/-- C(e, ..), an own error made and kept -/
def tMkE (C : Addr) (sp : Sp) (ta : TA) : TE := fun σ H Q => ta σ H fun vs H1 => vs.length ≤ 1000 ∧ ∀ a, H1 a = none → sp (.ref a :: vs) (upd H1 a (exo a C none)) (fun v H2 => v = .non ∧ Q (.ref a) H2) (fun _ _ _ => False)
theorem run_mkE {CX : CXT} {fI : Addr} {k : Nat} {fd : FuncData} {ps : List Str} {sp : Sp} {us : List Value} {vs : List V} {Q : VK} (T : OexC X.K C) (iC : findIn X.K (.ref C) "__init__" = some (some (.ref fI))) (tI : typeIn X.K (.ref fI) = some (.type "function"))
    (F1 : FnOk X.prog X.w X.K X.mg X.base CX k fI fd ps sp) (hr : Room (k + 1) X.A) (hb : Binds X.K fd ps []) (hx : Passes CX X (fun _ _ _ => False)) (I1 : Inv X pins σ H s) (r1 : Vals vs us) (hz : vs.length ≤ 1000)
    (q1 : ∀ a, H a = none → sp (.ref a :: vs) (upd H a (exo a C none)) (fun v H2 => v = .non ∧ Q (.ref a) H2) (fun _ _ _ => False)) :
    wpAny (model X.prog X.w) X.A (call (.ref C) us) (EP X pins σ Q) X.xe s := by
  obtain ⟨nm, q, N, bs, bm, sn, sub, ab, col, dd, k0, k1, k2, k3, k5, hC, hbm⟩ := T.cls
  obtain ⟨hp, g, dr, tk, os⟩ := s
  have sz : hp.objs.size ≤ hp.objs.size + 1 := Nat.le_succ _
  have fresh : H (hp.objs.size + 1) = none := I1.hok.fresh sz
  have pr := q1 (hp.objs.size + 1) fresh
  have keep : ∀ b o, hp.get? b = some o → ((hp.push (kdv_tup us)).push (HandSPX.excO C hp.objs.size)).get? b = some o := fun b o e => Heap.get?_push_of_some _ (Heap.get?_push_of_some _ e)
  have there : ((hp.push (kdv_tup us)).push (HandSPX.excO C hp.objs.size)).get? (hp.objs.size + 1) = some (HandSPX.excO C hp.objs.size) := by heap_get
  have I2 : Inv X pins σ (upd H (hp.objs.size + 1) (exo (hp.objs.size + 1) C none)) ⟨(hp.push (kdv_tup us)).push (HandSPX.excO C hp.objs.size), g, dr, tk, os⟩ :=
    I1.laid (t' := tk) (a := hp.objs.size + 1) (o := exo (hp.objs.size + 1) C none) (h' := (hp.push (kdv_tup us)).push (HandSPX.excO C hp.objs.size)) keep sz (exo_ok there)
  have r2 : Vals (V.ref (hp.objs.size + 1) :: vs) (Value.ref (hp.objs.size + 1) :: us) := .cons rfl r1
  have hl : (Value.ref (hp.objs.size + 1) :: us ++ []).length = ps.length := by
    rw [List.append_nil, ← r2.length]
    exact F1.len _ _ _ _ pr
  have hus : us.length ≤ sizeLine := by
    rw [← Paired.length r1, sizeLine_eq]
    omega
  have hb' := hb ⟨(hp.push (kdv_tup us)).push (HandSPX.excO C hp.objs.size), g, dr, tk, os⟩ (Value.ref (hp.objs.size + 1) :: us) I2.kIn hl
  rw [List.append_nil] at hb'
  refine wpAny_call (HandSPX.call_own F.excBase_ValueError (fun Y => HandSPX.refsVE_contains Y bm hbm) (I1.kIn _ _ hC) (looks_findIn I1.kIn iC) (fun self => bind_fn I1.kIn self tI) hus
    (codeAny_mono (F1.run _ X.stack _ _ ⟨Value.ref (hp.objs.size + 1) :: us, []⟩ (Value.ref (hp.objs.size + 1) :: us) _ _ (fun _ _ _ => False) (hr.make C us []) (I2.env0.make C us []) hb' r2 pr) fun r s' hq' => ?_))
  cases r with
  | error er => exact hx pins σ _ _ er s' I2 hq'
  | ok fl =>
    cases fl with
    | ret u =>
      obtain ⟨v, H2, I3, rv, ev, q3⟩ := I2.after hq'
      subst ev
      -- nothing was tracked at the new place
      exact ⟨rv, ⟨V.ref (hp.objs.size + 1), H2, I3, rfl, q3⟩⟩
    | next => exact False.elim hq'
    | brk => exact False.elim hq'
    | cont => exact False.elim hq'
theorem pe_mkE {CX : CXT} {x : Str} {fI : Addr} {k : Nat} {fd : FuncData} {ps : List Str} {sp : Sp} {e : Expr} {es : List Expr} {ta : TA} {p pos : Pos} (T : OexC X.K C) (iC : findIn X.K (.ref C) "__init__" = some (some (.ref fI))) (tI : typeIn X.K (.ref fI) = some (.type "function"))
    (F1 : FnOk X.prog X.w X.K X.mg X.base CX k fI fd ps sp) (hr : Room (k + 1) X.A) (hb : Binds X.K fd ps []) (hx : Passes CX X (fun _ _ _ => False)) (hg : Gl X x) (hm : X.mg x = some (.ref C)) (ha : PA X (e :: es) ta)
    (hdb : (x == ("__debug__" : Str)) = false := by decide) (he : starEach (e :: es) X.env = (false, eval e X.env) :: starEach es X.env := by rfl) (hpl : (backTo pos (starEach es X.env)).any (·.1) = false := by rfl) :
    PE X (.Call (.Name x p) (e :: es) [] pos) (tMkE C sp ta) := by
  refine ⟨fun pins s σ H Q I h => ?_⟩
  refine wpAny_Call_Name_kw (ld_glob I hg hm ?_ hdb)
  refine callWith_K (h₀ := X.base) I.ok.mod.kin T.kC (thn (ha.run pos pins s σ H _ I h) fun us s1 ⟨vs, H1, I1, r1, hz, q1⟩ => ⟨I1.kIn, ?_⟩) he hpl
  exact run_mkE T iC tI F1 hr hb hx I1 r1 hz q1
/-- a value's type, an error's too -/
inductive TyE (K : Frag) (H : Hp) : V → Value → Prop where
  | x {x : V} {t : Value} (h : TyX K H x t) : TyE K H x t
  | err {a C d : Addr} {fs : List (Str × V)} (T : ErrC K C) (ha : H a = some (exo a C (some d))) (hd : H d = some (exd d fs)) : TyE K H (.ref a) (.ref C)
theorem kit_ofE {x : V} {u t : Value} (I : Inv X pins σ H s) (rx : RelV x u) (ty : TyE X.K H x t) : ∃ P : Heap → Prop, KitX X.K u t P ∧ P s.heap ∧ u ≠ .builtin "__main__.__loader__#opaque" := by
  cases ty with
  | x h => exact kit_of I rx h
  | err T ha hd =>
    cases (show u = Value.ref _ from rx)
    obtain ⟨o, od, mA, J, _⟩ := err_at I ha hd
    exact ⟨_, err_kit T, ⟨o, od, J⟩, fun z => nomatch z⟩
def rIe (K : Frag) : List V → Hp → VK → Prop := fun xs H Q => ∃ (x c : V) (t u : Value) (b : Bool), xs = [x, c] ∧ ClsV c u ∧ TyE K H x t ∧ kitOne K t u = some b ∧ Q (.bl b) H
def rIeT (K : Frag) : List V → Hp → VK → Prop := fun xs H Q => ∃ (x : V) (tp : Addr) (cs : List V) (t : Value) (us : List Value) (b : Bool), xs = [x, .ref tp] ∧ H tp = some (.tup cs) ∧ Paired ClsV cs us ∧ TyE K H x t ∧ kitAny K t us = some b ∧ Q (.bl b) H
theorem call_ie : CallR X (.builtin "isinstance") (rIe X.K) := by
  intro pins s σ H xs us Q I r h
  obtain ⟨x, c, t, u, b, rfl, k, ty, e, q⟩ := h
  obtain ⟨u1, u2, rfl, r1, r2⟩ := vals2 r
  obtain rfl := k.eq r2
  obtain ⟨P, Z, p, hx⟩ := kit_ofE I r1 ty
  exact kia_one Z I.kIn p e hx fun tk => ⟨.bl b, H, I.tok tk, rfl, q⟩
theorem call_ieT : CallR X (.builtin "isinstance") (rIeT X.K) := by
  intro pins s σ H xs us Q I r h
  obtain ⟨x, tp, cs, t, ws, b, rfl, hT, k, ty, e, q⟩ := h
  obtain ⟨u1, u2, rfl, r1, r2⟩ := vals2 r
  cases (show u2 = Value.ref tp from r2)
  obtain ⟨P, Z, p, hx⟩ := kit_ofE I r1 ty
  obtain ⟨_, its, rv, o, h1, h2, n, h3⟩ := (show ObjOk X.prog X.w H s.heap tp (.tup cs) from I.hok tp _ hT)
  obtain rfl := ClsV.all k rv
  obtain ⟨oc, od, dt, sl⟩ := o
  dsimp only at h2 h3
  subst h2 h3
  exact kia_tup Z I.kIn p h1 e hx fun tk => ⟨.bl b, H, I.tok tk, rfl, q⟩
end
end L2.Jk

set_option Elab.async false
set_option linter.all false
set_option maxRecDepth 100000
set_option maxHeartbeats 4000000
/-! Defs and error classes as the head tells them; calls of them. -/
namespace L2.Jk
open PySem PySem.W PySem.Spec PySem.Calls PyProof.Rows

/-! ### what the head says of an error class, by one Bool -/
def oexB (K : Frag) (C : Addr) : Bool := (match K.lookup C with
  | some ⟨.type "type", _, .cls cd, sl⟩ => (match cd.mro, sl.toList with
    | .ref D :: bm, [_, _, _, _, some (.builtin n), _] => decide (D = C) && (decide (n = "ValueError.__new__") && (HandSPX.refsVE bm && (cd.hasDict && !cd.hasDel)))
    | _, _ => false)
  | _ => false) && (He.eqO (findIn K (.ref C) "__setattr__") (some (some (.builtin "object.__setattr__"))) && (decide (subIn K (.ref C) (.type "BaseException") = some true) &&
    (decide (typeIn K (.ref C) = some (.type "type")) && keepIn K (.ref C))))
theorem oexB_ok {K : Frag} {C : Addr} (h : oexB K C = true) : OexC K C := by
  obtain ⟨h1, h⟩ := Bool.and_eq_true_iff.mp h
  obtain ⟨h2, h⟩ := Bool.and_eq_true_iff.mp h
  obtain ⟨h3, h⟩ := Bool.and_eq_true_iff.mp h
  obtain ⟨h4, h5⟩ := Bool.and_eq_true_iff.mp h
  refine ⟨?_, He.eqO_ok h2, of_decide_eq_true h3, of_decide_eq_true h4, h5⟩
  split at h1
  · rename_i dd cd sl ho
    split at h1
    · rename_i D bm k0 k1 k2 k3 n k5 hm hs
      obtain ⟨a1, h1⟩ := Bool.and_eq_true_iff.mp h1
      obtain ⟨a2, h1⟩ := Bool.and_eq_true_iff.mp h1
      obtain ⟨a3, h1⟩ := Bool.and_eq_true_iff.mp h1
      obtain ⟨a4, a5⟩ := Bool.and_eq_true_iff.mp h1
      obtain rfl := of_decide_eq_true a1
      obtain rfl := of_decide_eq_true a2
      obtain ⟨nm, bs, mro, ns, qn, hd, sn, sub, ab, col, del⟩ := cd
      dsimp only at hm a4 a5
      subst hm
      subst a4
      obtain rfl : del = false := by cases del <;> first | rfl | cases a5
      have e : sl = #[k0, k1, k2, k3, some (.builtin "ValueError.__new__"), k5] := by
        obtain ⟨l⟩ := sl
        dsimp only at hs
        rw [hs]
      subst e
      exact ⟨nm, qn, ns, bs, bm, sn, sub, ab, col, dd, k0, k1, k2, k3, k5, ho, a3⟩
    · cases h1
  · cases h1
def errB (K : Frag) (C : Addr) (fs ms : List Str) : Bool := oexB K C && (xfB K C && (He.eqO (findIn K (.ref C) "__class__") (some (some (.builtin "object.__class__"))) &&
  (He.eqO (specialIn K (.builtin "object.__class__") "__get__") (some (some (.builtin "getset_descriptor.__get__"))) && (decide (takesIn K (.builtin "object.__class__") = some true) && (decide (mroIn K C (.type "object") = some true) &&
  ((fs.all fun f => He.eqO (findIn K (.ref C) f) (some none)) && ((ms.all fun m => He.eqO (findIn K (.ref C) m) (some (some (.ref (He.ma K C m)))) && isFn K (.ref (He.ma K C m))))))))))
structure ErrX (K : Frag) (C : Addr) (fs ms : List Str) : Prop where
  ec : ErrC K C
  no : ∀ f ∈ fs, findIn K (.ref C) f = some none
  me : ∀ m ∈ ms, findIn K (.ref C) m = some (some (.ref (He.ma K C m))) ∧ isFn K (.ref (He.ma K C m)) = true
theorem errB_ok {K : Frag} {C : Addr} {fs ms : List Str} (h : errB K C fs ms = true) : ErrX K C fs ms := by
  obtain ⟨h1, h⟩ := Bool.and_eq_true_iff.mp h
  obtain ⟨h2, h⟩ := Bool.and_eq_true_iff.mp h
  obtain ⟨h3, h⟩ := Bool.and_eq_true_iff.mp h
  obtain ⟨h4, h⟩ := Bool.and_eq_true_iff.mp h
  obtain ⟨h5, h⟩ := Bool.and_eq_true_iff.mp h
  obtain ⟨h6, h⟩ := Bool.and_eq_true_iff.mp h
  obtain ⟨h7, h8⟩ := Bool.and_eq_true_iff.mp h
  refine ⟨⟨oexB_ok h1, xfB_ok h2, He.eqO_ok h3, He.eqO_ok h4, of_decide_eq_true h5, of_decide_eq_true h6⟩, fun f hf => He.eqO_ok (List.all_eq_true.mp h7 f hf), fun m hm => ?_⟩
  obtain ⟨a, b⟩ := Bool.and_eq_true_iff.mp (List.all_eq_true.mp h8 m hm)
  exact ⟨He.eqO_ok a, b⟩

/-! ### a def of the module, called by its name -/
structure FnAt (P : Program) (w : World) (K : Frag) (mg : Str → Option Value) (base : Heap) (CX : CXT) (k : Nat) (x : Str) (ps : List Str) (sp : Sp) : Prop where
  ex : ∃ (f : Addr) (fd : FuncData), mg x = some (.ref f) ∧ keepIn K (.ref f) = true ∧ FnOk P w K mg base CX k f fd ps sp ∧ Binds K fd ps []
section
variable {X : Cx} {CX : CXT} {k : Nat} {x : Str} {ps : List Str} {sp : Sp} {E : XK} {e : Expr} {es : List Expr} {t : TA} {p pos : Pos}
theorem pe_fn (G : FnAt X.prog X.w X.K X.mg X.base CX k x ps sp) (hr : Room k X.A) (hx : Passes CX X E) (hg : Gl X x) (ha : PA X (e :: es) t)
    (hdb : (x == ("__debug__" : Str)) = false := by decide) (he : starEach (e :: es) X.env = (false, eval e X.env) :: starEach es X.env := by rfl) (hpl : (backTo pos (starEach es X.env)).any (·.1) = false := by rfl) :
    PE X (.Call (.Name x p) (e :: es) [] pos) (tCall sp [] E t) := by
  obtain ⟨f, fd, hm, kp, F, hb⟩ := G.ex
  exact pe_call F hr hg hm kp hb .nil hx ha hdb he hpl
end
/-! ### an error class, its instances as values -/
/-- at a: an error of the class at C, its dict at d holds fs -/
def mkE (H : Hp) (a C d : Addr) (fs : List (Str × V)) : Hp := upd (upd H d (exd d fs)) a (exo a C (some d))
/-- __init__(self, f): self.f = f -/
def spI1 (C : Addr) (f : Str) : Sp := fun vs H Q _ => ∃ (a : Addr) (v : V), vs = [.ref a, v] ∧ H a = some (exo a C none) ∧ ∀ d, H d = none → d ≠ a → Q .non (mkE H a C d [(f, v)])
def spI2 (C : Addr) (f g : Str) : Sp := fun vs H Q _ => ∃ (a : Addr) (v u : V), vs = [.ref a, v, u] ∧ H a = some (exo a C none) ∧ ∀ d, H d = none → d ≠ a → Q .non (mkE H a C d [(g, u), (f, v)])
def spS (z : Str) : Sp := fun vs H Q _ => ∃ v, vs = [v] ∧ Q (.str z) H
theorem mkE_new {H : Hp} {a C d : Addr} {fs : List (Str × V)} (ne : d ≠ a) : mkE (upd H a (exo a C none)) a C d fs = mkE H a C d fs := by
  funext b
  unfold mkE
  by_cases h : b = a
  · rw [h, upd_same, upd_same]
  · rw [upd_ne h, upd_ne h]
    by_cases h2 : b = d
    · rw [h2, upd_same, upd_same]
    · rw [upd_ne h2, upd_ne h2, upd_ne h]
/-- an error as a value -/
def ErrV (H : Hp) (v : V) (C : Addr) (fs : List (Str × V)) : Prop := ∃ a d, v = .ref a ∧ H a = some (exo a C (some d)) ∧ H d = some (exd d fs)
theorem ErrV.same {H H' : Hp} {v : V} {C : Addr} {fs : List (Str × V)} (h : ErrV H v C fs) (s : Same H H') : ErrV H' v C fs := by
  obtain ⟨a, d, e, h1, h2⟩ := h
  exact ⟨a, d, e, s _ _ h1, s _ _ h2⟩
theorem mkE_same {H : Hp} {a C d : Addr} {fs : List (Str × V)} (ha : H a = none) (hd : H d = none) : Same H (mkE H a C d fs) := fun b o e => by
  unfold mkE
  rw [upd_ne (ne_of_none e ha), upd_ne (ne_of_none e hd)]
  exact e
theorem mkE_err {H : Hp} {a C d : Addr} {fs : List (Str × V)} (ne : d ≠ a) : ErrV (mkE H a C d fs) (.ref a) C fs :=
  ⟨a, d, rfl, upd_same, by unfold mkE; rw [upd_ne ne, upd_same]⟩
def IniOk (P : Program) (w : World) (K : Frag) (mg : Str → Option Value) (base : Heap) (C : Addr) (fs : List Str) (fd : FuncData) : Prop := match fs with
  | [f] => FnOk P w K mg base CX0 1 (He.ma K C "__init__") fd ["self", f] (spI1 C f)
  | [f, g] => FnOk P w K mg base CX0 1 (He.ma K C "__init__") fd ["self", f, g] (spI2 C f g)
  | _ => False
/-- the class x, its __init__ (f or f, g), its told -/
structure ErrAt (P : Program) (w : World) (K : Frag) (mg : Str → Option Value) (base : Heap) (x : Str) (C : Addr) (fs : List Str) (z : Str) : Prop where
  mgC : mg x = some (.ref C)
  ex : ErrX K C fs ["told"]
  ini : findIn K (.ref C) "__init__" = some (some (.ref (He.ma K C "__init__"))) ∧ typeIn K (.ref (He.ma K C "__init__")) = some (.type "function")
  iok : ∃ fd, Binds K fd ("self" :: fs) [] ∧ IniOk P w K mg base C fs fd
  tok : ∃ fd, Binds K fd ["self"] [] ∧ keepIn K (.ref (He.ma K C "told")) = true ∧ FnOk P w K mg base CX0 1 (He.ma K C "told") fd ["self"] (spS z)
/-- the fields of an error that is made, as its dict holds them -/
def fldE : List Str → List V → List (Str × V)
  | [f], [v] => [(f, v)]
  | [f, g], [v, u] => [(g, u), (f, v)]
  | _, _ => []
def tErr (C : Addr) (fs : List Str) (ta : TA) : TE := fun σ H Q => ta σ H fun vs H1 => vs.length = fs.length ∧ ∀ v H2, Same H1 H2 → ErrV H2 v C (fldE fs vs) → Q v H2
section
variable {X : Cx} {x z : Str} {C : Addr} {fs : List Str} {e : Expr} {es : List Expr} {ta : TA} {p pos : Pos}
theorem pe_err (T : ErrAt X.prog X.w X.K X.mg X.base x C fs z) (hr : Room 2 X.A) (hx : Passes CX0 X (fun _ _ _ => False)) (hg : Gl X x) (ha : PA X (e :: es) ta)
    (hdb : (x == ("__debug__" : Str)) = false := by decide) (he : starEach (e :: es) X.env = (false, eval e X.env) :: starEach es X.env := by rfl) (hpl : (backTo pos (starEach es X.env)).any (·.1) = false := by rfl) :
    PE X (.Call (.Name x p) (e :: es) [] pos) (tErr C fs ta) := by
  obtain ⟨fd, hb, iok⟩ := T.iok
  refine ⟨fun pins s σ H Q I h => ?_⟩
  refine wpAny_Call_Name_kw (ld_glob I hg T.mgC ?_ hdb)
  refine callWith_K (h₀ := X.base) I.ok.mod.kin T.ex.ec.ox.kC (thn (ha.run pos pins s σ H _ I h) fun us s1 ⟨vs, H1, I1, r1, hz, q1⟩ => ⟨I1.kIn, ?_⟩) he hpl
  have ox := T.ex.ec.ox
  have i1 := T.ini.1
  have i2 := T.ini.2
  clear T
  match fs, vs, iok, hz, hb, q1 with
  | [f], [v], iok, _, hb, q1 =>
    exact run_mkE ox i1 i2 iok hr hb hx I1 r1 (by show 1 ≤ 1000; decide) fun a ha1 => ⟨a, v, rfl, upd_same, fun d hd ne => ⟨rfl, by
      rw [upd_ne ne] at hd
      rw [mkE_new ne]
      exact q1 _ _ (mkE_same ha1 hd) (mkE_err ne)⟩⟩
  | [f, g], [v, u], iok, _, hb, q1 =>
    exact run_mkE ox i1 i2 iok hr hb hx I1 r1 (by show 2 ≤ 1000; decide) fun a ha1 => ⟨a, v, u, rfl, upd_same, fun d hd ne => ⟨rfl, by
      rw [upd_ne ne] at hd
      rw [mkE_new ne]
      exact q1 _ _ (mkE_same ha1 hd) (mkE_err ne)⟩⟩
end

/-! ### the bodies of such a class's methods -/
section
variable {P : Program} {w : World} {K : Frag} {mg : Str → Option Value} {base : Heap} {x qual f g z : Str} {pa : Arguments} {sc : Scope} {dvs : List V} {kws : List (Str × V)} {fA : Addr} {fd : FuncData} {C : Addr} {p1 p2 p3 p4 q1 q2 q3 q4 : Pos} {j : Nat}
theorem ok_told {kk} (F : FunD K x qual pa [.Return (some (.Constant (.str z) kk p1)) p2] sc dvs kws fA fd) (S : FnScope ["self"] ["self"] sc) : FnOk P w K mg base CX0 1 fA fd ["self"] (spS z) := by
  refine F.ok S (fun vs H Q E h => ?_) (fun cdv A outer s H vs Q E hr h => ⟨_, PSs.nox (pss_one (ps_ret pe_str)), ?_⟩)
  · obtain ⟨v, rfl, _⟩ := h
    rfl
  · obtain ⟨v, rfl, q⟩ := h
    exact q
theorem ok_init1 (F : FunD K x qual pa [.Assign [.Attribute (.Name "self" p1) f p2] (.Name f p3) p4] sc dvs kws fA fd) (S : FnScope ["self", f] ["self", f] sc) (T : ErrX K C [f] ["told"])
    (ls : sc.names.lookup ("self" : Str) = some NameKind.local) (lf : sc.names.lookup f = some NameKind.local) (d1 : (f == ("__debug__" : Str)) = false) (d2 : (f == ("__classdict__" : Str)) = false) : FnOk P w K mg base CX0 1 fA fd ["self", f] (spI1 C f) := by
  refine F.ok S (fun vs H Q E h => ?_) (fun cdv A outer s H vs Q E hr h => ⟨_, PSs.nox (pss_one (ps_ost (pe_var (i := 0) rfl (.inl ls)) (pe_var (i := 1) rfl (.inl lf) d1 d2))), ?_⟩)
  · obtain ⟨a, v, rfl, _⟩ := h
    rfl
  · obtain ⟨a, v, rfl, ha, q⟩ := h
    exact ⟨_, rfl, _, rfl, a, C, rfl, T.ec.ox, T.no f (List.mem_singleton_self _), .inl ⟨ha, q⟩⟩
theorem ok_init2 (F : FunD K x qual pa [.Assign [.Attribute (.Name "self" p1) f p2] (.Name f p3) p4, .Assign [.Attribute (.Name "self" q1) g q2] (.Name g q3) q4] sc dvs kws fA fd) (S : FnScope ["self", f, g] ["self", f, g] sc) (T : ErrX K C [f, g] ["told"])
    (ls : sc.names.lookup ("self" : Str) = some NameKind.local) (lf : sc.names.lookup f = some NameKind.local) (d1 : (f == ("__debug__" : Str)) = false) (d2 : (f == ("__classdict__" : Str)) = false)
    (lg : sc.names.lookup g = some NameKind.local) (d3 : (g == ("__debug__" : Str)) = false) (d4 : (g == ("__classdict__" : Str)) = false) : FnOk P w K mg base CX0 1 fA fd ["self", f, g] (spI2 C f g) := by
  refine F.ok S (fun vs H Q E h => ?_) (fun cdv A outer s H vs Q E hr h => ⟨_, PSs.nox (pss_cons (ps_ost (pe_var (i := 0) rfl (.inl ls)) (pe_var (i := 1) rfl (.inl lf) d1 d2))
    (pss_one (ps_ost (pe_var (i := 0) rfl (.inl ls)) (pe_var (i := 2) rfl (.inl lg) d3 d4)))), ?_⟩)
  · obtain ⟨a, v, u, rfl, _⟩ := h
    rfl
  · obtain ⟨a, v, u, rfl, ha, q⟩ := h
    refine ⟨_, rfl, _, rfl, a, C, rfl, T.ec.ox, T.no f (List.mem_cons_self ..), .inl ⟨ha, fun d hd ne => ?_⟩⟩
    refine ⟨_, rfl, _, rfl, a, C, rfl, T.ec.ox, T.no g (List.mem_cons_of_mem _ (List.mem_singleton_self _)), .inr ⟨d, _, upd_same, by rw [upd_ne ne, upd_same], by show 1 ≤ 900; decide, ?_⟩⟩
    have z := q d hd ne
    have e : mkE H a C d [(g, u), (f, v)] = upd (upd (upd H d (exd d [(f, v)])) a (exo a C (some d))) d (exd d [(g, u), (f, v)]) := by
      funext b
      unfold mkE
      by_cases h1 : b = a
      · rw [h1, upd_same, upd_ne (Ne.symm ne), upd_same]
      · by_cases h2 : b = d
        · rw [h2, upd_ne ne, upd_same, upd_same]
        · rw [upd_ne h1, upd_ne h2, upd_ne h2, upd_ne h1, upd_ne h2]
    rw [e] at z
    exact z
end
end L2.Jk

set_option Elab.async false
set_option linter.all false
set_option maxRecDepth 100000
set_option maxHeartbeats 4000000
/-! A few operations over lists that may be read only; displays whose heap behind is not told but for what is new. -/
namespace L2.Jk
open PySem PySem.W PySem.Spec PySem.Calls PyProof.Rows

section
variable {X : Cx}
/-- xs + ys, whatever lists they are -/
def rCatS (K : Frag) : R2 := fun x y H Q => ∃ l b xs zs, x = .ref l ∧ y = .ref b ∧ SqL K H l xs ∧ SqL K H b zs ∧ xs.length + zs.length ≤ sizeLine ∧ ∀ p H', H p = none → Same H H' → H' p = some (.lst (xs ++ zs)) → Q (.ref p) H'
theorem op_catS : OpR X (binaryOp .Add) (rCatS X.K) := by
  intro pins s σ H x y v u Q I rx ry h
  obtain ⟨l, b, xs, zs, rfl, rfl, hl, hb, hz, q⟩ := h
  cases rx
  cases ry
  obtain ⟨i1, r1, ⟨o1, n1, g1, c1, d1, e1⟩, z1⟩ := I.list hl
  obtain ⟨i2, r2, ⟨o2, n2, g2, c2, d2, e2⟩, z2⟩ := I.list hb
  obtain ⟨k1, f1, t1, s1⟩ := o1
  obtain ⟨k2, f2, t2, s2⟩ := o2
  dsimp only at c1 d1 e1 c2 d2 e2
  subst c1 d1 e1 c2 d2 e2
  have hs : i1.length + i2.length ≤ sizeLine := by rw [← r1.length, ← r2.length]; exact hz
  refine concat_meets ⟨_, g1, rfl⟩ ⟨_, g2, rfl⟩ noFill_list_add seq_list_add PySem.F.slot_list_add PySem.F.entry_list_add (PySem.F.args_list_add_2 _ _)
    (list_addW l b i1.toArray i2.toArray n1 n2 none none s1 s2 (by simpa using hs)) ⟨g1, g2, ?_⟩
  rw [show i1.toArray ++ i2.toArray = (i1 ++ i2).toArray by simp]
  refine ⟨.ref _, _, I.lnew (t' := s.toks) (r1.append r2) (by rw [List.length_append]; exact hz), rfl, q _ _ I.fresh (fun c o z => ?_) upd_same⟩
  rw [upd_ne (ne_of_none z I.fresh)]
  exact z
/-- a display: where it stands is new, all else as before -/
def tLstS (t : TA) : TE := fun σ H Q => t σ H fun xs H1 => xs.length ≤ 1000 ∧ ∀ p H', H1 p = none → Same H1 H' → H' p = some (.lst xs) → Q (.ref p) H'
def tTupS (t : TA) : TE := fun σ H Q => t σ H fun xs H1 => xs.length ≤ 1000 ∧ ∀ p H', H1 p = none → Same H1 H' → H' p = some (.tup xs) → Q (.ref p) H'
theorem same_upd {H : Hp} {p : Addr} {o : HO} (h : H p = none) : Same H (upd H p o) := fun c u z => by
  rw [upd_ne (ne_of_none z h)]
  exact z
theorem pe_lstS {es : List Expr} {t : TA} {pos : Pos} (ha : PA X es t) : PE X (.List es pos) (tLstS t) := by
  constructor
  intro pins s σ H Q I h
  refine wpAny_List_spliced (thn (ha.run pos pins s σ H _ I h) fun us s1 ⟨xs, H1, I1, r, z, q⟩ => ?_)
  have z' := Nat.le_of_lt (small1000 z)
  have n : H1 s1.heap.objs.size = none := I1.fresh
  exact ⟨by rw [← r.length]; exact z', .ref s1.heap.objs.size, _, I1.lnew (t' := s1.toks) r z', rfl, q _ _ n (same_upd n) upd_same⟩
theorem pe_tupS {es : List Expr} {t : TA} {pos : Pos} {k} (ha : PA X es t) : PE X (.Tuple es k pos) (tTupS t) := by
  constructor
  intro pins s σ H Q I h
  refine wpAny_Tuple_spliced (thn (ha.run pos pins s σ H _ I h) fun us s1 ⟨xs, H1, I1, r, z, q⟩ => ?_)
  have z' := Nat.le_of_lt (small1000 z)
  have n : H1 s1.heap.objs.size = none := I1.fresh
  refine ⟨by rw [← r.length]; exact z', .ref s1.heap.objs.size, _, I1.laid (t' := s1.toks) (o := .tup xs) (fun b u e => Heap.get?_push_of_some _ e) (Nat.le_refl _) ?_, rfl, q _ _ n (same_upd n) upd_same⟩
  exact ⟨z', us, r, IsTup.new _ _⟩
/-- xs[lo:hi] of a list -/
def rSlS (K : Frag) : V → Option Int → Option Int → Hp → VK → Prop := fun x lo hi H Q => ∃ a xs, x = .ref a ∧ SqL K H a xs ∧ ∀ p H', H p = none → Same H H' → H' p = some (.lst (cutV xs lo hi)) → Q (.ref p) H'
theorem sl_listS : SlR X (rSlS X.K) := by
  intro pins s σ H x v vl vu lo hi sl Q I rx hs pl pu h
  obtain ⟨a, xs, e, hx, q⟩ := h
  exact sl_list pins s σ H x v vl vu lo hi sl Q I rx hs pl pu ⟨a, xs, e, hx, fun p hp => q p _ hp (same_upd hp) upd_same⟩
end
/-- what may change at one place alone -/
def But (a : Addr) (H H' : Hp) : Prop := ∀ c o, c ≠ a → H c = some o → H' c = some o
theorem But.of_same {a : Addr} {H H' : Hp} (s : Same H H') : But a H H' := fun c o _ h => s c o h
theorem But.refl (a : Addr) (H : Hp) : But a H H := fun _ _ _ h => h
theorem But.trans {a : Addr} {H H1 H2 : Hp} (x : But a H H1) (y : But a H1 H2) : But a H H2 := fun c o n h => y c o n (x c o n h)
theorem but_upd (H : Hp) (a : Addr) (o : HO) : But a H (upd H a o) := fun c u n h => by
  rw [upd_ne n]
  exact h
/-! ### data stays -/
theorem SqT.same {K : Frag} {H H' : Hp} {a : Addr} {xs : List V} (e : Same H H') (h : SqT K H a xs) : SqT K H' a xs := by
  rcases h with (h | ⟨o, h⟩) | h
  · exact .inl (.inl (e _ _ h))
  · exact .inl (.inr ⟨o, e _ _ h⟩)
  · exact .inr h
/-- a class or a def of the module, a built-in type, as a value -/
theorem pe_gref {X : Cx} {x : Str} {a : Addr} {pos : Pos} (hg : Gl X x) (hm : X.mg x = some (.ref a)) (hd : (x == ("__debug__" : Str)) = false := by decide) : PE X (.Name x pos) (tC (.ref a)) := pe_glob (v := .ref a) hg hm rfl hd
theorem pe_bty {X : Cx} {x : Str} {n : String} {pos : Pos} (hg : Gl X x) (hm : X.mg x = none) (hv : bootBuiltins x = some (.type n)) (hn : x ≠ "__name__" := by decide) (hd : (x == ("__debug__" : Str)) = false := by decide) : PE X (.Name x pos) (tC (.ty n)) :=
  pe_bltn (v := .ty n) hg hm hv rfl hn hd
/-! ### a new list that a comprehension fills: fm i is what it holds behind i turns -/
def LcP (H1 : Hp) (D : Addr) (fm : Nat → List V) (i : Nat) (H : Hp) : Prop := Same H1 H ∧ H1 D = none ∧ H D = some (.lst (fm i)) ∧ (fm i).length ≤ i
theorem LcP.start {H1 : Hp} {D : Addr} {fm : Nat → List V} (h : H1 D = none) (e : fm 0 = []) : LcP H1 D fm 0 (upd H1 D (.lst [])) :=
  ⟨same_upd h, h, by rw [upd_same, e], by rw [e]; exact Nat.le_refl _⟩
theorem LcP.put {H1 H H4 : Hp} {D : Addr} {fm : Nat → List V} {i : Nat} {y : V} (p : LcP H1 D fm i H) (s : Same H H4) (e : fm (i + 1) = fm i ++ [y]) (hi : i < 10000) :
    ∃ acc, H4 D = some (.lst acc) ∧ acc.length < sizeLine ∧ LcP H1 D fm (i + 1) (upd H4 D (.lst (acc ++ [y]))) := by
  obtain ⟨s0, n, d, l⟩ := p
  refine ⟨fm i, s _ _ d, ?_, fun c o z => ?_, n, by rw [upd_same, e], by rw [e, List.length_append, List.length_singleton]; omega⟩
  · rw [sizeLine_eq]
    omega
  · rw [upd_ne (ne_of_none z n)]
    exact s _ _ (s0 _ _ z)
theorem LcP.pass {H1 H H4 : Hp} {D : Addr} {fm : Nat → List V} {i : Nat} (p : LcP H1 D fm i H) (s : Same H H4) (e : fm (i + 1) = fm i) : LcP H1 D fm (i + 1) H4 := by
  obtain ⟨s0, n, d, l⟩ := p
  exact ⟨s0.trans s, n, by rw [e]; exact s _ _ d, by rw [e]; omega⟩
/-! ### data that stays where one place alone changes -/
def Per (a : Addr) (K : Frag) (H : Hp) (x : V) (d : PyData) : Prop := ∀ H', But a H H' → Dp K H' x d
theorem Per.but {a : Addr} {K : Frag} {H H1 : Hp} {x : V} {d : PyData} (p : Per a K H x d) (b : But a H H1) : Per a K H1 x d := fun H' b' => p H' (b.trans b')
theorem Per.same {a : Addr} {K : Frag} {H H1 : Hp} {x : V} {d : PyData} (p : Per a K H x d) (s : Same H H1) : Per a K H1 x d := p.but (But.of_same s)
theorem Per.dp {a : Addr} {K : Frag} {H : Hp} {x : V} {d : PyData} (p : Per a K H x d) : Dp K H x d := p H (But.refl a H)
theorem Per.lst {a p : Addr} {K : Frag} {H : Hp} {xs : List V} {ds : List PyData} (ne : p ≠ a) (h : H p = some (.lst xs)) (q : ∀ H', But a H H' → DpAll K H' xs ds) : Per a K H (.ref p) (.list ds) :=
  fun H' b => .lst (SqL.of (b _ _ ne h)) (q H' b)
theorem Per.tup {a p : Addr} {K : Frag} {H : Hp} {xs : List V} {ds : List PyData} (ne : p ≠ a) (h : H p = some (.tup xs)) (q : ∀ H', But a H H' → DpAll K H' xs ds) : Per a K H (.ref p) (.tuple ds) :=
  fun H' b => .tup (SqT.of (b _ _ ne h)) (q H' b)
theorem dp_one {K : Frag} {H : Hp} {p : Addr} {x : V} {d : PyData} (h : H p = some (.lst [x])) (q : Dp K H x d) : Dp K H (.ref p) (.list [d]) := .lst (SqL.of h) (.cons q .nil)
theorem dp_two {K : Frag} {H : Hp} {p : Addr} {x y : V} {d e : PyData} (h : H p = some (.lst [x, y])) (q : Dp K H x d) (r : Dp K H y e) : Dp K H (.ref p) (.list [d, e]) := .lst (SqL.of h) (.cons q (.cons r .nil))
theorem eqv_same {d : PyData} (h : SeqAt.shaped d = true) : PyData.eqv d d = true := SeqAt.eqv_refl d (SeqAt.canLay_of_shaped h)
theorem ne_new {H : Hp} {a b : Addr} {o : HO} (h : H a = some o) (n : H b = none) : b ≠ a := Ne.symm (ne_of_none h n)
end L2.Jk

set_option Elab.async false
set_option linter.all false
set_option maxRecDepth 100000
set_option maxHeartbeats 4000000
namespace L2.K01
open PySem PySem.W PySem.Spec PySem.Calls PyProof.Rows L2.Jk

def top (i : Nat) : Stmt := PySem.Challenge.pw_jointkeys_k01_errors.main.body.getD i (.Pass ⟨0, 0, 0, 0⟩)


/-! ### the law's own numbers: a list of three -/
def StAt (H : Hp) (a : Addr) : Prop := ∃ p q r : Int, H a = some (.lst [.int p, .int q, .int r]) ∧ 0 ≤ p ∧ 0 ≤ q ∧ q < 2147483700 ∧ 0 ≤ r ∧ r < 2147483700
def spState : Sp := fun vs H Q _ => ∃ n : Int, vs = [.int n] ∧ ∀ a H', H a = none → Same H H' → StAt H' a → Q (.ref a) H'
def spDigit : Sp := fun vs H Q _ => ∃ (a : Addr) (b : Int), vs = [.ref a, .int b] ∧ StAt H a ∧ 0 < b ∧ b < 1073741824 ∧ ∀ d H', 0 ≤ d → d < b → But a H H' → StAt H' a → Q (.int d) H'
theorem state_line (n : Int) : 0 ≤ (if n < 0 then -n else n) * (if decide (10 ^ (18 : Int).toNat ≤ (if n < 0 then -n else n)) = true then 1 else 0) := by
  by_cases h : n < 0
  · simp only [if_pos h]
    split <;> omega
  · simp only [if_neg h]
    split <;> omega

structure Bl (mg : Str → Option Value) : Prop where
  abs : mg "abs" = none
  int : mg "int" = none
  enumerate : mg "enumerate" = none
  isinstance : mg "isinstance" = none
  range : mg "range" = none
  len : mg "len" = none
  ValueError : mg "ValueError" = none

def en : Nat → Str
  | 0 => "BadField"
  | 1 => "NoValue"
  | 2 => "NoText"
  | 3 => "BadLayout"
  | 4 => "NoRow"
  | 5 => "Large"
  | 6 => "NoJoint"
  | 7 => "NotWhole"
  | 8 => "Hopeless"
  | 9 => "NoPlace"
  | 10 => "Unbounded"
  | 11 => "Clash"
  | 12 => "BadText"
  | _ => ""

def ef : Nat → List Str
  | 0 => ["what"]
  | 1 => ["value"]
  | 2 => ["text"]
  | 3 => ["what"]
  | 4 => ["place"]
  | 5 => ["count"]
  | 6 => ["k"]
  | 7 => ["index"]
  | 8 => ["index"]
  | 9 => ["place"]
  | 10 => ["index"]
  | 11 => ["one", "other"]
  | 12 => ["place"]
  | _ => []

def ez : Nat → Str
  | 0 => "refused badfield"
  | 1 => "refused novalue"
  | 2 => "refused notext"
  | 3 => "refused badlayout"
  | 4 => "refused norow"
  | 5 => "refused large"
  | 6 => "refused nojoint"
  | 7 => "refused notwhole"
  | 8 => "refused hopeless"
  | 9 => "refused noplace"
  | 10 => "refused unbounded"
  | 11 => "refused clash"
  | 12 => "refused badtext"
  | _ => ""

def cn (K : Frag) (i : Nat) : Addr := He.ga K (en i)
/-- what an error of the i-th class is made with here -/
def av (i : Nat) (x y : V) : List V := if i = 11 then [x, y] else [x]
theorem bit_line (c : Prop) [Decidable c] : -(2 ^ 64) < (if c then (1 : Int) else 0) ∧ (if c then (1 : Int) else 0) < 2 ^ 64 := by
  split <;> exact ⟨by decide, by decide⟩
/-- the module as the head tells it -/
structure Gd (P : Program) (w : World) (K : Frag) (mg : Str → Option Value) (base : Heap) : Prop extends Bl mg where
  er : ∀ i, i < 13 → ErrAt P w K mg base (en i) (cn K i) (ef i) (ez i)
  kit : ∀ i j, i < 13 → j < 13 → kitOne K (.ref (cn K i)) (.ref (cn K j)) = some (decide (i = j))
  kJ : ∀ i, i < 13 → kitOne K (.ref (cn K i)) (.ref (He.ga K "JointError")) = some true
  kV : ∀ i, i < 13 → kitOne K (.ref (cn K i)) (.type "ValueError") = some true
  mgJ : mg "JointError" = some (.ref (He.ga K "JointError"))

section
variable {P : Program} {w : World} {K : Frag} {mg : Str → Option Value} {base : Heap} {f : Addr} {fd : FuncData}

abbrev s_state : Stmt := top 17
theorem sc_state : FnScope ["_law_source"] ["_law_source"] (defScope s_state) := ⟨rfl, rfl, rfl, by decide +kernel, rfl, by decide +kernel, by decide +kernel⟩

theorem ok_state (F : FunD K "_law_state" "_law_state" (defArgs s_state) (defBody s_state) (defScope s_state) [] [] f fd) (G : Bl mg) : FnOk P w K mg base CX0 1 f fd ["_law_source"] spState := by
  refine F.ok sc_state (fun vs H Q E h => ?_) (fun cdv A outer s H vs Q E hr h => ?_)
  · obtain ⟨n, rfl, _⟩ := h
    rfl
  · obtain ⟨n, rfl, q⟩ := h
    refine ⟨_, PSs.nox (pss_cons (ps_set (i := 0) sc_state.nd rfl (Or.inl rfl) (pe_callB call_abs (by rfl) G.abs (by decide +kernel) (pa_cons (pv 0) pa_nil)))
    (pss_one (ps_ret (pe_lstS (pa_cons (pe_op op_mul (pv 0) (pe_callTy call_int1 (by rfl) G.int (by decide +kernel) (pa_cons (pe_cmpR op_ge (pv 0) (pe_op op_pow pe_int pe_int) (nomark _)) pa_nil))) (pa_cons (pe_op op_add (pe_op op_mod (pe_callTy call_int1 (by rfl) G.int (by decide +kernel) (pa_cons (pv 0) pa_nil)) pe_int) pe_int) (pa_cons (pe_op op_mod (pe_callTy call_int1 (by rfl) G.int (by decide +kernel) (pa_cons (pv 0) pa_nil)) pe_int) pa_nil))))))), ?_⟩
    refine ⟨_, rfl, n, rfl, ?_⟩
    refine ⟨_, rfl, _, rfl, _, _, rfl, rfl, ⟨by decide, by decide, by decide⟩, _, _, rfl, rfl, .inr ⟨_, rfl, ?_⟩⟩
    refine ⟨_, _, rfl, rfl, .inr (bit_line _), _, rfl, .inl ⟨_, rfl, _, _, rfl, rfl, (by show (0 : Int) < 2147483629; decide), _, _, rfl, rfl, ?_⟩⟩
    refine ⟨_, rfl, .inl ⟨_, rfl, _, _, rfl, rfl, (by show (0 : Int) < 2147483587; decide), ?_⟩⟩
    refine ⟨by show 3 ≤ 1000; decide, fun p H' hp S e => q p H' hp S ⟨_, _, _, e, state_line n, ?_, ?_, ?_, ?_⟩⟩
    · have := Int.emod_nonneg (if n < 0 then -n else n) (show (2147483629 : Int) ≠ 0 by decide)
      omega
    · have := Int.emod_lt_of_pos (if n < 0 then -n else n) (show (0 : Int) < 2147483629 by decide)
      omega
    · exact Int.emod_nonneg _ (by decide)
    · have := Int.emod_lt_of_pos (if n < 0 then -n else n) (show (0 : Int) < 2147483587 by decide)
      omega

abbrev s_digit : Stmt := top 18
theorem sc_digit : FnScope ["_law_state_here", "_law_base", "_law_found", "_law_mixed"] ["_law_state_here", "_law_base"] (defScope s_digit) := ⟨rfl, rfl, rfl, by decide +kernel, rfl, by decide +kernel, by decide +kernel⟩

theorem ok_digit (F : FunD K "_law_digit" "_law_digit" (defArgs s_digit) (defBody s_digit) (defScope s_digit) [] [] f fd) (G : Bl mg) : FnOk P w K mg base CX0 1 f fd ["_law_state_here", "_law_base"] spDigit := by
  refine F.ok sc_digit (fun vs H Q E h => ?_) (fun cdv A outer s H vs Q E hr h => ?_)
  · obtain ⟨a, b, rfl, _⟩ := h
    rfl
  · obtain ⟨a, b, rfl, ⟨x, y, z, ha, hx, hy, hy2, hz, hz2⟩, hb, hb2, q⟩ := h
    refine ⟨_, PSs.nox (pss_cons (ps_if (pt_cmpR op_gt (pe_ix ix_list (pv 0) pe_int (fun _ _ => rfl)) pe_int (nomark _))
      (pss_cons (ps_set (i := 2) sc_digit.nd rfl (Or.inl rfl) (pe_op op_mod (pe_callTy call_int1 (by rfl) G.int (by decide +kernel) (pa_cons (pe_ix ix_list (pv 0) pe_int (fun _ _ => rfl)) pa_nil)) (pv 1)))
      (pss_cons (ps_asg (pe_op op_fdiv (pe_ix ix_list (pv 0) pe_int (fun _ _ => rfl)) (pv 1)) (pg_sub (pv 0) pe_int set_list))
      (pss_one (ps_ret (pv 2)))))
      pss_nil)
    (pss_cons (ps_set (i := 3) sc_digit.nd rfl (Or.inl rfl) (pe_op op_mul (pe_ix ix_list (pv 0) pe_int (fun _ _ => rfl)) (pe_op op_add (pe_op op_fdiv (pe_ix ix_list (pv 0) pe_int (fun _ _ => rfl)) pe_int) pe_int)))
    (pss_cons (ps_asg (pe_op op_add (pe_op op_mod (pe_callTy call_int1 (by rfl) G.int (by decide +kernel) (pa_cons (pe_op op_add (pv 3) (pe_ix ix_list (pv 0) pe_int (fun _ _ => rfl))) pa_nil)) pe_int) pe_int) (pg_sub (pv 0) pe_int set_list))
    (pss_one (ps_ret (pe_op op_mod (pe_callTy call_int1 (by rfl) G.int (by decide +kernel) (pa_cons (pe_op op_fdiv (pe_ix ix_list (pv 0) pe_int (fun _ _ => rfl)) pe_int) pa_nil)) (pv 1))))))), ?_⟩
    refine ⟨_, rfl, _, _, _, _, rfl, rfl, SqL.of ha, atI_nat (j := 0) rfl, _, _, rfl, rfl, _, rfl, ?_⟩
    refine ite2 (fun h0 => ?_) (fun h0 => ?_)
    · refine ⟨_, rfl, _, _, _, _, rfl, rfl, SqL.of ha, atI_nat (j := 0) rfl, .inl ⟨_, rfl, _, rfl, _, _, rfl, rfl, hb, ?_⟩⟩
      refine ⟨_, rfl, _, _, _, _, rfl, rfl, SqL.of ha, atI_nat (j := 0) rfl, _, rfl, _, _, rfl, rfl, ⟨hb, hb2⟩, ?_⟩
      refine ⟨_, rfl, _, _, _, 0, rfl, rfl, ha, rfl, ?_⟩
      refine ⟨_, rfl, q _ _ (Int.emod_nonneg _ (by omega)) (Int.emod_lt_of_pos _ hb) (but_upd _ _ _) ⟨_, _, _, upd_same, Int.ediv_nonneg hx (by omega), hy, hy2, hz, hz2⟩⟩
    · refine ⟨_, rfl, _, _, _, _, rfl, rfl, SqL.of ha, atI_nat (j := 1) rfl, _, rfl, _, _, _, _, rfl, rfl, SqL.of ha, atI_nat (j := 1) rfl, _, _, rfl, rfl, ⟨by decide, by decide⟩, _, _, rfl, rfl, _, _, rfl, rfl, .inl ⟨by omega, by omega⟩, ?_⟩
      refine ⟨_, rfl, _, rfl, _, _, _, _, rfl, rfl, SqL.of ha, atI_nat (j := 2) rfl, _, _, rfl, rfl, .inl ⟨_, rfl, _, _, rfl, rfl, (by show (0 : Int) < 2147483629; decide), _, _, rfl, rfl, ?_⟩⟩
      refine ⟨_, rfl, _, _, _, 1, rfl, rfl, ha, rfl, ?_⟩
      refine ⟨_, rfl, _, _, _, _, rfl, rfl, SqL.of upd_same, atI_nat (j := 1) rfl, _, _, rfl, rfl, ⟨by decide, by decide⟩, .inl ⟨_, rfl, _, rfl, _, _, rfl, rfl, hb, ?_⟩⟩
      have m1 := Int.emod_nonneg (y * (y / 1009 + 69621) + z) (show (2147483629 : Int) ≠ 0 by decide)
      have m2 := Int.emod_lt_of_pos (y * (y / 1009 + 69621) + z) (show (0 : Int) < 2147483629 by decide)
      exact q _ _ (Int.emod_nonneg _ (by omega)) (Int.emod_lt_of_pos _ hb) (but_upd _ _ _) ⟨_, _, _, upd_same, hx, by omega, by omega, hz, hz2⟩

abbrev s_field : Stmt := top 19
theorem sc_field : FnScope ["_law_error"] ["_law_error"] (defScope s_field) := ⟨rfl, rfl, rfl, by decide +kernel, rfl, by decide +kernel, by decide +kernel⟩

def spField (K : Frag) : Sp := fun vs H Q _ => ∃ (v x y : V) (i : Nat), vs = [v] ∧ i < 13 ∧ ErrV H v (cn K i) (fldE (ef i) (av i x y)) ∧ ∀ p H', Same H H' → H' p = some (.lst (av i x y)) → Q (.ref p) H'
theorem ok_field (F : FunD K "_law_field" "_law_field" (defArgs s_field) (defBody s_field) (defScope s_field) [] [] f fd) (G : Gd P w K mg base) : FnOk P w K mg base CX0 1 f fd ["_law_error"] (spField K) := by
  refine F.ok sc_field (fun vs H Q E h => ?_) (fun cdv A outer s H vs Q E hr h => ?_)
  · obtain ⟨v, x, y, i, rfl, _⟩ := h
    rfl
  · obtain ⟨v, x, y, i, rfl, hi, h0, q⟩ := h
    refine ⟨_, PSs.nox (pss_cons (ps_if (pt_val (pe_callB call_ieT (by rfl) G.isinstance (by decide +kernel) (pa_cons (pv 0) (pa_cons (pe_tupS (pa_cons (pe_gref (by rfl) (G.er 0 (by decide)).mgC) (pa_cons (pe_gref (by rfl) (G.er 3 (by decide)).mgC) pa_nil))) pa_nil))))
      (pss_one (ps_ret (pe_lstS (pa_cons (pe_ef (pv 0)) pa_nil))))
      pss_nil)
    (pss_cons (ps_if (pt_val (pe_callB call_ie (by rfl) G.isinstance (by decide +kernel) (pa_cons (pv 0) (pa_cons (pe_gref (by rfl) (G.er 1 (by decide)).mgC) pa_nil))))
      (pss_one (ps_ret (pe_lstS (pa_cons (pe_ef (pv 0)) pa_nil))))
      pss_nil)
    (pss_cons (ps_if (pt_val (pe_callB call_ie (by rfl) G.isinstance (by decide +kernel) (pa_cons (pv 0) (pa_cons (pe_gref (by rfl) (G.er 2 (by decide)).mgC) pa_nil))))
      (pss_one (ps_ret (pe_lstS (pa_cons (pe_ef (pv 0)) pa_nil))))
      pss_nil)
    (pss_cons (ps_if (pt_val (pe_callB call_ieT (by rfl) G.isinstance (by decide +kernel) (pa_cons (pv 0) (pa_cons (pe_tupS (pa_cons (pe_gref (by rfl) (G.er 4 (by decide)).mgC) (pa_cons (pe_gref (by rfl) (G.er 9 (by decide)).mgC) (pa_cons (pe_gref (by rfl) (G.er 12 (by decide)).mgC) pa_nil)))) pa_nil))))
      (pss_one (ps_ret (pe_lstS (pa_cons (pe_ef (pv 0)) pa_nil))))
      pss_nil)
    (pss_cons (ps_if (pt_val (pe_callB call_ie (by rfl) G.isinstance (by decide +kernel) (pa_cons (pv 0) (pa_cons (pe_gref (by rfl) (G.er 5 (by decide)).mgC) pa_nil))))
      (pss_one (ps_ret (pe_lstS (pa_cons (pe_ef (pv 0)) pa_nil))))
      pss_nil)
    (pss_cons (ps_if (pt_val (pe_callB call_ie (by rfl) G.isinstance (by decide +kernel) (pa_cons (pv 0) (pa_cons (pe_gref (by rfl) (G.er 6 (by decide)).mgC) pa_nil))))
      (pss_one (ps_ret (pe_lstS (pa_cons (pe_ef (pv 0)) pa_nil))))
      pss_nil)
    (pss_one (ps_ret (pe_ifExp (pt_val (pe_callB call_ie (by rfl) G.isinstance (by decide +kernel) (pa_cons (pv 0) (pa_cons (pe_gref (by rfl) (G.er 11 (by decide)).mgC) pa_nil)))) (pe_lstS (pa_cons (pe_ef (pv 0)) (pa_cons (pe_ef (pv 0)) pa_nil))) (pe_lstS (pa_cons (pe_ef (pv 0)) pa_nil))))))))))), ?_⟩
    match i, hi with
    | 0, _ =>
      have k := fun j (hj : j < 13) => G.kit 0 j (by decide) hj
      obtain ⟨a, dd, rfl, ha, hd⟩ := h0
      have T := (G.er 0 (by decide)).ex
      have S := Same.refl H
      refine ⟨_, rfl, by show 2 ≤ 1000; decide, fun p0 H0 hp0 S0 e0 => ⟨_, p0, _, _, _, true, rfl, e0, (.cons (.own _) (.cons (.own _) Paired.nil)), .err T.ec (S0 _ _ ha) (S0 _ _ hd), (kitAny_cons (b := true) (k 0 (by decide)) (fun z => nomatch z) (fun _ => rfl)), _, rfl, iteT ?_⟩⟩
      replace ha := S0 _ _ ha
      replace hd := S0 _ _ hd
      replace S := S.trans S0
      refine ⟨_, rfl, a, _, dd, _, _, rfl, T.ec, T.no _ (by decide +kernel), ha, hd, (by rw [show fldE (ef 0) (av 0 x y) = [(("what" : Str), x)] from rfl, lookup_put, if_pos rfl]), by show 1 ≤ 1000; decide, fun p H9 hp S9 e9 => q p H9 (S.trans S9) e9⟩
    | 1, _ =>
      have k := fun j (hj : j < 13) => G.kit 1 j (by decide) hj
      obtain ⟨a, dd, rfl, ha, hd⟩ := h0
      have T := (G.er 1 (by decide)).ex
      have S := Same.refl H
      refine ⟨_, rfl, by show 2 ≤ 1000; decide, fun p0 H0 hp0 S0 e0 => ⟨_, p0, _, _, _, false, rfl, e0, (.cons (.own _) (.cons (.own _) Paired.nil)), .err T.ec (S0 _ _ ha) (S0 _ _ hd), (kitAny_cons (b := false) (k 0 (by decide)) (fun _ => (kitAny_cons (b := false) (k 3 (by decide)) (fun _ => kitAny_nil) (fun z => nomatch z))) (fun z => nomatch z)), _, rfl, iteF ?_⟩⟩
      replace ha := S0 _ _ ha
      replace hd := S0 _ _ hd
      replace S := S.trans S0
      refine ⟨_, rfl, _, _, _, _, true, rfl, .own _, .err T.ec ha hd, k 1 (by decide), _, rfl, iteT ?_⟩
      refine ⟨_, rfl, a, _, dd, _, _, rfl, T.ec, T.no _ (by decide +kernel), ha, hd, (by rw [show fldE (ef 1) (av 1 x y) = [(("value" : Str), x)] from rfl, lookup_put, if_pos rfl]), by show 1 ≤ 1000; decide, fun p H9 hp S9 e9 => q p H9 (S.trans S9) e9⟩
    | 2, _ =>
      have k := fun j (hj : j < 13) => G.kit 2 j (by decide) hj
      obtain ⟨a, dd, rfl, ha, hd⟩ := h0
      have T := (G.er 2 (by decide)).ex
      have S := Same.refl H
      refine ⟨_, rfl, by show 2 ≤ 1000; decide, fun p0 H0 hp0 S0 e0 => ⟨_, p0, _, _, _, false, rfl, e0, (.cons (.own _) (.cons (.own _) Paired.nil)), .err T.ec (S0 _ _ ha) (S0 _ _ hd), (kitAny_cons (b := false) (k 0 (by decide)) (fun _ => (kitAny_cons (b := false) (k 3 (by decide)) (fun _ => kitAny_nil) (fun z => nomatch z))) (fun z => nomatch z)), _, rfl, iteF ?_⟩⟩
      replace ha := S0 _ _ ha
      replace hd := S0 _ _ hd
      replace S := S.trans S0
      refine ⟨_, rfl, _, _, _, _, false, rfl, .own _, .err T.ec ha hd, k 1 (by decide), _, rfl, iteF ?_⟩
      refine ⟨_, rfl, _, _, _, _, true, rfl, .own _, .err T.ec ha hd, k 2 (by decide), _, rfl, iteT ?_⟩
      refine ⟨_, rfl, a, _, dd, _, _, rfl, T.ec, T.no _ (by decide +kernel), ha, hd, (by rw [show fldE (ef 2) (av 2 x y) = [(("text" : Str), x)] from rfl, lookup_put, if_pos rfl]), by show 1 ≤ 1000; decide, fun p H9 hp S9 e9 => q p H9 (S.trans S9) e9⟩
    | 3, _ =>
      have k := fun j (hj : j < 13) => G.kit 3 j (by decide) hj
      obtain ⟨a, dd, rfl, ha, hd⟩ := h0
      have T := (G.er 3 (by decide)).ex
      have S := Same.refl H
      refine ⟨_, rfl, by show 2 ≤ 1000; decide, fun p0 H0 hp0 S0 e0 => ⟨_, p0, _, _, _, true, rfl, e0, (.cons (.own _) (.cons (.own _) Paired.nil)), .err T.ec (S0 _ _ ha) (S0 _ _ hd), (kitAny_cons (b := false) (k 0 (by decide)) (fun _ => (kitAny_cons (b := true) (k 3 (by decide)) (fun z => nomatch z) (fun _ => rfl))) (fun z => nomatch z)), _, rfl, iteT ?_⟩⟩
      replace ha := S0 _ _ ha
      replace hd := S0 _ _ hd
      replace S := S.trans S0
      refine ⟨_, rfl, a, _, dd, _, _, rfl, T.ec, T.no _ (by decide +kernel), ha, hd, (by rw [show fldE (ef 3) (av 3 x y) = [(("what" : Str), x)] from rfl, lookup_put, if_pos rfl]), by show 1 ≤ 1000; decide, fun p H9 hp S9 e9 => q p H9 (S.trans S9) e9⟩
    | 4, _ =>
      have k := fun j (hj : j < 13) => G.kit 4 j (by decide) hj
      obtain ⟨a, dd, rfl, ha, hd⟩ := h0
      have T := (G.er 4 (by decide)).ex
      have S := Same.refl H
      refine ⟨_, rfl, by show 2 ≤ 1000; decide, fun p0 H0 hp0 S0 e0 => ⟨_, p0, _, _, _, false, rfl, e0, (.cons (.own _) (.cons (.own _) Paired.nil)), .err T.ec (S0 _ _ ha) (S0 _ _ hd), (kitAny_cons (b := false) (k 0 (by decide)) (fun _ => (kitAny_cons (b := false) (k 3 (by decide)) (fun _ => kitAny_nil) (fun z => nomatch z))) (fun z => nomatch z)), _, rfl, iteF ?_⟩⟩
      replace ha := S0 _ _ ha
      replace hd := S0 _ _ hd
      replace S := S.trans S0
      refine ⟨_, rfl, _, _, _, _, false, rfl, .own _, .err T.ec ha hd, k 1 (by decide), _, rfl, iteF ?_⟩
      refine ⟨_, rfl, _, _, _, _, false, rfl, .own _, .err T.ec ha hd, k 2 (by decide), _, rfl, iteF ?_⟩
      refine ⟨_, rfl, by show 3 ≤ 1000; decide, fun p1 H1 hp1 S1 e1 => ⟨_, p1, _, _, _, true, rfl, e1, (.cons (.own _) (.cons (.own _) (.cons (.own _) Paired.nil))), .err T.ec (S1 _ _ ha) (S1 _ _ hd), (kitAny_cons (b := true) (k 4 (by decide)) (fun z => nomatch z) (fun _ => rfl)), _, rfl, iteT ?_⟩⟩
      replace ha := S1 _ _ ha
      replace hd := S1 _ _ hd
      replace S := S.trans S1
      refine ⟨_, rfl, a, _, dd, _, _, rfl, T.ec, T.no _ (by decide +kernel), ha, hd, (by rw [show fldE (ef 4) (av 4 x y) = [(("place" : Str), x)] from rfl, lookup_put, if_pos rfl]), by show 1 ≤ 1000; decide, fun p H9 hp S9 e9 => q p H9 (S.trans S9) e9⟩
    | 5, _ =>
      have k := fun j (hj : j < 13) => G.kit 5 j (by decide) hj
      obtain ⟨a, dd, rfl, ha, hd⟩ := h0
      have T := (G.er 5 (by decide)).ex
      have S := Same.refl H
      refine ⟨_, rfl, by show 2 ≤ 1000; decide, fun p0 H0 hp0 S0 e0 => ⟨_, p0, _, _, _, false, rfl, e0, (.cons (.own _) (.cons (.own _) Paired.nil)), .err T.ec (S0 _ _ ha) (S0 _ _ hd), (kitAny_cons (b := false) (k 0 (by decide)) (fun _ => (kitAny_cons (b := false) (k 3 (by decide)) (fun _ => kitAny_nil) (fun z => nomatch z))) (fun z => nomatch z)), _, rfl, iteF ?_⟩⟩
      replace ha := S0 _ _ ha
      replace hd := S0 _ _ hd
      replace S := S.trans S0
      refine ⟨_, rfl, _, _, _, _, false, rfl, .own _, .err T.ec ha hd, k 1 (by decide), _, rfl, iteF ?_⟩
      refine ⟨_, rfl, _, _, _, _, false, rfl, .own _, .err T.ec ha hd, k 2 (by decide), _, rfl, iteF ?_⟩
      refine ⟨_, rfl, by show 3 ≤ 1000; decide, fun p1 H1 hp1 S1 e1 => ⟨_, p1, _, _, _, false, rfl, e1, (.cons (.own _) (.cons (.own _) (.cons (.own _) Paired.nil))), .err T.ec (S1 _ _ ha) (S1 _ _ hd), (kitAny_cons (b := false) (k 4 (by decide)) (fun _ => (kitAny_cons (b := false) (k 9 (by decide)) (fun _ => (kitAny_cons (b := false) (k 12 (by decide)) (fun _ => kitAny_nil) (fun z => nomatch z))) (fun z => nomatch z))) (fun z => nomatch z)), _, rfl, iteF ?_⟩⟩
      replace ha := S1 _ _ ha
      replace hd := S1 _ _ hd
      replace S := S.trans S1
      refine ⟨_, rfl, _, _, _, _, true, rfl, .own _, .err T.ec ha hd, k 5 (by decide), _, rfl, iteT ?_⟩
      refine ⟨_, rfl, a, _, dd, _, _, rfl, T.ec, T.no _ (by decide +kernel), ha, hd, (by rw [show fldE (ef 5) (av 5 x y) = [(("count" : Str), x)] from rfl, lookup_put, if_pos rfl]), by show 1 ≤ 1000; decide, fun p H9 hp S9 e9 => q p H9 (S.trans S9) e9⟩
    | 6, _ =>
      have k := fun j (hj : j < 13) => G.kit 6 j (by decide) hj
      obtain ⟨a, dd, rfl, ha, hd⟩ := h0
      have T := (G.er 6 (by decide)).ex
      have S := Same.refl H
      refine ⟨_, rfl, by show 2 ≤ 1000; decide, fun p0 H0 hp0 S0 e0 => ⟨_, p0, _, _, _, false, rfl, e0, (.cons (.own _) (.cons (.own _) Paired.nil)), .err T.ec (S0 _ _ ha) (S0 _ _ hd), (kitAny_cons (b := false) (k 0 (by decide)) (fun _ => (kitAny_cons (b := false) (k 3 (by decide)) (fun _ => kitAny_nil) (fun z => nomatch z))) (fun z => nomatch z)), _, rfl, iteF ?_⟩⟩
      replace ha := S0 _ _ ha
      replace hd := S0 _ _ hd
      replace S := S.trans S0
      refine ⟨_, rfl, _, _, _, _, false, rfl, .own _, .err T.ec ha hd, k 1 (by decide), _, rfl, iteF ?_⟩
      refine ⟨_, rfl, _, _, _, _, false, rfl, .own _, .err T.ec ha hd, k 2 (by decide), _, rfl, iteF ?_⟩
      refine ⟨_, rfl, by show 3 ≤ 1000; decide, fun p1 H1 hp1 S1 e1 => ⟨_, p1, _, _, _, false, rfl, e1, (.cons (.own _) (.cons (.own _) (.cons (.own _) Paired.nil))), .err T.ec (S1 _ _ ha) (S1 _ _ hd), (kitAny_cons (b := false) (k 4 (by decide)) (fun _ => (kitAny_cons (b := false) (k 9 (by decide)) (fun _ => (kitAny_cons (b := false) (k 12 (by decide)) (fun _ => kitAny_nil) (fun z => nomatch z))) (fun z => nomatch z))) (fun z => nomatch z)), _, rfl, iteF ?_⟩⟩
      replace ha := S1 _ _ ha
      replace hd := S1 _ _ hd
      replace S := S.trans S1
      refine ⟨_, rfl, _, _, _, _, false, rfl, .own _, .err T.ec ha hd, k 5 (by decide), _, rfl, iteF ?_⟩
      refine ⟨_, rfl, _, _, _, _, true, rfl, .own _, .err T.ec ha hd, k 6 (by decide), _, rfl, iteT ?_⟩
      refine ⟨_, rfl, a, _, dd, _, _, rfl, T.ec, T.no _ (by decide +kernel), ha, hd, (by rw [show fldE (ef 6) (av 6 x y) = [(("k" : Str), x)] from rfl, lookup_put, if_pos rfl]), by show 1 ≤ 1000; decide, fun p H9 hp S9 e9 => q p H9 (S.trans S9) e9⟩
    | 7, _ =>
      have k := fun j (hj : j < 13) => G.kit 7 j (by decide) hj
      obtain ⟨a, dd, rfl, ha, hd⟩ := h0
      have T := (G.er 7 (by decide)).ex
      have S := Same.refl H
      refine ⟨_, rfl, by show 2 ≤ 1000; decide, fun p0 H0 hp0 S0 e0 => ⟨_, p0, _, _, _, false, rfl, e0, (.cons (.own _) (.cons (.own _) Paired.nil)), .err T.ec (S0 _ _ ha) (S0 _ _ hd), (kitAny_cons (b := false) (k 0 (by decide)) (fun _ => (kitAny_cons (b := false) (k 3 (by decide)) (fun _ => kitAny_nil) (fun z => nomatch z))) (fun z => nomatch z)), _, rfl, iteF ?_⟩⟩
      replace ha := S0 _ _ ha
      replace hd := S0 _ _ hd
      replace S := S.trans S0
      refine ⟨_, rfl, _, _, _, _, false, rfl, .own _, .err T.ec ha hd, k 1 (by decide), _, rfl, iteF ?_⟩
      refine ⟨_, rfl, _, _, _, _, false, rfl, .own _, .err T.ec ha hd, k 2 (by decide), _, rfl, iteF ?_⟩
      refine ⟨_, rfl, by show 3 ≤ 1000; decide, fun p1 H1 hp1 S1 e1 => ⟨_, p1, _, _, _, false, rfl, e1, (.cons (.own _) (.cons (.own _) (.cons (.own _) Paired.nil))), .err T.ec (S1 _ _ ha) (S1 _ _ hd), (kitAny_cons (b := false) (k 4 (by decide)) (fun _ => (kitAny_cons (b := false) (k 9 (by decide)) (fun _ => (kitAny_cons (b := false) (k 12 (by decide)) (fun _ => kitAny_nil) (fun z => nomatch z))) (fun z => nomatch z))) (fun z => nomatch z)), _, rfl, iteF ?_⟩⟩
      replace ha := S1 _ _ ha
      replace hd := S1 _ _ hd
      replace S := S.trans S1
      refine ⟨_, rfl, _, _, _, _, false, rfl, .own _, .err T.ec ha hd, k 5 (by decide), _, rfl, iteF ?_⟩
      refine ⟨_, rfl, _, _, _, _, false, rfl, .own _, .err T.ec ha hd, k 6 (by decide), _, rfl, iteF ?_⟩
      refine ⟨_, rfl, _, _, _, _, false, rfl, .own _, .err T.ec ha hd, k 11 (by decide), _, rfl, iteF ?_⟩
      refine ⟨_, rfl, a, _, dd, _, _, rfl, T.ec, T.no _ (by decide +kernel), ha, hd, (by rw [show fldE (ef 7) (av 7 x y) = [(("index" : Str), x)] from rfl, lookup_put, if_pos rfl]), by show 1 ≤ 1000; decide, fun p H9 hp S9 e9 => q p H9 (S.trans S9) e9⟩
    | 8, _ =>
      have k := fun j (hj : j < 13) => G.kit 8 j (by decide) hj
      obtain ⟨a, dd, rfl, ha, hd⟩ := h0
      have T := (G.er 8 (by decide)).ex
      have S := Same.refl H
      refine ⟨_, rfl, by show 2 ≤ 1000; decide, fun p0 H0 hp0 S0 e0 => ⟨_, p0, _, _, _, false, rfl, e0, (.cons (.own _) (.cons (.own _) Paired.nil)), .err T.ec (S0 _ _ ha) (S0 _ _ hd), (kitAny_cons (b := false) (k 0 (by decide)) (fun _ => (kitAny_cons (b := false) (k 3 (by decide)) (fun _ => kitAny_nil) (fun z => nomatch z))) (fun z => nomatch z)), _, rfl, iteF ?_⟩⟩
      replace ha := S0 _ _ ha
      replace hd := S0 _ _ hd
      replace S := S.trans S0
      refine ⟨_, rfl, _, _, _, _, false, rfl, .own _, .err T.ec ha hd, k 1 (by decide), _, rfl, iteF ?_⟩
      refine ⟨_, rfl, _, _, _, _, false, rfl, .own _, .err T.ec ha hd, k 2 (by decide), _, rfl, iteF ?_⟩
      refine ⟨_, rfl, by show 3 ≤ 1000; decide, fun p1 H1 hp1 S1 e1 => ⟨_, p1, _, _, _, false, rfl, e1, (.cons (.own _) (.cons (.own _) (.cons (.own _) Paired.nil))), .err T.ec (S1 _ _ ha) (S1 _ _ hd), (kitAny_cons (b := false) (k 4 (by decide)) (fun _ => (kitAny_cons (b := false) (k 9 (by decide)) (fun _ => (kitAny_cons (b := false) (k 12 (by decide)) (fun _ => kitAny_nil) (fun z => nomatch z))) (fun z => nomatch z))) (fun z => nomatch z)), _, rfl, iteF ?_⟩⟩
      replace ha := S1 _ _ ha
      replace hd := S1 _ _ hd
      replace S := S.trans S1
      refine ⟨_, rfl, _, _, _, _, false, rfl, .own _, .err T.ec ha hd, k 5 (by decide), _, rfl, iteF ?_⟩
      refine ⟨_, rfl, _, _, _, _, false, rfl, .own _, .err T.ec ha hd, k 6 (by decide), _, rfl, iteF ?_⟩
      refine ⟨_, rfl, _, _, _, _, false, rfl, .own _, .err T.ec ha hd, k 11 (by decide), _, rfl, iteF ?_⟩
      refine ⟨_, rfl, a, _, dd, _, _, rfl, T.ec, T.no _ (by decide +kernel), ha, hd, (by rw [show fldE (ef 8) (av 8 x y) = [(("index" : Str), x)] from rfl, lookup_put, if_pos rfl]), by show 1 ≤ 1000; decide, fun p H9 hp S9 e9 => q p H9 (S.trans S9) e9⟩
    | 9, _ =>
      have k := fun j (hj : j < 13) => G.kit 9 j (by decide) hj
      obtain ⟨a, dd, rfl, ha, hd⟩ := h0
      have T := (G.er 9 (by decide)).ex
      have S := Same.refl H
      refine ⟨_, rfl, by show 2 ≤ 1000; decide, fun p0 H0 hp0 S0 e0 => ⟨_, p0, _, _, _, false, rfl, e0, (.cons (.own _) (.cons (.own _) Paired.nil)), .err T.ec (S0 _ _ ha) (S0 _ _ hd), (kitAny_cons (b := false) (k 0 (by decide)) (fun _ => (kitAny_cons (b := false) (k 3 (by decide)) (fun _ => kitAny_nil) (fun z => nomatch z))) (fun z => nomatch z)), _, rfl, iteF ?_⟩⟩
      replace ha := S0 _ _ ha
      replace hd := S0 _ _ hd
      replace S := S.trans S0
      refine ⟨_, rfl, _, _, _, _, false, rfl, .own _, .err T.ec ha hd, k 1 (by decide), _, rfl, iteF ?_⟩
      refine ⟨_, rfl, _, _, _, _, false, rfl, .own _, .err T.ec ha hd, k 2 (by decide), _, rfl, iteF ?_⟩
      refine ⟨_, rfl, by show 3 ≤ 1000; decide, fun p1 H1 hp1 S1 e1 => ⟨_, p1, _, _, _, true, rfl, e1, (.cons (.own _) (.cons (.own _) (.cons (.own _) Paired.nil))), .err T.ec (S1 _ _ ha) (S1 _ _ hd), (kitAny_cons (b := false) (k 4 (by decide)) (fun _ => (kitAny_cons (b := true) (k 9 (by decide)) (fun z => nomatch z) (fun _ => rfl))) (fun z => nomatch z)), _, rfl, iteT ?_⟩⟩
      replace ha := S1 _ _ ha
      replace hd := S1 _ _ hd
      replace S := S.trans S1
      refine ⟨_, rfl, a, _, dd, _, _, rfl, T.ec, T.no _ (by decide +kernel), ha, hd, (by rw [show fldE (ef 9) (av 9 x y) = [(("place" : Str), x)] from rfl, lookup_put, if_pos rfl]), by show 1 ≤ 1000; decide, fun p H9 hp S9 e9 => q p H9 (S.trans S9) e9⟩
    | 10, _ =>
      have k := fun j (hj : j < 13) => G.kit 10 j (by decide) hj
      obtain ⟨a, dd, rfl, ha, hd⟩ := h0
      have T := (G.er 10 (by decide)).ex
      have S := Same.refl H
      refine ⟨_, rfl, by show 2 ≤ 1000; decide, fun p0 H0 hp0 S0 e0 => ⟨_, p0, _, _, _, false, rfl, e0, (.cons (.own _) (.cons (.own _) Paired.nil)), .err T.ec (S0 _ _ ha) (S0 _ _ hd), (kitAny_cons (b := false) (k 0 (by decide)) (fun _ => (kitAny_cons (b := false) (k 3 (by decide)) (fun _ => kitAny_nil) (fun z => nomatch z))) (fun z => nomatch z)), _, rfl, iteF ?_⟩⟩
      replace ha := S0 _ _ ha
      replace hd := S0 _ _ hd
      replace S := S.trans S0
      refine ⟨_, rfl, _, _, _, _, false, rfl, .own _, .err T.ec ha hd, k 1 (by decide), _, rfl, iteF ?_⟩
      refine ⟨_, rfl, _, _, _, _, false, rfl, .own _, .err T.ec ha hd, k 2 (by decide), _, rfl, iteF ?_⟩
      refine ⟨_, rfl, by show 3 ≤ 1000; decide, fun p1 H1 hp1 S1 e1 => ⟨_, p1, _, _, _, false, rfl, e1, (.cons (.own _) (.cons (.own _) (.cons (.own _) Paired.nil))), .err T.ec (S1 _ _ ha) (S1 _ _ hd), (kitAny_cons (b := false) (k 4 (by decide)) (fun _ => (kitAny_cons (b := false) (k 9 (by decide)) (fun _ => (kitAny_cons (b := false) (k 12 (by decide)) (fun _ => kitAny_nil) (fun z => nomatch z))) (fun z => nomatch z))) (fun z => nomatch z)), _, rfl, iteF ?_⟩⟩
      replace ha := S1 _ _ ha
      replace hd := S1 _ _ hd
      replace S := S.trans S1
      refine ⟨_, rfl, _, _, _, _, false, rfl, .own _, .err T.ec ha hd, k 5 (by decide), _, rfl, iteF ?_⟩
      refine ⟨_, rfl, _, _, _, _, false, rfl, .own _, .err T.ec ha hd, k 6 (by decide), _, rfl, iteF ?_⟩
      refine ⟨_, rfl, _, _, _, _, false, rfl, .own _, .err T.ec ha hd, k 11 (by decide), _, rfl, iteF ?_⟩
      refine ⟨_, rfl, a, _, dd, _, _, rfl, T.ec, T.no _ (by decide +kernel), ha, hd, (by rw [show fldE (ef 10) (av 10 x y) = [(("index" : Str), x)] from rfl, lookup_put, if_pos rfl]), by show 1 ≤ 1000; decide, fun p H9 hp S9 e9 => q p H9 (S.trans S9) e9⟩
    | 11, _ =>
      have k := fun j (hj : j < 13) => G.kit 11 j (by decide) hj
      obtain ⟨a, dd, rfl, ha, hd⟩ := h0
      have T := (G.er 11 (by decide)).ex
      have S := Same.refl H
      refine ⟨_, rfl, by show 2 ≤ 1000; decide, fun p0 H0 hp0 S0 e0 => ⟨_, p0, _, _, _, false, rfl, e0, (.cons (.own _) (.cons (.own _) Paired.nil)), .err T.ec (S0 _ _ ha) (S0 _ _ hd), (kitAny_cons (b := false) (k 0 (by decide)) (fun _ => (kitAny_cons (b := false) (k 3 (by decide)) (fun _ => kitAny_nil) (fun z => nomatch z))) (fun z => nomatch z)), _, rfl, iteF ?_⟩⟩
      replace ha := S0 _ _ ha
      replace hd := S0 _ _ hd
      replace S := S.trans S0
      refine ⟨_, rfl, _, _, _, _, false, rfl, .own _, .err T.ec ha hd, k 1 (by decide), _, rfl, iteF ?_⟩
      refine ⟨_, rfl, _, _, _, _, false, rfl, .own _, .err T.ec ha hd, k 2 (by decide), _, rfl, iteF ?_⟩
      refine ⟨_, rfl, by show 3 ≤ 1000; decide, fun p1 H1 hp1 S1 e1 => ⟨_, p1, _, _, _, false, rfl, e1, (.cons (.own _) (.cons (.own _) (.cons (.own _) Paired.nil))), .err T.ec (S1 _ _ ha) (S1 _ _ hd), (kitAny_cons (b := false) (k 4 (by decide)) (fun _ => (kitAny_cons (b := false) (k 9 (by decide)) (fun _ => (kitAny_cons (b := false) (k 12 (by decide)) (fun _ => kitAny_nil) (fun z => nomatch z))) (fun z => nomatch z))) (fun z => nomatch z)), _, rfl, iteF ?_⟩⟩
      replace ha := S1 _ _ ha
      replace hd := S1 _ _ hd
      replace S := S.trans S1
      refine ⟨_, rfl, _, _, _, _, false, rfl, .own _, .err T.ec ha hd, k 5 (by decide), _, rfl, iteF ?_⟩
      refine ⟨_, rfl, _, _, _, _, false, rfl, .own _, .err T.ec ha hd, k 6 (by decide), _, rfl, iteF ?_⟩
      refine ⟨_, rfl, _, _, _, _, true, rfl, .own _, .err T.ec ha hd, k 11 (by decide), _, rfl, iteT ?_⟩
      refine ⟨_, rfl, a, _, dd, _, _, rfl, T.ec, T.no _ (by decide +kernel), ha, hd, (by rw [show fldE (ef 11) (av 11 x y) = [(("other" : Str), y), (("one" : Str), x)] from rfl, lookup_put, if_neg (by decide +kernel), lookup_put, if_pos rfl]), _, rfl, a, _, dd, _, _, rfl, T.ec, T.no _ (by decide +kernel), ha, hd, (by rw [show fldE (ef 11) (av 11 x y) = [(("other" : Str), y), (("one" : Str), x)] from rfl, lookup_put, if_pos rfl]), by show 2 ≤ 1000; decide, fun p H9 hp S9 e9 => q p H9 (S.trans S9) e9⟩
    | 12, _ =>
      have k := fun j (hj : j < 13) => G.kit 12 j (by decide) hj
      obtain ⟨a, dd, rfl, ha, hd⟩ := h0
      have T := (G.er 12 (by decide)).ex
      have S := Same.refl H
      refine ⟨_, rfl, by show 2 ≤ 1000; decide, fun p0 H0 hp0 S0 e0 => ⟨_, p0, _, _, _, false, rfl, e0, (.cons (.own _) (.cons (.own _) Paired.nil)), .err T.ec (S0 _ _ ha) (S0 _ _ hd), (kitAny_cons (b := false) (k 0 (by decide)) (fun _ => (kitAny_cons (b := false) (k 3 (by decide)) (fun _ => kitAny_nil) (fun z => nomatch z))) (fun z => nomatch z)), _, rfl, iteF ?_⟩⟩
      replace ha := S0 _ _ ha
      replace hd := S0 _ _ hd
      replace S := S.trans S0
      refine ⟨_, rfl, _, _, _, _, false, rfl, .own _, .err T.ec ha hd, k 1 (by decide), _, rfl, iteF ?_⟩
      refine ⟨_, rfl, _, _, _, _, false, rfl, .own _, .err T.ec ha hd, k 2 (by decide), _, rfl, iteF ?_⟩
      refine ⟨_, rfl, by show 3 ≤ 1000; decide, fun p1 H1 hp1 S1 e1 => ⟨_, p1, _, _, _, true, rfl, e1, (.cons (.own _) (.cons (.own _) (.cons (.own _) Paired.nil))), .err T.ec (S1 _ _ ha) (S1 _ _ hd), (kitAny_cons (b := false) (k 4 (by decide)) (fun _ => (kitAny_cons (b := false) (k 9 (by decide)) (fun _ => (kitAny_cons (b := true) (k 12 (by decide)) (fun z => nomatch z) (fun _ => rfl))) (fun z => nomatch z))) (fun z => nomatch z)), _, rfl, iteT ?_⟩⟩
      replace ha := S1 _ _ ha
      replace hd := S1 _ _ hd
      replace S := S.trans S1
      refine ⟨_, rfl, a, _, dd, _, _, rfl, T.ec, T.no _ (by decide +kernel), ha, hd, (by rw [show fldE (ef 12) (av 12 x y) = [(("place" : Str), x)] from rfl, lookup_put, if_pos rfl]), by show 1 ≤ 1000; decide, fun p H9 hp S9 e9 => q p H9 (S.trans S9) e9⟩
    | n + 13, hi => exact absurd hi (by omega)

abbrev s_classes : Stmt := top 20
theorem sc_classes : FnScope ["_law_error", "_law_found"] ["_law_error"] (defScope s_classes) := ⟨rfl, rfl, rfl, by decide +kernel, rfl, by decide +kernel, by decide +kernel⟩

def spClasses (K : Frag) : Sp := fun vs H Q _ => ∃ (v : V) (i : Nat) (fs : List (Str × V)), vs = [v] ∧ i < 13 ∧ ErrV H v (cn K i) fs ∧ ∀ p H', Same H H' → H' p = some (.lst ((List.range 13).map fun j => V.bl (decide (i = j)))) → Q (.ref p) H'
theorem ok_classes (F : FunD K "_law_classes" "_law_classes" (defArgs s_classes) (defBody s_classes) (defScope s_classes) [] [] f fd) (G : Gd P w K mg base) : FnOk P w K mg base CX0 1 f fd ["_law_error"] (spClasses K) := by
  refine F.ok sc_classes (fun vs H Q E h => ?_) (fun cdv A outer s H vs Q E hr h => ?_)
  · obtain ⟨v, i, fs, rfl, _⟩ := h
    rfl
  · obtain ⟨v, i, fs, rfl, hi, ⟨a, dd, rfl, ha, hd⟩, q⟩ := h
    have T := (G.er i hi).ex
    refine ⟨_, PSs.nox (pss_cons (ps_set (i := 1) sc_classes.nd rfl (Or.inl rfl) (pe_lstS (pa_cons (pe_callB call_ie (by rfl) G.isinstance (by decide +kernel) (pa_cons (pv 0) (pa_cons (pe_gref (by rfl) (G.er 0 (by decide)).mgC) pa_nil))) (pa_cons (pe_callB call_ie (by rfl) G.isinstance (by decide +kernel) (pa_cons (pv 0) (pa_cons (pe_gref (by rfl) (G.er 1 (by decide)).mgC) pa_nil))) (pa_cons (pe_callB call_ie (by rfl) G.isinstance (by decide +kernel) (pa_cons (pv 0) (pa_cons (pe_gref (by rfl) (G.er 2 (by decide)).mgC) pa_nil))) pa_nil)))))
    (pss_cons (ps_set (i := 1) sc_classes.nd rfl (Or.inl rfl) (pe_op op_catS (pv 1) (pe_lstS (pa_cons (pe_callB call_ie (by rfl) G.isinstance (by decide +kernel) (pa_cons (pv 0) (pa_cons (pe_gref (by rfl) (G.er 3 (by decide)).mgC) pa_nil))) (pa_cons (pe_callB call_ie (by rfl) G.isinstance (by decide +kernel) (pa_cons (pv 0) (pa_cons (pe_gref (by rfl) (G.er 4 (by decide)).mgC) pa_nil))) (pa_cons (pe_callB call_ie (by rfl) G.isinstance (by decide +kernel) (pa_cons (pv 0) (pa_cons (pe_gref (by rfl) (G.er 5 (by decide)).mgC) pa_nil))) pa_nil))))))
    (pss_cons (ps_set (i := 1) sc_classes.nd rfl (Or.inl rfl) (pe_op op_catS (pv 1) (pe_lstS (pa_cons (pe_callB call_ie (by rfl) G.isinstance (by decide +kernel) (pa_cons (pv 0) (pa_cons (pe_gref (by rfl) (G.er 6 (by decide)).mgC) pa_nil))) (pa_cons (pe_callB call_ie (by rfl) G.isinstance (by decide +kernel) (pa_cons (pv 0) (pa_cons (pe_gref (by rfl) (G.er 7 (by decide)).mgC) pa_nil))) (pa_cons (pe_callB call_ie (by rfl) G.isinstance (by decide +kernel) (pa_cons (pv 0) (pa_cons (pe_gref (by rfl) (G.er 8 (by decide)).mgC) pa_nil))) pa_nil))))))
    (pss_cons (ps_set (i := 1) sc_classes.nd rfl (Or.inl rfl) (pe_op op_catS (pv 1) (pe_lstS (pa_cons (pe_callB call_ie (by rfl) G.isinstance (by decide +kernel) (pa_cons (pv 0) (pa_cons (pe_gref (by rfl) (G.er 9 (by decide)).mgC) pa_nil))) (pa_cons (pe_callB call_ie (by rfl) G.isinstance (by decide +kernel) (pa_cons (pv 0) (pa_cons (pe_gref (by rfl) (G.er 10 (by decide)).mgC) pa_nil))) (pa_cons (pe_callB call_ie (by rfl) G.isinstance (by decide +kernel) (pa_cons (pv 0) (pa_cons (pe_gref (by rfl) (G.er 11 (by decide)).mgC) pa_nil))) pa_nil))))))
    (pss_one (ps_ret (pe_op op_catS (pv 1) (pe_lstS (pa_cons (pe_callB call_ie (by rfl) G.isinstance (by decide +kernel) (pa_cons (pv 0) (pa_cons (pe_gref (by rfl) (G.er 12 (by decide)).mgC) pa_nil))) pa_nil))))))))), ?_⟩
    refine ⟨_, rfl, _, _, _, _, _, rfl, .own _, .err T.ec ha hd, G.kit i 0 hi (by decide), _, rfl, _, _, _, _, _, rfl, .own _, .err T.ec ha hd, G.kit i 1 hi (by decide), _, rfl, _, _, _, _, _, rfl, .own _, .err T.ec ha hd, G.kit i 2 hi (by decide), by show 3 ≤ 1000; decide, fun p0 H0 hp0 S0 e0 => ?_⟩
    replace ha := S0 _ _ ha
    replace hd := S0 _ _ hd
    have S := S0
    refine ⟨_, rfl, _, rfl, _, _, _, _, _, rfl, .own _, .err T.ec ha hd, G.kit i 3 hi (by decide), _, rfl, _, _, _, _, _, rfl, .own _, .err T.ec ha hd, G.kit i 4 hi (by decide), _, rfl, _, _, _, _, _, rfl, .own _, .err T.ec ha hd, G.kit i 5 hi (by decide), by show 3 ≤ 1000; decide, fun p1' H1' hp1' S1' e1' => ⟨_, _, _, _, rfl, rfl, SqL.of (S1' _ _ e0), SqL.of e1', by rw [sizeLine_eq]; show 3 + 3 ≤ 16777216; decide, fun p1 H1 hp1 S1 e1 => ?_⟩⟩
    replace ha := S1 _ _ (S1' _ _ ha)
    replace hd := S1 _ _ (S1' _ _ hd)
    replace S := (S.trans S1').trans S1
    refine ⟨_, rfl, _, rfl, _, _, _, _, _, rfl, .own _, .err T.ec ha hd, G.kit i 6 hi (by decide), _, rfl, _, _, _, _, _, rfl, .own _, .err T.ec ha hd, G.kit i 7 hi (by decide), _, rfl, _, _, _, _, _, rfl, .own _, .err T.ec ha hd, G.kit i 8 hi (by decide), by show 3 ≤ 1000; decide, fun p2' H2' hp2' S2' e2' => ⟨_, _, _, _, rfl, rfl, SqL.of (S2' _ _ e1), SqL.of e2', by rw [sizeLine_eq]; show 6 + 3 ≤ 16777216; decide, fun p2 H2 hp2 S2 e2 => ?_⟩⟩
    replace ha := S2 _ _ (S2' _ _ ha)
    replace hd := S2 _ _ (S2' _ _ hd)
    replace S := (S.trans S2').trans S2
    refine ⟨_, rfl, _, rfl, _, _, _, _, _, rfl, .own _, .err T.ec ha hd, G.kit i 9 hi (by decide), _, rfl, _, _, _, _, _, rfl, .own _, .err T.ec ha hd, G.kit i 10 hi (by decide), _, rfl, _, _, _, _, _, rfl, .own _, .err T.ec ha hd, G.kit i 11 hi (by decide), by show 3 ≤ 1000; decide, fun p3' H3' hp3' S3' e3' => ⟨_, _, _, _, rfl, rfl, SqL.of (S3' _ _ e2), SqL.of e3', by rw [sizeLine_eq]; show 9 + 3 ≤ 16777216; decide, fun p3 H3 hp3 S3 e3 => ?_⟩⟩
    replace ha := S3 _ _ (S3' _ _ ha)
    replace hd := S3 _ _ (S3' _ _ hd)
    replace S := (S.trans S3').trans S3
    refine ⟨_, rfl, _, rfl, _, _, _, _, _, rfl, .own _, .err T.ec ha hd, G.kit i 12 hi (by decide), by show 1 ≤ 1000; decide, fun p4' H4' hp4' S4' e4' => ⟨_, _, _, _, rfl, rfl, SqL.of (S4' _ _ e3), SqL.of e4', by rw [sizeLine_eq]; show 12 + 1 ≤ 16777216; decide, fun p4 H4 hp4 S4 e4 => ?_⟩⟩
    replace ha := S4 _ _ (S4' _ _ ha)
    replace hd := S4 _ _ (S4' _ _ hd)
    replace S := (S.trans S4').trans S4
    exact q p4 H4 S e4

end
end L2.K01

set_option Elab.async false
set_option linter.all false
set_option maxRecDepth 100000
set_option maxHeartbeats 4000000
namespace L2.K01
open PySem PySem.W PySem.Spec PySem.Calls PyProof.Rows L2.Jk
structure Gf (P : Program) (w : World) (K : Frag) (mg : Str → Option Value) (base : Heap) : Prop extends Gd P w K mg base where
  law_state : FnAt P w K mg base CX0 1 "_law_state" ["_law_source"] spState
  law_digit : FnAt P w K mg base CX0 1 "_law_digit" ["_law_state_here", "_law_base"] spDigit
  law_field : FnAt P w K mg base CX0 1 "_law_field" ["_law_error"] (spField K)
  law_classes : FnAt P w K mg base CX0 1 "_law_classes" ["_law_error"] (spClasses K)
def spLaw (K : Frag) : Sp := fun vs H Q _ => ∃ (a : Addr) (ns : List Int), vs = [.ref a] ∧ SqL K H a (ns.map V.int) ∧ ns.length ≤ 63 ∧ ∀ H', Q (.bl true) H'
theorem StAt.same {H H' : Hp} {a : Addr} (h : StAt H a) (s : Same H H') : StAt H' a := by
  obtain ⟨x, y, z, e, r⟩ := h
  exact ⟨x, y, z, s _ _ e, r⟩
theorem StAt.ne {H : Hp} {a b : Addr} (h : StAt H a) (n : H b = none) : b ≠ a := by
  obtain ⟨x, y, z, e, r⟩ := h
  exact ne_new e n
theorem cut_int {ns : List Int} {i : Nat} {x : V} (h : (cutV (ns.map V.int ++ [V.int 0]) none (some 3))[i]? = some x) : ∃ n, x = V.int n := by
  have m := List.mem_of_getElem? h
  unfold cutV at m
  have m2 := List.mem_of_mem_drop (List.mem_of_mem_take m)
  rcases List.mem_append.mp m2 with m3 | m3
  · obtain ⟨n, _, e⟩ := List.mem_map.mp m3
    exact ⟨n, e.symm⟩
  · exact ⟨0, List.mem_singleton.mp m3⟩
theorem iteNE {b : Bool} {A B : Prop} (h : b = true) (k : B) : if (!b) = true then A else B := by
  rw [h]
  exact k
theorem shp1 {d : PyData} (h : d.canLay0 = true) (k : d.depth ≤ 9) : SeqAt.shaped (.list [d]) = true := by
  refine Bool.and_eq_true_iff.mpr ⟨?_, decide_eq_true ?_⟩
  · show (d.canLay0 && true) = true
    rw [h]
    rfl
  · show max d.depth 0 + 1 ≤ 64
    have := Nat.max_le.mpr ⟨k, Nat.zero_le 9⟩
    omega
theorem shp2 {d e : PyData} (h : d.canLay0 = true) (k : d.depth ≤ 9) (h2 : e.canLay0 = true) (k2 : e.depth ≤ 9) : SeqAt.shaped (.list [d, e]) = true := by
  refine Bool.and_eq_true_iff.mpr ⟨?_, decide_eq_true ?_⟩
  · show (d.canLay0 && (e.canLay0 && true)) = true
    rw [h, h2]
    rfl
  · show max d.depth (max e.depth 0) + 1 ≤ 64
    have := Nat.max_le.mpr ⟨k, Nat.max_le.mpr ⟨k2, Nat.zero_le 9⟩⟩
    omega
section
variable {P : Program} {w : World} {K : Frag} {mg : Str → Option Value} {base : Heap} {f : Addr} {fd : FuncData}

abbrev s_law : Stmt := top 21
theorem sc_law : FnScope ["_law_script", "_law_cell", "_law_s", "_law_x", "_law_y", "_law_errors", "_law_words", "_law_at", "_law_error", "_law_due", "_law_k"] ["_law_script"] (defScope s_law) := ⟨rfl, rfl, rfl, by decide +kernel, rfl, by decide +kernel, by decide +kernel⟩

theorem dpB {bs : List Bool} {H : Hp} {p : Addr} (h : H p = some (.lst (bs.map V.bl))) : Dp K H (.ref p) (.list (bs.map PyData.bool)) := by
  refine .lst (SqL.of h) ?_
  clear h
  induction bs with
  | nil => exact .nil
  | cons b r ih => exact .cons (.bl b) ih
theorem ok_law (F : FunD K "law" "law" (defArgs s_law) (defBody s_law) (defScope s_law) [] [] f fd) (G : Gf P w K mg base) : FnOk P w K mg base CX0 3 f fd ["_law_script"] (spLaw K) := by
  refine F.ok sc_law (fun vs H Q E h => ?_) (fun cdv A outer s H vs Q E hr h => ?_)
  · obtain ⟨a, ns, rfl, _⟩ := h
    rfl
  · obtain ⟨a, ns, rfl, hS, hl, k⟩ := h
    have hr' : Room 1 _ := hr.mono (by decide)
    refine ⟨_, PSs.nox (pss_cons (ps_for PassesOwn.never rfl (pi_list (pe_slice sl_listS (pe_op op_catS (pv 0) (pe_lstS (pa_cons pe_int pa_nil))) po_none (po_some pe_int))) (pg_name (i := 1) sc_law.nd rfl (Or.inl rfl))
      (pss_cons (ps_set (i := 2) sc_law.nd rfl (Or.inl rfl) (pe_fn G.law_state hr' pass0 (by rfl) (pa_cons (pv 1) pa_nil)))
      (pss_cons (ps_set (i := 3) sc_law.nd rfl (Or.inl rfl) (pe_ix ix_list (pe_lstS (pa_cons (pe_fn G.law_digit hr' pass0 (by rfl) (pa_cons (pv 2) (pa_cons pe_int pa_nil))) (pa_cons pe_non (pa_cons pe_str (pa_cons (pe_lstS (pa_cons pe_int (pa_cons (pe_lstS (pa_cons pe_int pa_nil)) pa_nil))) (pa_cons (pe_tupS (pa_cons pe_int pa_nil)) (pa_cons (pe_un un_neg pe_int) pa_nil))))))) (pe_fn G.law_digit hr' pass0 (by rfl) (pa_cons (pv 2) (pa_cons pe_int pa_nil))) (fun _ _ => rfl)))
      (pss_cons (ps_set (i := 4) sc_law.nd rfl (Or.inl rfl) (pe_ix ix_list (pe_lstS (pa_cons (pe_fn G.law_digit hr' pass0 (by rfl) (pa_cons (pv 2) (pa_cons pe_int pa_nil))) (pa_cons pe_str (pa_cons (pe_lstS (pa_cons (pv 3) pa_nil)) pa_nil)))) (pe_fn G.law_digit hr' pass0 (by rfl) (pa_cons (pv 2) (pa_cons pe_int pa_nil))) (fun _ _ => rfl)))
      (pss_cons (ps_set (i := 5) sc_law.nd rfl (Or.inl rfl) (pe_lstS (pa_cons (pe_err (G.er 0 (by decide)) hr pass0 (by rfl) (pa_cons (pv 3) pa_nil)) (pa_cons (pe_err (G.er 1 (by decide)) hr pass0 (by rfl) (pa_cons (pv 3) pa_nil)) (pa_cons (pe_err (G.er 2 (by decide)) hr pass0 (by rfl) (pa_cons (pv 3) pa_nil)) (pa_cons (pe_err (G.er 3 (by decide)) hr pass0 (by rfl) (pa_cons (pv 3) pa_nil)) (pa_cons (pe_err (G.er 4 (by decide)) hr pass0 (by rfl) (pa_cons (pv 3) pa_nil)) (pa_cons (pe_err (G.er 5 (by decide)) hr pass0 (by rfl) (pa_cons (pv 3) pa_nil)) (pa_cons (pe_err (G.er 6 (by decide)) hr pass0 (by rfl) (pa_cons (pv 3) pa_nil)) (pa_cons (pe_err (G.er 7 (by decide)) hr pass0 (by rfl) (pa_cons (pv 3) pa_nil)) pa_nil))))))))))
      (pss_cons (ps_set (i := 5) sc_law.nd rfl (Or.inl rfl) (pe_op op_catS (pv 5) (pe_lstS (pa_cons (pe_err (G.er 8 (by decide)) hr pass0 (by rfl) (pa_cons (pv 3) pa_nil)) (pa_cons (pe_err (G.er 9 (by decide)) hr pass0 (by rfl) (pa_cons (pv 3) pa_nil)) (pa_cons (pe_err (G.er 10 (by decide)) hr pass0 (by rfl) (pa_cons (pv 3) pa_nil)) (pa_cons (pe_err (G.er 11 (by decide)) hr pass0 (by rfl) (pa_cons (pv 3) (pa_cons (pv 4) pa_nil))) (pa_cons (pe_err (G.er 12 (by decide)) hr pass0 (by rfl) (pa_cons (pv 3) pa_nil)) pa_nil))))))))
      (pss_cons (ps_set (i := 6) sc_law.nd rfl (Or.inl rfl) (pe_lstS (pa_cons pe_str (pa_cons pe_str (pa_cons pe_str (pa_cons pe_str (pa_cons pe_str (pa_cons pe_str (pa_cons pe_str (pa_cons pe_str (pa_cons pe_str pa_nil)))))))))))
      (pss_cons (ps_set (i := 6) sc_law.nd rfl (Or.inl rfl) (pe_op op_catS (pv 6) (pe_lstS (pa_cons pe_str (pa_cons pe_str (pa_cons pe_str (pa_cons pe_str pa_nil)))))))
      (pss_one (ps_for PassesOwn.never rfl (pi_enum (by rfl) G.enumerate (pa_cons (pv 5) pa_nil)) (pg_tup rfl (pgs_cons (pg_name (i := 7) sc_law.nd rfl (Or.inr rfl)) (pgs_cons (pg_name (i := 8) sc_law.nd rfl (Or.inl rfl)) pgs_nil)))
        (pss_cons (ps_set (i := 9) sc_law.nd rfl (Or.inl rfl) (pe_ifExp (pt_cmpR op_eq (pe_ix ix_list (pv 6) (pv 7) (fun _ _ => rfl)) pe_str (nomark _)) (pe_lstS (pa_cons (pv 3) (pa_cons (pv 4) pa_nil))) (pe_lstS (pa_cons (pv 3) pa_nil))))
        (pss_cons (ps_if (PW.pt (pw_or (pt_cmpR op_ne (pe_em0 (CX := CX0) (pv 8) pass0) (pe_op op_add_str pe_str (pe_ix ix_list (pv 6) (pv 7) (fun _ _ => rfl))) (nomark _)) (pw_or1 (pt_cmpR (op_neD hr.units) (pe_fn G.law_field hr' pass0 (by rfl) (pa_cons (pv 8) pa_nil)) (pv 9) (nomark _)))))
          (pss_one (ps_ret pe_bl))
          pss_nil)
        (pss_cons (ps_if (PW.pt (pw_or (pt_not (pt_val (pe_callB call_ie (by rfl) G.isinstance (by decide +kernel) (pa_cons (pv 8) (pa_cons (pe_gref (by rfl) G.mgJ) pa_nil))))) (pw_or1 (pt_not (pt_val (pe_callB call_ie (by rfl) G.isinstance (by decide +kernel) (pa_cons (pv 8) (pa_cons (pe_bty (n := "ValueError") (by rfl) G.ValueError (by decide +kernel)) pa_nil))))))))
          (pss_one (ps_ret pe_bl))
          pss_nil)
        (pss_one (ps_if (pt_cmpR (op_neD hr.units) (pe_fn G.law_classes hr' pass0 (by rfl) (pa_cons (pv 8) pa_nil)) (pe_lc (own := [("_law_k", 10)]) (g := gName 10) (tt := tYes) rfl sc_law.nd (pi_range1 (by rfl) G.range (pa_cons (pe_callB call_len (by rfl) G.len (by decide +kernel) (pa_cons (pv 5) pa_nil)) pa_nil)) (blkOk_by (N := ["_law_script", "_law_cell", "_law_s", "_law_x", "_law_y", "_law_errors", "_law_words", "_law_at", "_law_error", "_law_due", "_law_k"]) (sc := defScope s_law) (by decide +kernel)) (fun _ _ _ _ _ => pg_name (i := 10) sc_law.nd rfl (Or.inl rfl)) (fun _ _ _ _ _ => pts_nil) (fun _ _ _ _ _ => (pe_cmpR op_eq (pv 10) (pv 7) (nomark _)))) (nomark _))
          (pss_one (ps_ret pe_bl))
          pss_nil)))))))))))))))
    (pss_one (ps_ret pe_bl))), ?_⟩
    refine ⟨_, rfl, by show 1 ≤ 1000; decide, fun p0 H0 hp0 S0 e0 => ⟨a, _, _, _, rfl, rfl, S0.seq hS, SqL.of e0, by rw [List.length_map, sizeLine_eq]; show ns.length + 1 ≤ 16777216; omega, fun p1 H1 hp1 S1 e1 => ⟨_, rfl, _, _, rfl, SqL.of e1, fun p2 H2 hp2 S2 e2 => ?_⟩⟩⟩
    refine ⟨p2, rfl, ⟨_, SqL.of e2⟩, for_list (K := K) (a := p2) (xs := cutV (ns.map V.int ++ [V.int 0]) none (some 3)) (fun i σ H' => ∃ v1 v2 v3 v4 v5 v6 v7 v8 v9 v10, σ = [some (.ref a), v1, v2, v3, v4, v5, v6, v7, v8, v9, v10] ∧ Same H2 H')
      ⟨_, _, _, _, _, _, _, _, _, _, rfl, Same.refl _⟩ (fun i σ H' _ ⟨_, _, _, _, _, _, _, _, _, _, _, S⟩ => SqL.of (S _ _ e2)) ?_ ?_⟩
    · rintro i x0 σ H3 hx0 ⟨v1, v2, v3, v4, v5, v6, v7, v8, v9, v10, rfl, S3⟩
      obtain ⟨c, rfl⟩ := cut_int hx0
      -- the numbers
      refine ⟨_, rfl, c, rfl, fun sa H4 hsa S4 st4 => ?_⟩
      refine ⟨_, rfl, sa, 100, rfl, st4, by decide, by decide, fun d5 H5 hd5 hd5' B5 st5 => ?_⟩
      refine ⟨by show 1 ≤ 1000; decide, fun p6 H6 hp6 S6 e6 => ⟨by show 2 ≤ 1000; decide, fun p7 H7 hp7 S7 e7 => ⟨by show 1 ≤ 1000; decide, fun p8 H8 hp8 S8 e8 => ⟨_, rfl, by show 6 ≤ 1000; decide, fun p9 H9 hp9 S9 e9 => ?_⟩⟩⟩⟩
      have n6 := st5.ne hp6
      have st6 := st5.same S6
      have n7 := st6.ne hp7
      have st7 := st6.same S7
      have n8 := st7.ne hp8
      have st8 := st7.same S8
      have n9 := st8.ne hp9
      have st9 := st8.same S9
      refine ⟨_, rfl, sa, 6, rfl, st9, by decide, by decide, fun d10 H10 hd10 hd10' B10 st10 => ?_⟩
      have f6 := B10 _ _ n6 (S9 _ _ (S8 _ _ (S7 _ _ e6)))
      have f7 := B10 _ _ n7 (S9 _ _ (S8 _ _ e7))
      have f8 := B10 _ _ n8 (S9 _ _ e8)
      have f9 := B10 _ _ n9 e9
      obtain ⟨x, dx, hat, px, gx, gd⟩ : ∃ (x : V) (dx : PyData), atI [V.int d5, V.non, V.str "what", V.ref p7, V.ref p8, V.int (-5)] d10 = some x ∧ Per sa K H10 x dx ∧ dx.canLay0 = true ∧ dx.depth ≤ 5 := by
        have hh : d10 = 0 ∨ d10 = 1 ∨ d10 = 2 ∨ d10 = 3 ∨ d10 = 4 ∨ d10 = 5 := by omega
        rcases hh with rfl | rfl | rfl | rfl | rfl | rfl
        · exact ⟨_, .int d5, rfl, fun _ _ => .int d5, rfl, Nat.zero_le _⟩
        · exact ⟨_, .none, rfl, fun _ _ => .non, rfl, Nat.zero_le _⟩
        · exact ⟨_, .str "what", rfl, fun _ _ => .str _, by decide +kernel, Nat.zero_le _⟩
        · exact ⟨_, .list [.int 1, .list [.int 2]], rfl, Per.lst n7 f7 fun H' b => .cons (.int 1) (.cons (.lst (SqL.of (b _ _ n6 f6)) (.cons (.int 2) .nil)) .nil), by decide +kernel, by decide +kernel⟩
        · exact ⟨_, .tuple [.int 3], rfl, Per.tup n8 f8 fun H' b => .cons (.int 3) .nil, by decide +kernel, by decide +kernel⟩
        · exact ⟨_, .int (-5), rfl, fun _ _ => .int _, rfl, Nat.zero_le _⟩
      refine ⟨p9, _, d10, x, rfl, rfl, SqL.of f9, hat, ?_⟩
      refine ⟨_, rfl, sa, 100, rfl, st10, by decide, by decide, fun d11 H11 hd11 hd11' B11 st11 => ?_⟩
      have px11 := px.but B11
      refine ⟨_, rfl, by show 1 ≤ 1000; decide, fun p12 H12 hp12 S12 e12 => ⟨by show 3 ≤ 1000; decide, fun p13 H13 hp13 S13 e13 => ?_⟩⟩
      have n12 := st11.ne hp12
      have st12 := st11.same S12
      have n13 := st12.ne hp13
      have st13 := st12.same S13
      have px13 := (px11.same S12).same S13
      refine ⟨_, rfl, sa, 3, rfl, st13, by decide, by decide, fun d14 H14 hd14 hd14' B14 st14 => ?_⟩
      have px14 := px13.but B14
      have f12 := B14 _ _ n12 (S13 _ _ e12)
      have f13 := B14 _ _ n13 e13
      obtain ⟨y, dy, hat2, py14, hx, hd⟩ : ∃ (y : V) (dy : PyData), atI [V.int d11, V.str "", V.ref p12] d14 = some y ∧ Per sa K H14 y dy ∧ dy.canLay0 = true ∧ dy.depth ≤ 6 := by
        have hh : d14 = 0 ∨ d14 = 1 ∨ d14 = 2 := by omega
        rcases hh with rfl | rfl | rfl
        · exact ⟨_, .int d11, rfl, fun _ _ => .int d11, rfl, Nat.zero_le _⟩
        · exact ⟨_, .str "", rfl, fun _ _ => .str _, by decide +kernel, Nat.zero_le _⟩
        · exact ⟨_, .list [dx], rfl, Per.lst n12 f12 fun H' b => .cons (px14 H' b) .nil, by simp only [PyData.canLay0, PyData.canLayAll0, gx, Bool.and_true], by simp only [PyData.depth, PyData.depthAll]; omega⟩
      refine ⟨p13, _, d14, y, rfl, rfl, SqL.of f13, hat2, ?_⟩
      -- the errors
      refine ⟨_, rfl, rfl, fun w0 G0 T0 E0 => ?_⟩
      refine ⟨_, rfl, rfl, fun w1 G1 T1 E1 => ?_⟩
      refine ⟨_, rfl, rfl, fun w2 G2 T2 E2 => ?_⟩
      refine ⟨_, rfl, rfl, fun w3 G3 T3 E3 => ?_⟩
      refine ⟨_, rfl, rfl, fun w4 G4 T4 E4 => ?_⟩
      refine ⟨_, rfl, rfl, fun w5 G5 T5 E5 => ?_⟩
      refine ⟨_, rfl, rfl, fun w6 G6 T6 E6 => ?_⟩
      refine ⟨_, rfl, rfl, fun w7 G7 T7 E7 => ?_⟩
      refine ⟨by show 8 ≤ 1000; decide, fun q8 G8 hq8 T8 e8' => ?_⟩
      refine ⟨_, rfl, ?_⟩
      refine ⟨_, rfl, rfl, fun w8 G9 T9 E8 => ?_⟩
      refine ⟨_, rfl, rfl, fun w9 G10 T10 E9 => ?_⟩
      refine ⟨_, rfl, rfl, fun w10 G11 T11 E10 => ?_⟩
      refine ⟨_, rfl, _, rfl, rfl, fun w11 G12 T12 E11 => ?_⟩
      refine ⟨_, rfl, rfl, fun w12 G13 T13 E12 => ?_⟩
      refine ⟨by show 5 ≤ 1000; decide, fun q14 G14 hq14 T14 e14' => ?_⟩
      have TA : Same G8 G14 := (((((T9).trans T10).trans T11).trans T12).trans T13).trans T14
      refine ⟨_, _, _, _, rfl, rfl, SqL.of (TA _ _ e8'), SqL.of e14', by rw [sizeLine_eq]; show 8 + 5 ≤ 16777216; decide, fun q15 G15 hq15 T15 e15' => ?_⟩
      -- the words
      refine ⟨by show 9 ≤ 1000; decide, fun q16 G16 hq16 T16 e16' => ?_⟩
      refine ⟨_, rfl, by show 4 ≤ 1000; decide, fun q17 G17 hq17 T17 e17' => ?_⟩
      refine ⟨_, _, _, _, rfl, rfl, SqL.of (T17 _ _ e16'), SqL.of e17', by rw [sizeLine_eq]; show 9 + 4 ≤ 16777216; decide, fun q18 G18 hq18 T18 e18' => ?_⟩
      have U16 : Same G15 G18 := (T16.trans T17).trans T18
      have U14 : Same G14 G18 := T15.trans U16
      have U13 : Same G13 G18 := T14.trans U14
      have U12 : Same G12 G18 := T13.trans U13
      have U11 : Same G11 G18 := T12.trans U12
      have U10 : Same G10 G18 := T11.trans U11
      have U9 : Same G9 G18 := T10.trans U10
      have U8 : Same G8 G18 := T9.trans U9
      have U7 : Same G7 G18 := T8.trans U8
      have U6 : Same G6 G18 := T7.trans U7
      have U5 : Same G5 G18 := T6.trans U6
      have U4 : Same G4 G18 := T5.trans U5
      have U3 : Same G3 G18 := T4.trans U4
      have U2 : Same G2 G18 := T3.trans U3
      have U1 : Same G1 G18 := T2.trans U2
      have U0 : Same G0 G18 := T1.trans U1
      have UH : Same H14 G18 := T0.trans U0
      replace E0 := E0.same U0
      replace E1 := E1.same U1
      replace E2 := E2.same U2
      replace E3 := E3.same U3
      replace E4 := E4.same U4
      replace E5 := E5.same U5
      replace E6 := E6.same U6
      replace E7 := E7.same U7
      replace E8 := E8.same U9
      replace E9 := E9.same U10
      replace E10 := E10.same U11
      replace E11 := E11.same U12
      replace E12 := E12.same U13
      have px18 := px14.same UH
      have py18 := py14.same UH
      have e15 := U16 _ _ e15'
      have S18 : Same H2 G18 := by
        refine fun b o z => UH _ _ ?_
        have z4 := S4 _ _ (S3 _ _ z)
        have nb : b ≠ sa := fun q => by
          rw [q] at z
          rw [S3 _ _ z] at hsa
          cases hsa
        exact B14 _ _ nb (S13 _ _ (S12 _ _ (B11 _ _ nb (B10 _ _ nb (S9 _ _ (S8 _ _ (S7 _ _ (S6 _ _ (B5 _ _ nb z4)))))))))
      clear B5 B10 B11 B14 S6 S7 S8 S9 S12 S13 T0 T1 T2 T3 T4 T5 T6 T7 T8 T9 T10 T11 T12 T13 T14 T15 T16 T17 T18 TA U16 U14 U13 U12 U11 U10 U9 U8 U7 U6 U5 U4 U3 U2 U1 U0 UH
      refine ⟨_, rfl, q15, _, rfl, SqL.of e15, for_it (walk_enum (xs := [w0, w1, w2, w3, w4, w5, w6, w7, w8, w9, w10, w11, w12])) (fun i σ H' => ∃ v7 v8 v9 v10, σ = [some (.ref a), some (.int c), some (.ref sa), some x, some y, some (.ref q15), some (.ref q18), v7, v8, v9, v10] ∧ Same G18 H')
        ⟨_, _, _, _, rfl, Same.refl _⟩ (fun i σ H' _ ⟨_, _, _, _, _, S⟩ => SqL.of (S _ _ e15)) ?_ ?_⟩
      · rintro i z σ J1 J2 hi ⟨v7, v8, v9, v10, rfl, R1⟩ ⟨tt, zi, zv, rfl, ht, rfl, ei, ev⟩
        cases ei
        have R2 : Same J1 (upd J1 tt (.tup [V.int (i : Nat), zv])) := same_upd ht
        have r2 : upd J1 tt (.tup [V.int (i : Nat), zv]) tt = some (.tup [V.int (i : Nat), zv]) := upd_same
        generalize upd J1 tt (.tup [V.int (i : Nat), zv]) = J2 at R2 r2 ⊢
        have R := R1.trans R2
        refine ⟨tt, _, rfl, SqT.of r2, rfl, _, _, rfl, _, _, rfl, rfl, ?_⟩
        match i, hi, ev with
        | 0, _, ev =>
          obtain rfl : w0 = zv := Option.some.inj ev
          obtain ⟨ea, ed, rfl, ha, hd⟩ := E0
          have T := (G.er 0 (by decide)).ex
          obtain ⟨fdt, bt, kt, tok⟩ := (G.er 0 (by decide)).tok
          refine ⟨_, rfl, _, rfl, q18, _, _, _, rfl, rfl, SqL.of (R _ _ e18'), atI_nat (j := 0) rfl, rfl, _, rfl, ?_⟩
          refine ite2 (fun hf => absurd (of_decide_eq_true hf) (by decide +kernel)) (fun _ => ?_)
          refine ⟨_, rfl, by show 1 ≤ 1000; decide, fun pd J3 hpd R3 e3 => ?_⟩
          replace R := R.trans R3
          refine ⟨_, rfl, ea, _, ed, _, _, rfl, T.ec, R _ _ ha, R _ _ hd, (by rw [show fldE (ef 0) [x] = [(("what" : Str), x)] from rfl, lookup_put, if_neg (by decide +kernel)]; rfl), (T.me "told" (List.mem_singleton_self _)).1, (T.me "told" (List.mem_singleton_self _)).2, 1, fdt, _, _, kt, tok, hr', bt, _, rfl, ?_⟩
          refine ⟨_, rfl, _, rfl, q18, _, _, _, rfl, rfl, SqL.of (R _ _ e18'), atI_nat (j := 0) rfl, _, _, rfl, rfl, by rw [sizeLine_eq]; decide +kernel, ?_⟩
          refine ⟨rfl, _, rfl, iteNS (by decide +kernel) ?_⟩
          refine ⟨_, rfl, _, x, y, 0, rfl, by decide, ⟨ea, ed, rfl, R _ _ ha, R _ _ hd⟩, fun pf J4 R4 e4 => ?_⟩
          replace R := R.trans R4
          refine ⟨_, rfl, .list [dx], .list [dx], dp_one e4 (px18.same R).dp, dp_one (R4 _ _ e3) (px18.same R).dp, shp1 gx (by omega), shp1 gx (by omega), _, rfl, iteNE (eqv_same (shp1 gx (by omega))) ?_⟩
          refine ⟨_, rfl, _, _, _, _, true, rfl, .own _, .err T.ec (R _ _ ha) (R _ _ hd), G.kJ 0 (by decide), _, rfl, iteF ?_⟩
          refine ⟨_, rfl, _, _, _, _, true, rfl, .ty _, .err T.ec (R _ _ ha) (R _ _ hd), G.kV 0 (by decide), _, rfl, iteF ?_⟩
          refine ⟨_, rfl, _, 0, _, rfl, by decide, ⟨ea, ed, rfl, R _ _ ha, R _ _ hd⟩, fun pc J5 R5 e5 => ?_⟩
          replace R := R.trans R5
          refine ⟨_, rfl, _, 13, rfl, .inl ⟨_, SqL.of (R _ _ e15), rfl⟩, 13, rfl, by decide, by decide, fun D hD => ?_⟩
          refine lc_range (lo := 0) (n := 13) (LcP J5 D fun n => (List.range n).map fun (j : Nat) => V.bl (decide (V.int (0 + (j : Int)) = V.int ((0 : Nat) : Int)))) (LcP.start hD rfl) ?_ ?_
          · intro j J6 hj p6
            refine ⟨rfl, _, rfl, _, rfl, rfl, p6.put (Same.refl _) (by rw [List.range_succ, List.map_append]; rfl) (by omega)⟩
          · rintro J6 ⟨R6, _, e6', _⟩
            refine ⟨_, _, dpB (bs := (List.range 13).map fun j => decide (0 = j)) (R6 _ _ e5), dpB (bs := (List.range 13).map fun (j : Nat) => decide (V.int (0 + (j : Int)) = V.int ((0 : Nat) : Int))) e6', by decide +kernel, by decide +kernel, _, rfl, iteNE (by decide +kernel) ?_⟩
            exact ⟨_, _, _, _, rfl, R.trans R6⟩
        | 1, _, ev =>
          obtain rfl : w1 = zv := Option.some.inj ev
          obtain ⟨ea, ed, rfl, ha, hd⟩ := E1
          have T := (G.er 1 (by decide)).ex
          obtain ⟨fdt, bt, kt, tok⟩ := (G.er 1 (by decide)).tok
          refine ⟨_, rfl, _, rfl, q18, _, _, _, rfl, rfl, SqL.of (R _ _ e18'), atI_nat (j := 1) rfl, rfl, _, rfl, ?_⟩
          refine ite2 (fun hf => absurd (of_decide_eq_true hf) (by decide +kernel)) (fun _ => ?_)
          refine ⟨_, rfl, by show 1 ≤ 1000; decide, fun pd J3 hpd R3 e3 => ?_⟩
          replace R := R.trans R3
          refine ⟨_, rfl, ea, _, ed, _, _, rfl, T.ec, R _ _ ha, R _ _ hd, (by rw [show fldE (ef 1) [x] = [(("value" : Str), x)] from rfl, lookup_put, if_neg (by decide +kernel)]; rfl), (T.me "told" (List.mem_singleton_self _)).1, (T.me "told" (List.mem_singleton_self _)).2, 1, fdt, _, _, kt, tok, hr', bt, _, rfl, ?_⟩
          refine ⟨_, rfl, _, rfl, q18, _, _, _, rfl, rfl, SqL.of (R _ _ e18'), atI_nat (j := 1) rfl, _, _, rfl, rfl, by rw [sizeLine_eq]; decide +kernel, ?_⟩
          refine ⟨rfl, _, rfl, iteNS (by decide +kernel) ?_⟩
          refine ⟨_, rfl, _, x, y, 1, rfl, by decide, ⟨ea, ed, rfl, R _ _ ha, R _ _ hd⟩, fun pf J4 R4 e4 => ?_⟩
          replace R := R.trans R4
          refine ⟨_, rfl, .list [dx], .list [dx], dp_one e4 (px18.same R).dp, dp_one (R4 _ _ e3) (px18.same R).dp, shp1 gx (by omega), shp1 gx (by omega), _, rfl, iteNE (eqv_same (shp1 gx (by omega))) ?_⟩
          refine ⟨_, rfl, _, _, _, _, true, rfl, .own _, .err T.ec (R _ _ ha) (R _ _ hd), G.kJ 1 (by decide), _, rfl, iteF ?_⟩
          refine ⟨_, rfl, _, _, _, _, true, rfl, .ty _, .err T.ec (R _ _ ha) (R _ _ hd), G.kV 1 (by decide), _, rfl, iteF ?_⟩
          refine ⟨_, rfl, _, 1, _, rfl, by decide, ⟨ea, ed, rfl, R _ _ ha, R _ _ hd⟩, fun pc J5 R5 e5 => ?_⟩
          replace R := R.trans R5
          refine ⟨_, rfl, _, 13, rfl, .inl ⟨_, SqL.of (R _ _ e15), rfl⟩, 13, rfl, by decide, by decide, fun D hD => ?_⟩
          refine lc_range (lo := 0) (n := 13) (LcP J5 D fun n => (List.range n).map fun (j : Nat) => V.bl (decide (V.int (0 + (j : Int)) = V.int ((1 : Nat) : Int)))) (LcP.start hD rfl) ?_ ?_
          · intro j J6 hj p6
            refine ⟨rfl, _, rfl, _, rfl, rfl, p6.put (Same.refl _) (by rw [List.range_succ, List.map_append]; rfl) (by omega)⟩
          · rintro J6 ⟨R6, _, e6', _⟩
            refine ⟨_, _, dpB (bs := (List.range 13).map fun j => decide (1 = j)) (R6 _ _ e5), dpB (bs := (List.range 13).map fun (j : Nat) => decide (V.int (0 + (j : Int)) = V.int ((1 : Nat) : Int))) e6', by decide +kernel, by decide +kernel, _, rfl, iteNE (by decide +kernel) ?_⟩
            exact ⟨_, _, _, _, rfl, R.trans R6⟩
        | 2, _, ev =>
          obtain rfl : w2 = zv := Option.some.inj ev
          obtain ⟨ea, ed, rfl, ha, hd⟩ := E2
          have T := (G.er 2 (by decide)).ex
          obtain ⟨fdt, bt, kt, tok⟩ := (G.er 2 (by decide)).tok
          refine ⟨_, rfl, _, rfl, q18, _, _, _, rfl, rfl, SqL.of (R _ _ e18'), atI_nat (j := 2) rfl, rfl, _, rfl, ?_⟩
          refine ite2 (fun hf => absurd (of_decide_eq_true hf) (by decide +kernel)) (fun _ => ?_)
          refine ⟨_, rfl, by show 1 ≤ 1000; decide, fun pd J3 hpd R3 e3 => ?_⟩
          replace R := R.trans R3
          refine ⟨_, rfl, ea, _, ed, _, _, rfl, T.ec, R _ _ ha, R _ _ hd, (by rw [show fldE (ef 2) [x] = [(("text" : Str), x)] from rfl, lookup_put, if_neg (by decide +kernel)]; rfl), (T.me "told" (List.mem_singleton_self _)).1, (T.me "told" (List.mem_singleton_self _)).2, 1, fdt, _, _, kt, tok, hr', bt, _, rfl, ?_⟩
          refine ⟨_, rfl, _, rfl, q18, _, _, _, rfl, rfl, SqL.of (R _ _ e18'), atI_nat (j := 2) rfl, _, _, rfl, rfl, by rw [sizeLine_eq]; decide +kernel, ?_⟩
          refine ⟨rfl, _, rfl, iteNS (by decide +kernel) ?_⟩
          refine ⟨_, rfl, _, x, y, 2, rfl, by decide, ⟨ea, ed, rfl, R _ _ ha, R _ _ hd⟩, fun pf J4 R4 e4 => ?_⟩
          replace R := R.trans R4
          refine ⟨_, rfl, .list [dx], .list [dx], dp_one e4 (px18.same R).dp, dp_one (R4 _ _ e3) (px18.same R).dp, shp1 gx (by omega), shp1 gx (by omega), _, rfl, iteNE (eqv_same (shp1 gx (by omega))) ?_⟩
          refine ⟨_, rfl, _, _, _, _, true, rfl, .own _, .err T.ec (R _ _ ha) (R _ _ hd), G.kJ 2 (by decide), _, rfl, iteF ?_⟩
          refine ⟨_, rfl, _, _, _, _, true, rfl, .ty _, .err T.ec (R _ _ ha) (R _ _ hd), G.kV 2 (by decide), _, rfl, iteF ?_⟩
          refine ⟨_, rfl, _, 2, _, rfl, by decide, ⟨ea, ed, rfl, R _ _ ha, R _ _ hd⟩, fun pc J5 R5 e5 => ?_⟩
          replace R := R.trans R5
          refine ⟨_, rfl, _, 13, rfl, .inl ⟨_, SqL.of (R _ _ e15), rfl⟩, 13, rfl, by decide, by decide, fun D hD => ?_⟩
          refine lc_range (lo := 0) (n := 13) (LcP J5 D fun n => (List.range n).map fun (j : Nat) => V.bl (decide (V.int (0 + (j : Int)) = V.int ((2 : Nat) : Int)))) (LcP.start hD rfl) ?_ ?_
          · intro j J6 hj p6
            refine ⟨rfl, _, rfl, _, rfl, rfl, p6.put (Same.refl _) (by rw [List.range_succ, List.map_append]; rfl) (by omega)⟩
          · rintro J6 ⟨R6, _, e6', _⟩
            refine ⟨_, _, dpB (bs := (List.range 13).map fun j => decide (2 = j)) (R6 _ _ e5), dpB (bs := (List.range 13).map fun (j : Nat) => decide (V.int (0 + (j : Int)) = V.int ((2 : Nat) : Int))) e6', by decide +kernel, by decide +kernel, _, rfl, iteNE (by decide +kernel) ?_⟩
            exact ⟨_, _, _, _, rfl, R.trans R6⟩
        | 3, _, ev =>
          obtain rfl : w3 = zv := Option.some.inj ev
          obtain ⟨ea, ed, rfl, ha, hd⟩ := E3
          have T := (G.er 3 (by decide)).ex
          obtain ⟨fdt, bt, kt, tok⟩ := (G.er 3 (by decide)).tok
          refine ⟨_, rfl, _, rfl, q18, _, _, _, rfl, rfl, SqL.of (R _ _ e18'), atI_nat (j := 3) rfl, rfl, _, rfl, ?_⟩
          refine ite2 (fun hf => absurd (of_decide_eq_true hf) (by decide +kernel)) (fun _ => ?_)
          refine ⟨_, rfl, by show 1 ≤ 1000; decide, fun pd J3 hpd R3 e3 => ?_⟩
          replace R := R.trans R3
          refine ⟨_, rfl, ea, _, ed, _, _, rfl, T.ec, R _ _ ha, R _ _ hd, (by rw [show fldE (ef 3) [x] = [(("what" : Str), x)] from rfl, lookup_put, if_neg (by decide +kernel)]; rfl), (T.me "told" (List.mem_singleton_self _)).1, (T.me "told" (List.mem_singleton_self _)).2, 1, fdt, _, _, kt, tok, hr', bt, _, rfl, ?_⟩
          refine ⟨_, rfl, _, rfl, q18, _, _, _, rfl, rfl, SqL.of (R _ _ e18'), atI_nat (j := 3) rfl, _, _, rfl, rfl, by rw [sizeLine_eq]; decide +kernel, ?_⟩
          refine ⟨rfl, _, rfl, iteNS (by decide +kernel) ?_⟩
          refine ⟨_, rfl, _, x, y, 3, rfl, by decide, ⟨ea, ed, rfl, R _ _ ha, R _ _ hd⟩, fun pf J4 R4 e4 => ?_⟩
          replace R := R.trans R4
          refine ⟨_, rfl, .list [dx], .list [dx], dp_one e4 (px18.same R).dp, dp_one (R4 _ _ e3) (px18.same R).dp, shp1 gx (by omega), shp1 gx (by omega), _, rfl, iteNE (eqv_same (shp1 gx (by omega))) ?_⟩
          refine ⟨_, rfl, _, _, _, _, true, rfl, .own _, .err T.ec (R _ _ ha) (R _ _ hd), G.kJ 3 (by decide), _, rfl, iteF ?_⟩
          refine ⟨_, rfl, _, _, _, _, true, rfl, .ty _, .err T.ec (R _ _ ha) (R _ _ hd), G.kV 3 (by decide), _, rfl, iteF ?_⟩
          refine ⟨_, rfl, _, 3, _, rfl, by decide, ⟨ea, ed, rfl, R _ _ ha, R _ _ hd⟩, fun pc J5 R5 e5 => ?_⟩
          replace R := R.trans R5
          refine ⟨_, rfl, _, 13, rfl, .inl ⟨_, SqL.of (R _ _ e15), rfl⟩, 13, rfl, by decide, by decide, fun D hD => ?_⟩
          refine lc_range (lo := 0) (n := 13) (LcP J5 D fun n => (List.range n).map fun (j : Nat) => V.bl (decide (V.int (0 + (j : Int)) = V.int ((3 : Nat) : Int)))) (LcP.start hD rfl) ?_ ?_
          · intro j J6 hj p6
            refine ⟨rfl, _, rfl, _, rfl, rfl, p6.put (Same.refl _) (by rw [List.range_succ, List.map_append]; rfl) (by omega)⟩
          · rintro J6 ⟨R6, _, e6', _⟩
            refine ⟨_, _, dpB (bs := (List.range 13).map fun j => decide (3 = j)) (R6 _ _ e5), dpB (bs := (List.range 13).map fun (j : Nat) => decide (V.int (0 + (j : Int)) = V.int ((3 : Nat) : Int))) e6', by decide +kernel, by decide +kernel, _, rfl, iteNE (by decide +kernel) ?_⟩
            exact ⟨_, _, _, _, rfl, R.trans R6⟩
        | 4, _, ev =>
          obtain rfl : w4 = zv := Option.some.inj ev
          obtain ⟨ea, ed, rfl, ha, hd⟩ := E4
          have T := (G.er 4 (by decide)).ex
          obtain ⟨fdt, bt, kt, tok⟩ := (G.er 4 (by decide)).tok
          refine ⟨_, rfl, _, rfl, q18, _, _, _, rfl, rfl, SqL.of (R _ _ e18'), atI_nat (j := 4) rfl, rfl, _, rfl, ?_⟩
          refine ite2 (fun hf => absurd (of_decide_eq_true hf) (by decide +kernel)) (fun _ => ?_)
          refine ⟨_, rfl, by show 1 ≤ 1000; decide, fun pd J3 hpd R3 e3 => ?_⟩
          replace R := R.trans R3
          refine ⟨_, rfl, ea, _, ed, _, _, rfl, T.ec, R _ _ ha, R _ _ hd, (by rw [show fldE (ef 4) [x] = [(("place" : Str), x)] from rfl, lookup_put, if_neg (by decide +kernel)]; rfl), (T.me "told" (List.mem_singleton_self _)).1, (T.me "told" (List.mem_singleton_self _)).2, 1, fdt, _, _, kt, tok, hr', bt, _, rfl, ?_⟩
          refine ⟨_, rfl, _, rfl, q18, _, _, _, rfl, rfl, SqL.of (R _ _ e18'), atI_nat (j := 4) rfl, _, _, rfl, rfl, by rw [sizeLine_eq]; decide +kernel, ?_⟩
          refine ⟨rfl, _, rfl, iteNS (by decide +kernel) ?_⟩
          refine ⟨_, rfl, _, x, y, 4, rfl, by decide, ⟨ea, ed, rfl, R _ _ ha, R _ _ hd⟩, fun pf J4 R4 e4 => ?_⟩
          replace R := R.trans R4
          refine ⟨_, rfl, .list [dx], .list [dx], dp_one e4 (px18.same R).dp, dp_one (R4 _ _ e3) (px18.same R).dp, shp1 gx (by omega), shp1 gx (by omega), _, rfl, iteNE (eqv_same (shp1 gx (by omega))) ?_⟩
          refine ⟨_, rfl, _, _, _, _, true, rfl, .own _, .err T.ec (R _ _ ha) (R _ _ hd), G.kJ 4 (by decide), _, rfl, iteF ?_⟩
          refine ⟨_, rfl, _, _, _, _, true, rfl, .ty _, .err T.ec (R _ _ ha) (R _ _ hd), G.kV 4 (by decide), _, rfl, iteF ?_⟩
          refine ⟨_, rfl, _, 4, _, rfl, by decide, ⟨ea, ed, rfl, R _ _ ha, R _ _ hd⟩, fun pc J5 R5 e5 => ?_⟩
          replace R := R.trans R5
          refine ⟨_, rfl, _, 13, rfl, .inl ⟨_, SqL.of (R _ _ e15), rfl⟩, 13, rfl, by decide, by decide, fun D hD => ?_⟩
          refine lc_range (lo := 0) (n := 13) (LcP J5 D fun n => (List.range n).map fun (j : Nat) => V.bl (decide (V.int (0 + (j : Int)) = V.int ((4 : Nat) : Int)))) (LcP.start hD rfl) ?_ ?_
          · intro j J6 hj p6
            refine ⟨rfl, _, rfl, _, rfl, rfl, p6.put (Same.refl _) (by rw [List.range_succ, List.map_append]; rfl) (by omega)⟩
          · rintro J6 ⟨R6, _, e6', _⟩
            refine ⟨_, _, dpB (bs := (List.range 13).map fun j => decide (4 = j)) (R6 _ _ e5), dpB (bs := (List.range 13).map fun (j : Nat) => decide (V.int (0 + (j : Int)) = V.int ((4 : Nat) : Int))) e6', by decide +kernel, by decide +kernel, _, rfl, iteNE (by decide +kernel) ?_⟩
            exact ⟨_, _, _, _, rfl, R.trans R6⟩
        | 5, _, ev =>
          obtain rfl : w5 = zv := Option.some.inj ev
          obtain ⟨ea, ed, rfl, ha, hd⟩ := E5
          have T := (G.er 5 (by decide)).ex
          obtain ⟨fdt, bt, kt, tok⟩ := (G.er 5 (by decide)).tok
          refine ⟨_, rfl, _, rfl, q18, _, _, _, rfl, rfl, SqL.of (R _ _ e18'), atI_nat (j := 5) rfl, rfl, _, rfl, ?_⟩
          refine ite2 (fun hf => absurd (of_decide_eq_true hf) (by decide +kernel)) (fun _ => ?_)
          refine ⟨_, rfl, by show 1 ≤ 1000; decide, fun pd J3 hpd R3 e3 => ?_⟩
          replace R := R.trans R3
          refine ⟨_, rfl, ea, _, ed, _, _, rfl, T.ec, R _ _ ha, R _ _ hd, (by rw [show fldE (ef 5) [x] = [(("count" : Str), x)] from rfl, lookup_put, if_neg (by decide +kernel)]; rfl), (T.me "told" (List.mem_singleton_self _)).1, (T.me "told" (List.mem_singleton_self _)).2, 1, fdt, _, _, kt, tok, hr', bt, _, rfl, ?_⟩
          refine ⟨_, rfl, _, rfl, q18, _, _, _, rfl, rfl, SqL.of (R _ _ e18'), atI_nat (j := 5) rfl, _, _, rfl, rfl, by rw [sizeLine_eq]; decide +kernel, ?_⟩
          refine ⟨rfl, _, rfl, iteNS (by decide +kernel) ?_⟩
          refine ⟨_, rfl, _, x, y, 5, rfl, by decide, ⟨ea, ed, rfl, R _ _ ha, R _ _ hd⟩, fun pf J4 R4 e4 => ?_⟩
          replace R := R.trans R4
          refine ⟨_, rfl, .list [dx], .list [dx], dp_one e4 (px18.same R).dp, dp_one (R4 _ _ e3) (px18.same R).dp, shp1 gx (by omega), shp1 gx (by omega), _, rfl, iteNE (eqv_same (shp1 gx (by omega))) ?_⟩
          refine ⟨_, rfl, _, _, _, _, true, rfl, .own _, .err T.ec (R _ _ ha) (R _ _ hd), G.kJ 5 (by decide), _, rfl, iteF ?_⟩
          refine ⟨_, rfl, _, _, _, _, true, rfl, .ty _, .err T.ec (R _ _ ha) (R _ _ hd), G.kV 5 (by decide), _, rfl, iteF ?_⟩
          refine ⟨_, rfl, _, 5, _, rfl, by decide, ⟨ea, ed, rfl, R _ _ ha, R _ _ hd⟩, fun pc J5 R5 e5 => ?_⟩
          replace R := R.trans R5
          refine ⟨_, rfl, _, 13, rfl, .inl ⟨_, SqL.of (R _ _ e15), rfl⟩, 13, rfl, by decide, by decide, fun D hD => ?_⟩
          refine lc_range (lo := 0) (n := 13) (LcP J5 D fun n => (List.range n).map fun (j : Nat) => V.bl (decide (V.int (0 + (j : Int)) = V.int ((5 : Nat) : Int)))) (LcP.start hD rfl) ?_ ?_
          · intro j J6 hj p6
            refine ⟨rfl, _, rfl, _, rfl, rfl, p6.put (Same.refl _) (by rw [List.range_succ, List.map_append]; rfl) (by omega)⟩
          · rintro J6 ⟨R6, _, e6', _⟩
            refine ⟨_, _, dpB (bs := (List.range 13).map fun j => decide (5 = j)) (R6 _ _ e5), dpB (bs := (List.range 13).map fun (j : Nat) => decide (V.int (0 + (j : Int)) = V.int ((5 : Nat) : Int))) e6', by decide +kernel, by decide +kernel, _, rfl, iteNE (by decide +kernel) ?_⟩
            exact ⟨_, _, _, _, rfl, R.trans R6⟩
        | 6, _, ev =>
          obtain rfl : w6 = zv := Option.some.inj ev
          obtain ⟨ea, ed, rfl, ha, hd⟩ := E6
          have T := (G.er 6 (by decide)).ex
          obtain ⟨fdt, bt, kt, tok⟩ := (G.er 6 (by decide)).tok
          refine ⟨_, rfl, _, rfl, q18, _, _, _, rfl, rfl, SqL.of (R _ _ e18'), atI_nat (j := 6) rfl, rfl, _, rfl, ?_⟩
          refine ite2 (fun hf => absurd (of_decide_eq_true hf) (by decide +kernel)) (fun _ => ?_)
          refine ⟨_, rfl, by show 1 ≤ 1000; decide, fun pd J3 hpd R3 e3 => ?_⟩
          replace R := R.trans R3
          refine ⟨_, rfl, ea, _, ed, _, _, rfl, T.ec, R _ _ ha, R _ _ hd, (by rw [show fldE (ef 6) [x] = [(("k" : Str), x)] from rfl, lookup_put, if_neg (by decide +kernel)]; rfl), (T.me "told" (List.mem_singleton_self _)).1, (T.me "told" (List.mem_singleton_self _)).2, 1, fdt, _, _, kt, tok, hr', bt, _, rfl, ?_⟩
          refine ⟨_, rfl, _, rfl, q18, _, _, _, rfl, rfl, SqL.of (R _ _ e18'), atI_nat (j := 6) rfl, _, _, rfl, rfl, by rw [sizeLine_eq]; decide +kernel, ?_⟩
          refine ⟨rfl, _, rfl, iteNS (by decide +kernel) ?_⟩
          refine ⟨_, rfl, _, x, y, 6, rfl, by decide, ⟨ea, ed, rfl, R _ _ ha, R _ _ hd⟩, fun pf J4 R4 e4 => ?_⟩
          replace R := R.trans R4
          refine ⟨_, rfl, .list [dx], .list [dx], dp_one e4 (px18.same R).dp, dp_one (R4 _ _ e3) (px18.same R).dp, shp1 gx (by omega), shp1 gx (by omega), _, rfl, iteNE (eqv_same (shp1 gx (by omega))) ?_⟩
          refine ⟨_, rfl, _, _, _, _, true, rfl, .own _, .err T.ec (R _ _ ha) (R _ _ hd), G.kJ 6 (by decide), _, rfl, iteF ?_⟩
          refine ⟨_, rfl, _, _, _, _, true, rfl, .ty _, .err T.ec (R _ _ ha) (R _ _ hd), G.kV 6 (by decide), _, rfl, iteF ?_⟩
          refine ⟨_, rfl, _, 6, _, rfl, by decide, ⟨ea, ed, rfl, R _ _ ha, R _ _ hd⟩, fun pc J5 R5 e5 => ?_⟩
          replace R := R.trans R5
          refine ⟨_, rfl, _, 13, rfl, .inl ⟨_, SqL.of (R _ _ e15), rfl⟩, 13, rfl, by decide, by decide, fun D hD => ?_⟩
          refine lc_range (lo := 0) (n := 13) (LcP J5 D fun n => (List.range n).map fun (j : Nat) => V.bl (decide (V.int (0 + (j : Int)) = V.int ((6 : Nat) : Int)))) (LcP.start hD rfl) ?_ ?_
          · intro j J6 hj p6
            refine ⟨rfl, _, rfl, _, rfl, rfl, p6.put (Same.refl _) (by rw [List.range_succ, List.map_append]; rfl) (by omega)⟩
          · rintro J6 ⟨R6, _, e6', _⟩
            refine ⟨_, _, dpB (bs := (List.range 13).map fun j => decide (6 = j)) (R6 _ _ e5), dpB (bs := (List.range 13).map fun (j : Nat) => decide (V.int (0 + (j : Int)) = V.int ((6 : Nat) : Int))) e6', by decide +kernel, by decide +kernel, _, rfl, iteNE (by decide +kernel) ?_⟩
            exact ⟨_, _, _, _, rfl, R.trans R6⟩
        | 7, _, ev =>
          obtain rfl : w7 = zv := Option.some.inj ev
          obtain ⟨ea, ed, rfl, ha, hd⟩ := E7
          have T := (G.er 7 (by decide)).ex
          obtain ⟨fdt, bt, kt, tok⟩ := (G.er 7 (by decide)).tok
          refine ⟨_, rfl, _, rfl, q18, _, _, _, rfl, rfl, SqL.of (R _ _ e18'), atI_nat (j := 7) rfl, rfl, _, rfl, ?_⟩
          refine ite2 (fun hf => absurd (of_decide_eq_true hf) (by decide +kernel)) (fun _ => ?_)
          refine ⟨_, rfl, by show 1 ≤ 1000; decide, fun pd J3 hpd R3 e3 => ?_⟩
          replace R := R.trans R3
          refine ⟨_, rfl, ea, _, ed, _, _, rfl, T.ec, R _ _ ha, R _ _ hd, (by rw [show fldE (ef 7) [x] = [(("index" : Str), x)] from rfl, lookup_put, if_neg (by decide +kernel)]; rfl), (T.me "told" (List.mem_singleton_self _)).1, (T.me "told" (List.mem_singleton_self _)).2, 1, fdt, _, _, kt, tok, hr', bt, _, rfl, ?_⟩
          refine ⟨_, rfl, _, rfl, q18, _, _, _, rfl, rfl, SqL.of (R _ _ e18'), atI_nat (j := 7) rfl, _, _, rfl, rfl, by rw [sizeLine_eq]; decide +kernel, ?_⟩
          refine ⟨rfl, _, rfl, iteNS (by decide +kernel) ?_⟩
          refine ⟨_, rfl, _, x, y, 7, rfl, by decide, ⟨ea, ed, rfl, R _ _ ha, R _ _ hd⟩, fun pf J4 R4 e4 => ?_⟩
          replace R := R.trans R4
          refine ⟨_, rfl, .list [dx], .list [dx], dp_one e4 (px18.same R).dp, dp_one (R4 _ _ e3) (px18.same R).dp, shp1 gx (by omega), shp1 gx (by omega), _, rfl, iteNE (eqv_same (shp1 gx (by omega))) ?_⟩
          refine ⟨_, rfl, _, _, _, _, true, rfl, .own _, .err T.ec (R _ _ ha) (R _ _ hd), G.kJ 7 (by decide), _, rfl, iteF ?_⟩
          refine ⟨_, rfl, _, _, _, _, true, rfl, .ty _, .err T.ec (R _ _ ha) (R _ _ hd), G.kV 7 (by decide), _, rfl, iteF ?_⟩
          refine ⟨_, rfl, _, 7, _, rfl, by decide, ⟨ea, ed, rfl, R _ _ ha, R _ _ hd⟩, fun pc J5 R5 e5 => ?_⟩
          replace R := R.trans R5
          refine ⟨_, rfl, _, 13, rfl, .inl ⟨_, SqL.of (R _ _ e15), rfl⟩, 13, rfl, by decide, by decide, fun D hD => ?_⟩
          refine lc_range (lo := 0) (n := 13) (LcP J5 D fun n => (List.range n).map fun (j : Nat) => V.bl (decide (V.int (0 + (j : Int)) = V.int ((7 : Nat) : Int)))) (LcP.start hD rfl) ?_ ?_
          · intro j J6 hj p6
            refine ⟨rfl, _, rfl, _, rfl, rfl, p6.put (Same.refl _) (by rw [List.range_succ, List.map_append]; rfl) (by omega)⟩
          · rintro J6 ⟨R6, _, e6', _⟩
            refine ⟨_, _, dpB (bs := (List.range 13).map fun j => decide (7 = j)) (R6 _ _ e5), dpB (bs := (List.range 13).map fun (j : Nat) => decide (V.int (0 + (j : Int)) = V.int ((7 : Nat) : Int))) e6', by decide +kernel, by decide +kernel, _, rfl, iteNE (by decide +kernel) ?_⟩
            exact ⟨_, _, _, _, rfl, R.trans R6⟩
        | 8, _, ev =>
          obtain rfl : w8 = zv := Option.some.inj ev
          obtain ⟨ea, ed, rfl, ha, hd⟩ := E8
          have T := (G.er 8 (by decide)).ex
          obtain ⟨fdt, bt, kt, tok⟩ := (G.er 8 (by decide)).tok
          refine ⟨_, rfl, _, rfl, q18, _, _, _, rfl, rfl, SqL.of (R _ _ e18'), atI_nat (j := 8) rfl, rfl, _, rfl, ?_⟩
          refine ite2 (fun hf => absurd (of_decide_eq_true hf) (by decide +kernel)) (fun _ => ?_)
          refine ⟨_, rfl, by show 1 ≤ 1000; decide, fun pd J3 hpd R3 e3 => ?_⟩
          replace R := R.trans R3
          refine ⟨_, rfl, ea, _, ed, _, _, rfl, T.ec, R _ _ ha, R _ _ hd, (by rw [show fldE (ef 8) [x] = [(("index" : Str), x)] from rfl, lookup_put, if_neg (by decide +kernel)]; rfl), (T.me "told" (List.mem_singleton_self _)).1, (T.me "told" (List.mem_singleton_self _)).2, 1, fdt, _, _, kt, tok, hr', bt, _, rfl, ?_⟩
          refine ⟨_, rfl, _, rfl, q18, _, _, _, rfl, rfl, SqL.of (R _ _ e18'), atI_nat (j := 8) rfl, _, _, rfl, rfl, by rw [sizeLine_eq]; decide +kernel, ?_⟩
          refine ⟨rfl, _, rfl, iteNS (by decide +kernel) ?_⟩
          refine ⟨_, rfl, _, x, y, 8, rfl, by decide, ⟨ea, ed, rfl, R _ _ ha, R _ _ hd⟩, fun pf J4 R4 e4 => ?_⟩
          replace R := R.trans R4
          refine ⟨_, rfl, .list [dx], .list [dx], dp_one e4 (px18.same R).dp, dp_one (R4 _ _ e3) (px18.same R).dp, shp1 gx (by omega), shp1 gx (by omega), _, rfl, iteNE (eqv_same (shp1 gx (by omega))) ?_⟩
          refine ⟨_, rfl, _, _, _, _, true, rfl, .own _, .err T.ec (R _ _ ha) (R _ _ hd), G.kJ 8 (by decide), _, rfl, iteF ?_⟩
          refine ⟨_, rfl, _, _, _, _, true, rfl, .ty _, .err T.ec (R _ _ ha) (R _ _ hd), G.kV 8 (by decide), _, rfl, iteF ?_⟩
          refine ⟨_, rfl, _, 8, _, rfl, by decide, ⟨ea, ed, rfl, R _ _ ha, R _ _ hd⟩, fun pc J5 R5 e5 => ?_⟩
          replace R := R.trans R5
          refine ⟨_, rfl, _, 13, rfl, .inl ⟨_, SqL.of (R _ _ e15), rfl⟩, 13, rfl, by decide, by decide, fun D hD => ?_⟩
          refine lc_range (lo := 0) (n := 13) (LcP J5 D fun n => (List.range n).map fun (j : Nat) => V.bl (decide (V.int (0 + (j : Int)) = V.int ((8 : Nat) : Int)))) (LcP.start hD rfl) ?_ ?_
          · intro j J6 hj p6
            refine ⟨rfl, _, rfl, _, rfl, rfl, p6.put (Same.refl _) (by rw [List.range_succ, List.map_append]; rfl) (by omega)⟩
          · rintro J6 ⟨R6, _, e6', _⟩
            refine ⟨_, _, dpB (bs := (List.range 13).map fun j => decide (8 = j)) (R6 _ _ e5), dpB (bs := (List.range 13).map fun (j : Nat) => decide (V.int (0 + (j : Int)) = V.int ((8 : Nat) : Int))) e6', by decide +kernel, by decide +kernel, _, rfl, iteNE (by decide +kernel) ?_⟩
            exact ⟨_, _, _, _, rfl, R.trans R6⟩
        | 9, _, ev =>
          obtain rfl : w9 = zv := Option.some.inj ev
          obtain ⟨ea, ed, rfl, ha, hd⟩ := E9
          have T := (G.er 9 (by decide)).ex
          obtain ⟨fdt, bt, kt, tok⟩ := (G.er 9 (by decide)).tok
          refine ⟨_, rfl, _, rfl, q18, _, _, _, rfl, rfl, SqL.of (R _ _ e18'), atI_nat (j := 9) rfl, rfl, _, rfl, ?_⟩
          refine ite2 (fun hf => absurd (of_decide_eq_true hf) (by decide +kernel)) (fun _ => ?_)
          refine ⟨_, rfl, by show 1 ≤ 1000; decide, fun pd J3 hpd R3 e3 => ?_⟩
          replace R := R.trans R3
          refine ⟨_, rfl, ea, _, ed, _, _, rfl, T.ec, R _ _ ha, R _ _ hd, (by rw [show fldE (ef 9) [x] = [(("place" : Str), x)] from rfl, lookup_put, if_neg (by decide +kernel)]; rfl), (T.me "told" (List.mem_singleton_self _)).1, (T.me "told" (List.mem_singleton_self _)).2, 1, fdt, _, _, kt, tok, hr', bt, _, rfl, ?_⟩
          refine ⟨_, rfl, _, rfl, q18, _, _, _, rfl, rfl, SqL.of (R _ _ e18'), atI_nat (j := 9) rfl, _, _, rfl, rfl, by rw [sizeLine_eq]; decide +kernel, ?_⟩
          refine ⟨rfl, _, rfl, iteNS (by decide +kernel) ?_⟩
          refine ⟨_, rfl, _, x, y, 9, rfl, by decide, ⟨ea, ed, rfl, R _ _ ha, R _ _ hd⟩, fun pf J4 R4 e4 => ?_⟩
          replace R := R.trans R4
          refine ⟨_, rfl, .list [dx], .list [dx], dp_one e4 (px18.same R).dp, dp_one (R4 _ _ e3) (px18.same R).dp, shp1 gx (by omega), shp1 gx (by omega), _, rfl, iteNE (eqv_same (shp1 gx (by omega))) ?_⟩
          refine ⟨_, rfl, _, _, _, _, true, rfl, .own _, .err T.ec (R _ _ ha) (R _ _ hd), G.kJ 9 (by decide), _, rfl, iteF ?_⟩
          refine ⟨_, rfl, _, _, _, _, true, rfl, .ty _, .err T.ec (R _ _ ha) (R _ _ hd), G.kV 9 (by decide), _, rfl, iteF ?_⟩
          refine ⟨_, rfl, _, 9, _, rfl, by decide, ⟨ea, ed, rfl, R _ _ ha, R _ _ hd⟩, fun pc J5 R5 e5 => ?_⟩
          replace R := R.trans R5
          refine ⟨_, rfl, _, 13, rfl, .inl ⟨_, SqL.of (R _ _ e15), rfl⟩, 13, rfl, by decide, by decide, fun D hD => ?_⟩
          refine lc_range (lo := 0) (n := 13) (LcP J5 D fun n => (List.range n).map fun (j : Nat) => V.bl (decide (V.int (0 + (j : Int)) = V.int ((9 : Nat) : Int)))) (LcP.start hD rfl) ?_ ?_
          · intro j J6 hj p6
            refine ⟨rfl, _, rfl, _, rfl, rfl, p6.put (Same.refl _) (by rw [List.range_succ, List.map_append]; rfl) (by omega)⟩
          · rintro J6 ⟨R6, _, e6', _⟩
            refine ⟨_, _, dpB (bs := (List.range 13).map fun j => decide (9 = j)) (R6 _ _ e5), dpB (bs := (List.range 13).map fun (j : Nat) => decide (V.int (0 + (j : Int)) = V.int ((9 : Nat) : Int))) e6', by decide +kernel, by decide +kernel, _, rfl, iteNE (by decide +kernel) ?_⟩
            exact ⟨_, _, _, _, rfl, R.trans R6⟩
        | 10, _, ev =>
          obtain rfl : w10 = zv := Option.some.inj ev
          obtain ⟨ea, ed, rfl, ha, hd⟩ := E10
          have T := (G.er 10 (by decide)).ex
          obtain ⟨fdt, bt, kt, tok⟩ := (G.er 10 (by decide)).tok
          refine ⟨_, rfl, _, rfl, q18, _, _, _, rfl, rfl, SqL.of (R _ _ e18'), atI_nat (j := 10) rfl, rfl, _, rfl, ?_⟩
          refine ite2 (fun hf => absurd (of_decide_eq_true hf) (by decide +kernel)) (fun _ => ?_)
          refine ⟨_, rfl, by show 1 ≤ 1000; decide, fun pd J3 hpd R3 e3 => ?_⟩
          replace R := R.trans R3
          refine ⟨_, rfl, ea, _, ed, _, _, rfl, T.ec, R _ _ ha, R _ _ hd, (by rw [show fldE (ef 10) [x] = [(("index" : Str), x)] from rfl, lookup_put, if_neg (by decide +kernel)]; rfl), (T.me "told" (List.mem_singleton_self _)).1, (T.me "told" (List.mem_singleton_self _)).2, 1, fdt, _, _, kt, tok, hr', bt, _, rfl, ?_⟩
          refine ⟨_, rfl, _, rfl, q18, _, _, _, rfl, rfl, SqL.of (R _ _ e18'), atI_nat (j := 10) rfl, _, _, rfl, rfl, by rw [sizeLine_eq]; decide +kernel, ?_⟩
          refine ⟨rfl, _, rfl, iteNS (by decide +kernel) ?_⟩
          refine ⟨_, rfl, _, x, y, 10, rfl, by decide, ⟨ea, ed, rfl, R _ _ ha, R _ _ hd⟩, fun pf J4 R4 e4 => ?_⟩
          replace R := R.trans R4
          refine ⟨_, rfl, .list [dx], .list [dx], dp_one e4 (px18.same R).dp, dp_one (R4 _ _ e3) (px18.same R).dp, shp1 gx (by omega), shp1 gx (by omega), _, rfl, iteNE (eqv_same (shp1 gx (by omega))) ?_⟩
          refine ⟨_, rfl, _, _, _, _, true, rfl, .own _, .err T.ec (R _ _ ha) (R _ _ hd), G.kJ 10 (by decide), _, rfl, iteF ?_⟩
          refine ⟨_, rfl, _, _, _, _, true, rfl, .ty _, .err T.ec (R _ _ ha) (R _ _ hd), G.kV 10 (by decide), _, rfl, iteF ?_⟩
          refine ⟨_, rfl, _, 10, _, rfl, by decide, ⟨ea, ed, rfl, R _ _ ha, R _ _ hd⟩, fun pc J5 R5 e5 => ?_⟩
          replace R := R.trans R5
          refine ⟨_, rfl, _, 13, rfl, .inl ⟨_, SqL.of (R _ _ e15), rfl⟩, 13, rfl, by decide, by decide, fun D hD => ?_⟩
          refine lc_range (lo := 0) (n := 13) (LcP J5 D fun n => (List.range n).map fun (j : Nat) => V.bl (decide (V.int (0 + (j : Int)) = V.int ((10 : Nat) : Int)))) (LcP.start hD rfl) ?_ ?_
          · intro j J6 hj p6
            refine ⟨rfl, _, rfl, _, rfl, rfl, p6.put (Same.refl _) (by rw [List.range_succ, List.map_append]; rfl) (by omega)⟩
          · rintro J6 ⟨R6, _, e6', _⟩
            refine ⟨_, _, dpB (bs := (List.range 13).map fun j => decide (10 = j)) (R6 _ _ e5), dpB (bs := (List.range 13).map fun (j : Nat) => decide (V.int (0 + (j : Int)) = V.int ((10 : Nat) : Int))) e6', by decide +kernel, by decide +kernel, _, rfl, iteNE (by decide +kernel) ?_⟩
            exact ⟨_, _, _, _, rfl, R.trans R6⟩
        | 11, _, ev =>
          obtain rfl : w11 = zv := Option.some.inj ev
          obtain ⟨ea, ed, rfl, ha, hd⟩ := E11
          have T := (G.er 11 (by decide)).ex
          obtain ⟨fdt, bt, kt, tok⟩ := (G.er 11 (by decide)).tok
          refine ⟨_, rfl, _, rfl, q18, _, _, _, rfl, rfl, SqL.of (R _ _ e18'), atI_nat (j := 11) rfl, rfl, _, rfl, iteT ?_⟩
          refine ⟨_, rfl, _, rfl, by show 2 ≤ 1000; decide, fun pd J3 hpd R3 e3 => ?_⟩
          replace R := R.trans R3
          refine ⟨_, rfl, ea, _, ed, _, _, rfl, T.ec, R _ _ ha, R _ _ hd, (by rw [show fldE (ef 11) [x, y] = [(("other" : Str), y), (("one" : Str), x)] from rfl, lookup_put, if_neg (by decide +kernel), lookup_put, if_neg (by decide +kernel)]; rfl), (T.me "told" (List.mem_singleton_self _)).1, (T.me "told" (List.mem_singleton_self _)).2, 1, fdt, _, _, kt, tok, hr', bt, _, rfl, ?_⟩
          refine ⟨_, rfl, _, rfl, q18, _, _, _, rfl, rfl, SqL.of (R _ _ e18'), atI_nat (j := 11) rfl, _, _, rfl, rfl, by rw [sizeLine_eq]; decide +kernel, ?_⟩
          refine ⟨rfl, _, rfl, iteNS (by decide +kernel) ?_⟩
          refine ⟨_, rfl, _, x, y, 11, rfl, by decide, ⟨ea, ed, rfl, R _ _ ha, R _ _ hd⟩, fun pf J4 R4 e4 => ?_⟩
          replace R := R.trans R4
          refine ⟨_, rfl, .list [dx, dy], .list [dx, dy], dp_two e4 (px18.same R).dp (py18.same R).dp, dp_two (R4 _ _ e3) (px18.same R).dp (py18.same R).dp, shp2 gx (by omega) hx (by omega), shp2 gx (by omega) hx (by omega), _, rfl, iteNE (eqv_same (shp2 gx (by omega) hx (by omega))) ?_⟩
          refine ⟨_, rfl, _, _, _, _, true, rfl, .own _, .err T.ec (R _ _ ha) (R _ _ hd), G.kJ 11 (by decide), _, rfl, iteF ?_⟩
          refine ⟨_, rfl, _, _, _, _, true, rfl, .ty _, .err T.ec (R _ _ ha) (R _ _ hd), G.kV 11 (by decide), _, rfl, iteF ?_⟩
          refine ⟨_, rfl, _, 11, _, rfl, by decide, ⟨ea, ed, rfl, R _ _ ha, R _ _ hd⟩, fun pc J5 R5 e5 => ?_⟩
          replace R := R.trans R5
          refine ⟨_, rfl, _, 13, rfl, .inl ⟨_, SqL.of (R _ _ e15), rfl⟩, 13, rfl, by decide, by decide, fun D hD => ?_⟩
          refine lc_range (lo := 0) (n := 13) (LcP J5 D fun n => (List.range n).map fun (j : Nat) => V.bl (decide (V.int (0 + (j : Int)) = V.int ((11 : Nat) : Int)))) (LcP.start hD rfl) ?_ ?_
          · intro j J6 hj p6
            refine ⟨rfl, _, rfl, _, rfl, rfl, p6.put (Same.refl _) (by rw [List.range_succ, List.map_append]; rfl) (by omega)⟩
          · rintro J6 ⟨R6, _, e6', _⟩
            refine ⟨_, _, dpB (bs := (List.range 13).map fun j => decide (11 = j)) (R6 _ _ e5), dpB (bs := (List.range 13).map fun (j : Nat) => decide (V.int (0 + (j : Int)) = V.int ((11 : Nat) : Int))) e6', by decide +kernel, by decide +kernel, _, rfl, iteNE (by decide +kernel) ?_⟩
            exact ⟨_, _, _, _, rfl, R.trans R6⟩
        | 12, _, ev =>
          obtain rfl : w12 = zv := Option.some.inj ev
          obtain ⟨ea, ed, rfl, ha, hd⟩ := E12
          have T := (G.er 12 (by decide)).ex
          obtain ⟨fdt, bt, kt, tok⟩ := (G.er 12 (by decide)).tok
          refine ⟨_, rfl, _, rfl, q18, _, _, _, rfl, rfl, SqL.of (R _ _ e18'), atI_nat (j := 12) rfl, rfl, _, rfl, ?_⟩
          refine ite2 (fun hf => absurd (of_decide_eq_true hf) (by decide +kernel)) (fun _ => ?_)
          refine ⟨_, rfl, by show 1 ≤ 1000; decide, fun pd J3 hpd R3 e3 => ?_⟩
          replace R := R.trans R3
          refine ⟨_, rfl, ea, _, ed, _, _, rfl, T.ec, R _ _ ha, R _ _ hd, (by rw [show fldE (ef 12) [x] = [(("place" : Str), x)] from rfl, lookup_put, if_neg (by decide +kernel)]; rfl), (T.me "told" (List.mem_singleton_self _)).1, (T.me "told" (List.mem_singleton_self _)).2, 1, fdt, _, _, kt, tok, hr', bt, _, rfl, ?_⟩
          refine ⟨_, rfl, _, rfl, q18, _, _, _, rfl, rfl, SqL.of (R _ _ e18'), atI_nat (j := 12) rfl, _, _, rfl, rfl, by rw [sizeLine_eq]; decide +kernel, ?_⟩
          refine ⟨rfl, _, rfl, iteNS (by decide +kernel) ?_⟩
          refine ⟨_, rfl, _, x, y, 12, rfl, by decide, ⟨ea, ed, rfl, R _ _ ha, R _ _ hd⟩, fun pf J4 R4 e4 => ?_⟩
          replace R := R.trans R4
          refine ⟨_, rfl, .list [dx], .list [dx], dp_one e4 (px18.same R).dp, dp_one (R4 _ _ e3) (px18.same R).dp, shp1 gx (by omega), shp1 gx (by omega), _, rfl, iteNE (eqv_same (shp1 gx (by omega))) ?_⟩
          refine ⟨_, rfl, _, _, _, _, true, rfl, .own _, .err T.ec (R _ _ ha) (R _ _ hd), G.kJ 12 (by decide), _, rfl, iteF ?_⟩
          refine ⟨_, rfl, _, _, _, _, true, rfl, .ty _, .err T.ec (R _ _ ha) (R _ _ hd), G.kV 12 (by decide), _, rfl, iteF ?_⟩
          refine ⟨_, rfl, _, 12, _, rfl, by decide, ⟨ea, ed, rfl, R _ _ ha, R _ _ hd⟩, fun pc J5 R5 e5 => ?_⟩
          replace R := R.trans R5
          refine ⟨_, rfl, _, 13, rfl, .inl ⟨_, SqL.of (R _ _ e15), rfl⟩, 13, rfl, by decide, by decide, fun D hD => ?_⟩
          refine lc_range (lo := 0) (n := 13) (LcP J5 D fun n => (List.range n).map fun (j : Nat) => V.bl (decide (V.int (0 + (j : Int)) = V.int ((12 : Nat) : Int)))) (LcP.start hD rfl) ?_ ?_
          · intro j J6 hj p6
            refine ⟨rfl, _, rfl, _, rfl, rfl, p6.put (Same.refl _) (by rw [List.range_succ, List.map_append]; rfl) (by omega)⟩
          · rintro J6 ⟨R6, _, e6', _⟩
            refine ⟨_, _, dpB (bs := (List.range 13).map fun j => decide (12 = j)) (R6 _ _ e5), dpB (bs := (List.range 13).map fun (j : Nat) => decide (V.int (0 + (j : Int)) = V.int ((12 : Nat) : Int))) e6', by decide +kernel, by decide +kernel, _, rfl, iteNE (by decide +kernel) ?_⟩
            exact ⟨_, _, _, _, rfl, R.trans R6⟩
        | n + 13, hi, _ => exact absurd hi (by show ¬ n + 13 < 13; omega)
      · rintro σ H' ⟨v7, v8, v9, v10, rfl, R⟩
        exact ⟨_, _, _, _, _, _, _, _, _, _, rfl, S18.trans R⟩
    · rintro σ H' ⟨v1, v2, v3, v4, v5, v6, v7, v8, v9, v10, rfl, S⟩
      exact k H'
end
end L2.K01

set_option Elab.async false
set_option linter.all false
set_option maxRecDepth 100000
set_option maxHeartbeats 0
namespace L2.K01
open PySem PySem.W PySem.Spec PySem.Calls PyProof.Rows L2.Jk

def fn : List He.DefD := [⟨("BadField", some "__init__"), "__init__", "BadField.__init__", defArgs (inClass (top 2) 0), defBody (inClass (top 2) 0), defScope (inClass (top 2) 0), [], []⟩,
  ⟨("NoValue", some "__init__"), "__init__", "NoValue.__init__", defArgs (inClass (top 3) 0), defBody (inClass (top 3) 0), defScope (inClass (top 3) 0), [], []⟩,
  ⟨("NoText", some "__init__"), "__init__", "NoText.__init__", defArgs (inClass (top 4) 0), defBody (inClass (top 4) 0), defScope (inClass (top 4) 0), [], []⟩,
  ⟨("BadLayout", some "__init__"), "__init__", "BadLayout.__init__", defArgs (inClass (top 5) 0), defBody (inClass (top 5) 0), defScope (inClass (top 5) 0), [], []⟩,
  ⟨("NoRow", some "__init__"), "__init__", "NoRow.__init__", defArgs (inClass (top 6) 0), defBody (inClass (top 6) 0), defScope (inClass (top 6) 0), [], []⟩,
  ⟨("Large", some "__init__"), "__init__", "Large.__init__", defArgs (inClass (top 7) 0), defBody (inClass (top 7) 0), defScope (inClass (top 7) 0), [], []⟩,
  ⟨("NoJoint", some "__init__"), "__init__", "NoJoint.__init__", defArgs (inClass (top 8) 0), defBody (inClass (top 8) 0), defScope (inClass (top 8) 0), [], []⟩,
  ⟨("NotWhole", some "__init__"), "__init__", "NotWhole.__init__", defArgs (inClass (top 9) 0), defBody (inClass (top 9) 0), defScope (inClass (top 9) 0), [], []⟩,
  ⟨("Hopeless", some "__init__"), "__init__", "Hopeless.__init__", defArgs (inClass (top 10) 0), defBody (inClass (top 10) 0), defScope (inClass (top 10) 0), [], []⟩,
  ⟨("NoPlace", some "__init__"), "__init__", "NoPlace.__init__", defArgs (inClass (top 11) 0), defBody (inClass (top 11) 0), defScope (inClass (top 11) 0), [], []⟩,
  ⟨("Unbounded", some "__init__"), "__init__", "Unbounded.__init__", defArgs (inClass (top 12) 0), defBody (inClass (top 12) 0), defScope (inClass (top 12) 0), [], []⟩,
  ⟨("Clash", some "__init__"), "__init__", "Clash.__init__", defArgs (inClass (top 13) 0), defBody (inClass (top 13) 0), defScope (inClass (top 13) 0), [], []⟩,
  ⟨("BadText", some "__init__"), "__init__", "BadText.__init__", defArgs (inClass (top 14) 0), defBody (inClass (top 14) 0), defScope (inClass (top 14) 0), [], []⟩,
  ⟨("BadField", some "told"), "told", "BadField.told", defArgs (inClass (top 2) 1), defBody (inClass (top 2) 1), defScope (inClass (top 2) 1), [], []⟩,
  ⟨("NoValue", some "told"), "told", "NoValue.told", defArgs (inClass (top 3) 1), defBody (inClass (top 3) 1), defScope (inClass (top 3) 1), [], []⟩,
  ⟨("NoText", some "told"), "told", "NoText.told", defArgs (inClass (top 4) 1), defBody (inClass (top 4) 1), defScope (inClass (top 4) 1), [], []⟩,
  ⟨("BadLayout", some "told"), "told", "BadLayout.told", defArgs (inClass (top 5) 1), defBody (inClass (top 5) 1), defScope (inClass (top 5) 1), [], []⟩,
  ⟨("NoRow", some "told"), "told", "NoRow.told", defArgs (inClass (top 6) 1), defBody (inClass (top 6) 1), defScope (inClass (top 6) 1), [], []⟩,
  ⟨("Large", some "told"), "told", "Large.told", defArgs (inClass (top 7) 1), defBody (inClass (top 7) 1), defScope (inClass (top 7) 1), [], []⟩,
  ⟨("NoJoint", some "told"), "told", "NoJoint.told", defArgs (inClass (top 8) 1), defBody (inClass (top 8) 1), defScope (inClass (top 8) 1), [], []⟩,
  ⟨("NotWhole", some "told"), "told", "NotWhole.told", defArgs (inClass (top 9) 1), defBody (inClass (top 9) 1), defScope (inClass (top 9) 1), [], []⟩,
  ⟨("Hopeless", some "told"), "told", "Hopeless.told", defArgs (inClass (top 10) 1), defBody (inClass (top 10) 1), defScope (inClass (top 10) 1), [], []⟩,
  ⟨("NoPlace", some "told"), "told", "NoPlace.told", defArgs (inClass (top 11) 1), defBody (inClass (top 11) 1), defScope (inClass (top 11) 1), [], []⟩,
  ⟨("Unbounded", some "told"), "told", "Unbounded.told", defArgs (inClass (top 12) 1), defBody (inClass (top 12) 1), defScope (inClass (top 12) 1), [], []⟩,
  ⟨("Clash", some "told"), "told", "Clash.told", defArgs (inClass (top 13) 1), defBody (inClass (top 13) 1), defScope (inClass (top 13) 1), [], []⟩,
  ⟨("BadText", some "told"), "told", "BadText.told", defArgs (inClass (top 14) 1), defBody (inClass (top 14) 1), defScope (inClass (top 14) 1), [], []⟩,
  ⟨("_law_state", none), "_law_state", "_law_state", defArgs (top 17), defBody (top 17), defScope (top 17), [], []⟩,
  ⟨("_law_digit", none), "_law_digit", "_law_digit", defArgs (top 18), defBody (top 18), defScope (top 18), [], []⟩,
  ⟨("_law_field", none), "_law_field", "_law_field", defArgs (top 19), defBody (top 19), defScope (top 19), [], []⟩,
  ⟨("_law_classes", none), "_law_classes", "_law_classes", defArgs (top 20), defBody (top 20), defScope (top 20), [], []⟩,
  ⟨("law", none), "law", "law", defArgs (top 21), defBody (top 21), defScope (top 21), [], []⟩]

def fa : List He.Fa := [.glo "BadField", .glo "NoValue", .glo "NoText", .glo "BadLayout", .glo "NoRow", .glo "Large", .glo "NoJoint", .glo "NotWhole", .glo "Hopeless", .glo "NoPlace", .glo "Unbounded", .glo "Clash", .glo "BadText", .glo "JointError", .glo "_law_state", .glo "_law_digit", .glo "_law_field", .glo "_law_classes", .glo "law", .free "abs", .free "int", .free "enumerate", .free "isinstance", .free "range", .free "len", .free "ValueError"]

def ex (K : Frag) : Bool := ((List.range 13).all fun i => errB K (cn K i) (ef i) ["told"] && (He.eqO (findIn K (.ref (cn K i)) "__init__") (some (some (.ref (He.ma K (cn K i) "__init__")))) &&
  (decide (typeIn K (.ref (He.ma K (cn K i) "__init__")) = some (.type "function")) && (decide (kitOne K (.ref (cn K i)) (.ref (He.ga K "JointError")) = some true) && (decide (kitOne K (.ref (cn K i)) (.type "ValueError") = some true) &&
  (List.range 13).all fun j => decide (kitOne K (.ref (cn K i)) (.ref (cn K j)) = some (decide (i = j))))))))
abbrev R : PySem.W.OpenRow := PySem.W.OpenLaw.row PySem.Challenge.rw_jointkeys_k01_errors
abbrev hk : PySem.W.Hook := He.hookX 6 fa fn [] [] ex
def ob (s : PySem.W.SharedT) : He.AlX := He.obsX 6 fa fn [] [] ex (HandSHeadRun.getT s)
theorem ob_eq (s : PySem.W.SharedT) : ob s = hk.obs s.abs := He.obsX_eq (HandSHeadRun.getT_eq s)
def names : List PySem.Str := (["__name__", "JointError", "BadField", "NoValue", "NoText", "BadLayout", "NoRow", "Large", "NoJoint", "NotWhole", "Hopeless", "NoPlace", "Unbounded", "Clash", "BadText", "_law_cell_at", "_law_state", "_law_digit", "_law_field", "_law_classes"] : List PySem.Str)
theorem run (w : World) : HandSHeadRun.RunEq R (PySem.W.view R.prog [21]) hk ob 6000 names w := by
  intro os
  kernel_rfl
end L2.K01

set_option Elab.async false
set_option linter.all false
set_option maxRecDepth 100000
set_option maxHeartbeats 4000000
namespace L2.K01
open PySem PySem.W PySem.Spec PySem.Calls PyProof.Rows L2.Jk

theorem facts {P : Program} {w : World} {K : Frag} {h : Heap} {mg : Str → Option Value} {base : Heap} (X : K.In h) (G : h.Ns mainGlobals mg) (c : He.SaysD fa fn K) (m : ex K = true) :
    Gf P w K mg base := by
  have more : ∀ i, i < 13 → errB K (cn K i) (ef i) ["told"] = true ∧ findIn K (.ref (cn K i)) "__init__" = some (some (.ref (He.ma K (cn K i) "__init__"))) ∧ typeIn K (.ref (He.ma K (cn K i) "__init__")) = some (.type "function") ∧
      kitOne K (.ref (cn K i)) (.ref (He.ga K "JointError")) = some true ∧ kitOne K (.ref (cn K i)) (.type "ValueError") = some true ∧ ∀ j, j < 13 → kitOne K (.ref (cn K i)) (.ref (cn K j)) = some (decide (i = j)) := fun i hi => by
    have z := List.all_eq_true.mp m i (List.mem_range.mpr hi)
    obtain ⟨z1, z⟩ := Bool.and_eq_true_iff.mp z
    obtain ⟨z2, z⟩ := Bool.and_eq_true_iff.mp z
    obtain ⟨z3, z⟩ := Bool.and_eq_true_iff.mp z
    obtain ⟨z4, z⟩ := Bool.and_eq_true_iff.mp z
    obtain ⟨z5, z6⟩ := Bool.and_eq_true_iff.mp z
    exact ⟨z1, He.eqO_ok z2, of_decide_eq_true z3, of_decide_eq_true z4, of_decide_eq_true z5, fun j hj => of_decide_eq_true (List.all_eq_true.mp z6 j (List.mem_range.mpr hj))⟩
  obtain ⟨fdI0, FI0⟩ := c.def_ 0 (d := ⟨("BadField", some "__init__"), "__init__", "BadField.__init__", defArgs (inClass (top 2) 0), defBody (inClass (top 2) 0), defScope (inClass (top 2) 0), [], []⟩) rfl
  obtain ⟨fdT0, FT0⟩ := c.def_ 13 (d := ⟨("BadField", some "told"), "told", "BadField.told", defArgs (inClass (top 2) 1), defBody (inClass (top 2) 1), defScope (inClass (top 2) 1), [], []⟩) rfl
  obtain ⟨b0, i0, t0, j0, v0, k0⟩ := more 0 (by decide)
  have X0 := errB_ok b0
  have e0 : ErrAt P w K mg base "BadField" (cn K 0) ["what"] (ez 0) := ⟨He.glo_ok X G (c.fact 0 (f := .glo "BadField") rfl), X0, ⟨i0, t0⟩, ⟨fdI0, FunD.bindsN (ps := ["self", "what"]) FI0 (fun _ _ _ _ _ _ us hl => match us, hl with | [_, _], _ => rfl), ok_init1 FI0 (⟨rfl, rfl, rfl, by decide +kernel, rfl, by decide +kernel, by decide +kernel⟩ : FnScope ["self", "what"] ["self", "what"] (defScope (inClass (top 2) 0))) X0 rfl rfl (by decide +kernel) (by decide +kernel)⟩,
    ⟨fdT0, FunD.bindsN (ps := ["self"]) FT0 (fun _ _ _ _ _ _ us hl => match us, hl with | [_], _ => rfl), FT0.kp, ok_told FT0 (⟨rfl, rfl, rfl, by decide +kernel, rfl, by decide +kernel, by decide +kernel⟩ : FnScope ["self"] ["self"] (defScope (inClass (top 2) 1)))⟩⟩
  obtain ⟨fdI1, FI1⟩ := c.def_ 1 (d := ⟨("NoValue", some "__init__"), "__init__", "NoValue.__init__", defArgs (inClass (top 3) 0), defBody (inClass (top 3) 0), defScope (inClass (top 3) 0), [], []⟩) rfl
  obtain ⟨fdT1, FT1⟩ := c.def_ 14 (d := ⟨("NoValue", some "told"), "told", "NoValue.told", defArgs (inClass (top 3) 1), defBody (inClass (top 3) 1), defScope (inClass (top 3) 1), [], []⟩) rfl
  obtain ⟨b1, i1, t1, j1, v1, k1⟩ := more 1 (by decide)
  have X1 := errB_ok b1
  have e1 : ErrAt P w K mg base "NoValue" (cn K 1) ["value"] (ez 1) := ⟨He.glo_ok X G (c.fact 1 (f := .glo "NoValue") rfl), X1, ⟨i1, t1⟩, ⟨fdI1, FunD.bindsN (ps := ["self", "value"]) FI1 (fun _ _ _ _ _ _ us hl => match us, hl with | [_, _], _ => rfl), ok_init1 FI1 (⟨rfl, rfl, rfl, by decide +kernel, rfl, by decide +kernel, by decide +kernel⟩ : FnScope ["self", "value"] ["self", "value"] (defScope (inClass (top 3) 0))) X1 rfl rfl (by decide +kernel) (by decide +kernel)⟩,
    ⟨fdT1, FunD.bindsN (ps := ["self"]) FT1 (fun _ _ _ _ _ _ us hl => match us, hl with | [_], _ => rfl), FT1.kp, ok_told FT1 (⟨rfl, rfl, rfl, by decide +kernel, rfl, by decide +kernel, by decide +kernel⟩ : FnScope ["self"] ["self"] (defScope (inClass (top 3) 1)))⟩⟩
  obtain ⟨fdI2, FI2⟩ := c.def_ 2 (d := ⟨("NoText", some "__init__"), "__init__", "NoText.__init__", defArgs (inClass (top 4) 0), defBody (inClass (top 4) 0), defScope (inClass (top 4) 0), [], []⟩) rfl
  obtain ⟨fdT2, FT2⟩ := c.def_ 15 (d := ⟨("NoText", some "told"), "told", "NoText.told", defArgs (inClass (top 4) 1), defBody (inClass (top 4) 1), defScope (inClass (top 4) 1), [], []⟩) rfl
  obtain ⟨b2, i2, t2, j2, v2, k2⟩ := more 2 (by decide)
  have X2 := errB_ok b2
  have e2 : ErrAt P w K mg base "NoText" (cn K 2) ["text"] (ez 2) := ⟨He.glo_ok X G (c.fact 2 (f := .glo "NoText") rfl), X2, ⟨i2, t2⟩, ⟨fdI2, FunD.bindsN (ps := ["self", "text"]) FI2 (fun _ _ _ _ _ _ us hl => match us, hl with | [_, _], _ => rfl), ok_init1 FI2 (⟨rfl, rfl, rfl, by decide +kernel, rfl, by decide +kernel, by decide +kernel⟩ : FnScope ["self", "text"] ["self", "text"] (defScope (inClass (top 4) 0))) X2 rfl rfl (by decide +kernel) (by decide +kernel)⟩,
    ⟨fdT2, FunD.bindsN (ps := ["self"]) FT2 (fun _ _ _ _ _ _ us hl => match us, hl with | [_], _ => rfl), FT2.kp, ok_told FT2 (⟨rfl, rfl, rfl, by decide +kernel, rfl, by decide +kernel, by decide +kernel⟩ : FnScope ["self"] ["self"] (defScope (inClass (top 4) 1)))⟩⟩
  obtain ⟨fdI3, FI3⟩ := c.def_ 3 (d := ⟨("BadLayout", some "__init__"), "__init__", "BadLayout.__init__", defArgs (inClass (top 5) 0), defBody (inClass (top 5) 0), defScope (inClass (top 5) 0), [], []⟩) rfl
  obtain ⟨fdT3, FT3⟩ := c.def_ 16 (d := ⟨("BadLayout", some "told"), "told", "BadLayout.told", defArgs (inClass (top 5) 1), defBody (inClass (top 5) 1), defScope (inClass (top 5) 1), [], []⟩) rfl
  obtain ⟨b3, i3, t3, j3, v3, k3⟩ := more 3 (by decide)
  have X3 := errB_ok b3
  have e3 : ErrAt P w K mg base "BadLayout" (cn K 3) ["what"] (ez 3) := ⟨He.glo_ok X G (c.fact 3 (f := .glo "BadLayout") rfl), X3, ⟨i3, t3⟩, ⟨fdI3, FunD.bindsN (ps := ["self", "what"]) FI3 (fun _ _ _ _ _ _ us hl => match us, hl with | [_, _], _ => rfl), ok_init1 FI3 (⟨rfl, rfl, rfl, by decide +kernel, rfl, by decide +kernel, by decide +kernel⟩ : FnScope ["self", "what"] ["self", "what"] (defScope (inClass (top 5) 0))) X3 rfl rfl (by decide +kernel) (by decide +kernel)⟩,
    ⟨fdT3, FunD.bindsN (ps := ["self"]) FT3 (fun _ _ _ _ _ _ us hl => match us, hl with | [_], _ => rfl), FT3.kp, ok_told FT3 (⟨rfl, rfl, rfl, by decide +kernel, rfl, by decide +kernel, by decide +kernel⟩ : FnScope ["self"] ["self"] (defScope (inClass (top 5) 1)))⟩⟩
  obtain ⟨fdI4, FI4⟩ := c.def_ 4 (d := ⟨("NoRow", some "__init__"), "__init__", "NoRow.__init__", defArgs (inClass (top 6) 0), defBody (inClass (top 6) 0), defScope (inClass (top 6) 0), [], []⟩) rfl
  obtain ⟨fdT4, FT4⟩ := c.def_ 17 (d := ⟨("NoRow", some "told"), "told", "NoRow.told", defArgs (inClass (top 6) 1), defBody (inClass (top 6) 1), defScope (inClass (top 6) 1), [], []⟩) rfl
  obtain ⟨b4, i4, t4, j4, v4, k4⟩ := more 4 (by decide)
  have X4 := errB_ok b4
  have e4 : ErrAt P w K mg base "NoRow" (cn K 4) ["place"] (ez 4) := ⟨He.glo_ok X G (c.fact 4 (f := .glo "NoRow") rfl), X4, ⟨i4, t4⟩, ⟨fdI4, FunD.bindsN (ps := ["self", "place"]) FI4 (fun _ _ _ _ _ _ us hl => match us, hl with | [_, _], _ => rfl), ok_init1 FI4 (⟨rfl, rfl, rfl, by decide +kernel, rfl, by decide +kernel, by decide +kernel⟩ : FnScope ["self", "place"] ["self", "place"] (defScope (inClass (top 6) 0))) X4 rfl rfl (by decide +kernel) (by decide +kernel)⟩,
    ⟨fdT4, FunD.bindsN (ps := ["self"]) FT4 (fun _ _ _ _ _ _ us hl => match us, hl with | [_], _ => rfl), FT4.kp, ok_told FT4 (⟨rfl, rfl, rfl, by decide +kernel, rfl, by decide +kernel, by decide +kernel⟩ : FnScope ["self"] ["self"] (defScope (inClass (top 6) 1)))⟩⟩
  obtain ⟨fdI5, FI5⟩ := c.def_ 5 (d := ⟨("Large", some "__init__"), "__init__", "Large.__init__", defArgs (inClass (top 7) 0), defBody (inClass (top 7) 0), defScope (inClass (top 7) 0), [], []⟩) rfl
  obtain ⟨fdT5, FT5⟩ := c.def_ 18 (d := ⟨("Large", some "told"), "told", "Large.told", defArgs (inClass (top 7) 1), defBody (inClass (top 7) 1), defScope (inClass (top 7) 1), [], []⟩) rfl
  obtain ⟨b5, i5, t5, j5, v5, k5⟩ := more 5 (by decide)
  have X5 := errB_ok b5
  have e5 : ErrAt P w K mg base "Large" (cn K 5) ["count"] (ez 5) := ⟨He.glo_ok X G (c.fact 5 (f := .glo "Large") rfl), X5, ⟨i5, t5⟩, ⟨fdI5, FunD.bindsN (ps := ["self", "count"]) FI5 (fun _ _ _ _ _ _ us hl => match us, hl with | [_, _], _ => rfl), ok_init1 FI5 (⟨rfl, rfl, rfl, by decide +kernel, rfl, by decide +kernel, by decide +kernel⟩ : FnScope ["self", "count"] ["self", "count"] (defScope (inClass (top 7) 0))) X5 rfl rfl (by decide +kernel) (by decide +kernel)⟩,
    ⟨fdT5, FunD.bindsN (ps := ["self"]) FT5 (fun _ _ _ _ _ _ us hl => match us, hl with | [_], _ => rfl), FT5.kp, ok_told FT5 (⟨rfl, rfl, rfl, by decide +kernel, rfl, by decide +kernel, by decide +kernel⟩ : FnScope ["self"] ["self"] (defScope (inClass (top 7) 1)))⟩⟩
  obtain ⟨fdI6, FI6⟩ := c.def_ 6 (d := ⟨("NoJoint", some "__init__"), "__init__", "NoJoint.__init__", defArgs (inClass (top 8) 0), defBody (inClass (top 8) 0), defScope (inClass (top 8) 0), [], []⟩) rfl
  obtain ⟨fdT6, FT6⟩ := c.def_ 19 (d := ⟨("NoJoint", some "told"), "told", "NoJoint.told", defArgs (inClass (top 8) 1), defBody (inClass (top 8) 1), defScope (inClass (top 8) 1), [], []⟩) rfl
  obtain ⟨b6, i6, t6, j6, v6, k6⟩ := more 6 (by decide)
  have X6 := errB_ok b6
  have e6 : ErrAt P w K mg base "NoJoint" (cn K 6) ["k"] (ez 6) := ⟨He.glo_ok X G (c.fact 6 (f := .glo "NoJoint") rfl), X6, ⟨i6, t6⟩, ⟨fdI6, FunD.bindsN (ps := ["self", "k"]) FI6 (fun _ _ _ _ _ _ us hl => match us, hl with | [_, _], _ => rfl), ok_init1 FI6 (⟨rfl, rfl, rfl, by decide +kernel, rfl, by decide +kernel, by decide +kernel⟩ : FnScope ["self", "k"] ["self", "k"] (defScope (inClass (top 8) 0))) X6 rfl rfl (by decide +kernel) (by decide +kernel)⟩,
    ⟨fdT6, FunD.bindsN (ps := ["self"]) FT6 (fun _ _ _ _ _ _ us hl => match us, hl with | [_], _ => rfl), FT6.kp, ok_told FT6 (⟨rfl, rfl, rfl, by decide +kernel, rfl, by decide +kernel, by decide +kernel⟩ : FnScope ["self"] ["self"] (defScope (inClass (top 8) 1)))⟩⟩
  obtain ⟨fdI7, FI7⟩ := c.def_ 7 (d := ⟨("NotWhole", some "__init__"), "__init__", "NotWhole.__init__", defArgs (inClass (top 9) 0), defBody (inClass (top 9) 0), defScope (inClass (top 9) 0), [], []⟩) rfl
  obtain ⟨fdT7, FT7⟩ := c.def_ 20 (d := ⟨("NotWhole", some "told"), "told", "NotWhole.told", defArgs (inClass (top 9) 1), defBody (inClass (top 9) 1), defScope (inClass (top 9) 1), [], []⟩) rfl
  obtain ⟨b7, i7, t7, j7, v7, k7⟩ := more 7 (by decide)
  have X7 := errB_ok b7
  have e7 : ErrAt P w K mg base "NotWhole" (cn K 7) ["index"] (ez 7) := ⟨He.glo_ok X G (c.fact 7 (f := .glo "NotWhole") rfl), X7, ⟨i7, t7⟩, ⟨fdI7, FunD.bindsN (ps := ["self", "index"]) FI7 (fun _ _ _ _ _ _ us hl => match us, hl with | [_, _], _ => rfl), ok_init1 FI7 (⟨rfl, rfl, rfl, by decide +kernel, rfl, by decide +kernel, by decide +kernel⟩ : FnScope ["self", "index"] ["self", "index"] (defScope (inClass (top 9) 0))) X7 rfl rfl (by decide +kernel) (by decide +kernel)⟩,
    ⟨fdT7, FunD.bindsN (ps := ["self"]) FT7 (fun _ _ _ _ _ _ us hl => match us, hl with | [_], _ => rfl), FT7.kp, ok_told FT7 (⟨rfl, rfl, rfl, by decide +kernel, rfl, by decide +kernel, by decide +kernel⟩ : FnScope ["self"] ["self"] (defScope (inClass (top 9) 1)))⟩⟩
  obtain ⟨fdI8, FI8⟩ := c.def_ 8 (d := ⟨("Hopeless", some "__init__"), "__init__", "Hopeless.__init__", defArgs (inClass (top 10) 0), defBody (inClass (top 10) 0), defScope (inClass (top 10) 0), [], []⟩) rfl
  obtain ⟨fdT8, FT8⟩ := c.def_ 21 (d := ⟨("Hopeless", some "told"), "told", "Hopeless.told", defArgs (inClass (top 10) 1), defBody (inClass (top 10) 1), defScope (inClass (top 10) 1), [], []⟩) rfl
  obtain ⟨b8, i8, t8, j8, v8, k8⟩ := more 8 (by decide)
  have X8 := errB_ok b8
  have e8 : ErrAt P w K mg base "Hopeless" (cn K 8) ["index"] (ez 8) := ⟨He.glo_ok X G (c.fact 8 (f := .glo "Hopeless") rfl), X8, ⟨i8, t8⟩, ⟨fdI8, FunD.bindsN (ps := ["self", "index"]) FI8 (fun _ _ _ _ _ _ us hl => match us, hl with | [_, _], _ => rfl), ok_init1 FI8 (⟨rfl, rfl, rfl, by decide +kernel, rfl, by decide +kernel, by decide +kernel⟩ : FnScope ["self", "index"] ["self", "index"] (defScope (inClass (top 10) 0))) X8 rfl rfl (by decide +kernel) (by decide +kernel)⟩,
    ⟨fdT8, FunD.bindsN (ps := ["self"]) FT8 (fun _ _ _ _ _ _ us hl => match us, hl with | [_], _ => rfl), FT8.kp, ok_told FT8 (⟨rfl, rfl, rfl, by decide +kernel, rfl, by decide +kernel, by decide +kernel⟩ : FnScope ["self"] ["self"] (defScope (inClass (top 10) 1)))⟩⟩
  obtain ⟨fdI9, FI9⟩ := c.def_ 9 (d := ⟨("NoPlace", some "__init__"), "__init__", "NoPlace.__init__", defArgs (inClass (top 11) 0), defBody (inClass (top 11) 0), defScope (inClass (top 11) 0), [], []⟩) rfl
  obtain ⟨fdT9, FT9⟩ := c.def_ 22 (d := ⟨("NoPlace", some "told"), "told", "NoPlace.told", defArgs (inClass (top 11) 1), defBody (inClass (top 11) 1), defScope (inClass (top 11) 1), [], []⟩) rfl
  obtain ⟨b9, i9, t9, j9, v9, k9⟩ := more 9 (by decide)
  have X9 := errB_ok b9
  have e9 : ErrAt P w K mg base "NoPlace" (cn K 9) ["place"] (ez 9) := ⟨He.glo_ok X G (c.fact 9 (f := .glo "NoPlace") rfl), X9, ⟨i9, t9⟩, ⟨fdI9, FunD.bindsN (ps := ["self", "place"]) FI9 (fun _ _ _ _ _ _ us hl => match us, hl with | [_, _], _ => rfl), ok_init1 FI9 (⟨rfl, rfl, rfl, by decide +kernel, rfl, by decide +kernel, by decide +kernel⟩ : FnScope ["self", "place"] ["self", "place"] (defScope (inClass (top 11) 0))) X9 rfl rfl (by decide +kernel) (by decide +kernel)⟩,
    ⟨fdT9, FunD.bindsN (ps := ["self"]) FT9 (fun _ _ _ _ _ _ us hl => match us, hl with | [_], _ => rfl), FT9.kp, ok_told FT9 (⟨rfl, rfl, rfl, by decide +kernel, rfl, by decide +kernel, by decide +kernel⟩ : FnScope ["self"] ["self"] (defScope (inClass (top 11) 1)))⟩⟩
  obtain ⟨fdI10, FI10⟩ := c.def_ 10 (d := ⟨("Unbounded", some "__init__"), "__init__", "Unbounded.__init__", defArgs (inClass (top 12) 0), defBody (inClass (top 12) 0), defScope (inClass (top 12) 0), [], []⟩) rfl
  obtain ⟨fdT10, FT10⟩ := c.def_ 23 (d := ⟨("Unbounded", some "told"), "told", "Unbounded.told", defArgs (inClass (top 12) 1), defBody (inClass (top 12) 1), defScope (inClass (top 12) 1), [], []⟩) rfl
  obtain ⟨b10, i10, t10, j10, v10, k10⟩ := more 10 (by decide)
  have X10 := errB_ok b10
  have e10 : ErrAt P w K mg base "Unbounded" (cn K 10) ["index"] (ez 10) := ⟨He.glo_ok X G (c.fact 10 (f := .glo "Unbounded") rfl), X10, ⟨i10, t10⟩, ⟨fdI10, FunD.bindsN (ps := ["self", "index"]) FI10 (fun _ _ _ _ _ _ us hl => match us, hl with | [_, _], _ => rfl), ok_init1 FI10 (⟨rfl, rfl, rfl, by decide +kernel, rfl, by decide +kernel, by decide +kernel⟩ : FnScope ["self", "index"] ["self", "index"] (defScope (inClass (top 12) 0))) X10 rfl rfl (by decide +kernel) (by decide +kernel)⟩,
    ⟨fdT10, FunD.bindsN (ps := ["self"]) FT10 (fun _ _ _ _ _ _ us hl => match us, hl with | [_], _ => rfl), FT10.kp, ok_told FT10 (⟨rfl, rfl, rfl, by decide +kernel, rfl, by decide +kernel, by decide +kernel⟩ : FnScope ["self"] ["self"] (defScope (inClass (top 12) 1)))⟩⟩
  obtain ⟨fdI11, FI11⟩ := c.def_ 11 (d := ⟨("Clash", some "__init__"), "__init__", "Clash.__init__", defArgs (inClass (top 13) 0), defBody (inClass (top 13) 0), defScope (inClass (top 13) 0), [], []⟩) rfl
  obtain ⟨fdT11, FT11⟩ := c.def_ 24 (d := ⟨("Clash", some "told"), "told", "Clash.told", defArgs (inClass (top 13) 1), defBody (inClass (top 13) 1), defScope (inClass (top 13) 1), [], []⟩) rfl
  obtain ⟨b11, i11, t11, j11, v11, k11⟩ := more 11 (by decide)
  have X11 := errB_ok b11
  have e11 : ErrAt P w K mg base "Clash" (cn K 11) ["one", "other"] (ez 11) := ⟨He.glo_ok X G (c.fact 11 (f := .glo "Clash") rfl), X11, ⟨i11, t11⟩, ⟨fdI11, FunD.bindsN (ps := ["self", "one", "other"]) FI11 (fun _ _ _ _ _ _ us hl => match us, hl with | [_, _, _], _ => rfl), ok_init2 FI11 (⟨rfl, rfl, rfl, by decide +kernel, rfl, by decide +kernel, by decide +kernel⟩ : FnScope ["self", "one", "other"] ["self", "one", "other"] (defScope (inClass (top 13) 0))) X11 rfl rfl (by decide +kernel) (by decide +kernel) rfl (by decide +kernel) (by decide +kernel)⟩,
    ⟨fdT11, FunD.bindsN (ps := ["self"]) FT11 (fun _ _ _ _ _ _ us hl => match us, hl with | [_], _ => rfl), FT11.kp, ok_told FT11 (⟨rfl, rfl, rfl, by decide +kernel, rfl, by decide +kernel, by decide +kernel⟩ : FnScope ["self"] ["self"] (defScope (inClass (top 13) 1)))⟩⟩
  obtain ⟨fdI12, FI12⟩ := c.def_ 12 (d := ⟨("BadText", some "__init__"), "__init__", "BadText.__init__", defArgs (inClass (top 14) 0), defBody (inClass (top 14) 0), defScope (inClass (top 14) 0), [], []⟩) rfl
  obtain ⟨fdT12, FT12⟩ := c.def_ 25 (d := ⟨("BadText", some "told"), "told", "BadText.told", defArgs (inClass (top 14) 1), defBody (inClass (top 14) 1), defScope (inClass (top 14) 1), [], []⟩) rfl
  obtain ⟨b12, i12, t12, j12, v12, k12⟩ := more 12 (by decide)
  have X12 := errB_ok b12
  have e12 : ErrAt P w K mg base "BadText" (cn K 12) ["place"] (ez 12) := ⟨He.glo_ok X G (c.fact 12 (f := .glo "BadText") rfl), X12, ⟨i12, t12⟩, ⟨fdI12, FunD.bindsN (ps := ["self", "place"]) FI12 (fun _ _ _ _ _ _ us hl => match us, hl with | [_, _], _ => rfl), ok_init1 FI12 (⟨rfl, rfl, rfl, by decide +kernel, rfl, by decide +kernel, by decide +kernel⟩ : FnScope ["self", "place"] ["self", "place"] (defScope (inClass (top 14) 0))) X12 rfl rfl (by decide +kernel) (by decide +kernel)⟩,
    ⟨fdT12, FunD.bindsN (ps := ["self"]) FT12 (fun _ _ _ _ _ _ us hl => match us, hl with | [_], _ => rfl), FT12.kp, ok_told FT12 (⟨rfl, rfl, rfl, by decide +kernel, rfl, by decide +kernel, by decide +kernel⟩ : FnScope ["self"] ["self"] (defScope (inClass (top 14) 1)))⟩⟩
  have gd : Gd P w K mg base := ⟨⟨He.free_ok X G (c.fact 19 (f := .free "abs") rfl), He.free_ok X G (c.fact 20 (f := .free "int") rfl), He.free_ok X G (c.fact 21 (f := .free "enumerate") rfl), He.free_ok X G (c.fact 22 (f := .free "isinstance") rfl), He.free_ok X G (c.fact 23 (f := .free "range") rfl), He.free_ok X G (c.fact 24 (f := .free "len") rfl), He.free_ok X G (c.fact 25 (f := .free "ValueError") rfl)⟩, fun i hi => by
    match i, hi with
    | 0, _ => exact e0
    | 1, _ => exact e1
    | 2, _ => exact e2
    | 3, _ => exact e3
    | 4, _ => exact e4
    | 5, _ => exact e5
    | 6, _ => exact e6
    | 7, _ => exact e7
    | 8, _ => exact e8
    | 9, _ => exact e9
    | 10, _ => exact e10
    | 11, _ => exact e11
    | 12, _ => exact e12
    | n + 13, hi => exact absurd hi (by omega), fun i j hi hj => (more i hi).2.2.2.2.2 j hj, fun i hi => (more i hi).2.2.2.1, fun i hi => (more i hi).2.2.2.2.1, He.glo_ok X G (c.fact 13 (f := .glo "JointError") rfl)⟩
  obtain ⟨fdstate, Fstate⟩ := c.def_ 26 (d := ⟨("_law_state", none), "_law_state", "_law_state", defArgs s_state, defBody s_state, defScope s_state, [], []⟩) rfl
  have Astate : FnAt P w K mg base CX0 1 "_law_state" ["_law_source"] _ := ⟨_, fdstate, He.glo_ok X G (c.fact 14 (f := .glo "_law_state") rfl), Fstate.kp, ok_state Fstate gd.toBl, FunD.bindsN (ps := ["_law_source"]) Fstate (fun _ _ _ _ _ _ us hl => match us, hl with | [_], _ => rfl)⟩
  obtain ⟨fddigit, Fdigit⟩ := c.def_ 27 (d := ⟨("_law_digit", none), "_law_digit", "_law_digit", defArgs s_digit, defBody s_digit, defScope s_digit, [], []⟩) rfl
  have Adigit : FnAt P w K mg base CX0 1 "_law_digit" ["_law_state_here", "_law_base"] _ := ⟨_, fddigit, He.glo_ok X G (c.fact 15 (f := .glo "_law_digit") rfl), Fdigit.kp, ok_digit Fdigit gd.toBl, FunD.bindsN (ps := ["_law_state_here", "_law_base"]) Fdigit (fun _ _ _ _ _ _ us hl => match us, hl with | [_, _], _ => rfl)⟩
  obtain ⟨fdfield, Ffield⟩ := c.def_ 28 (d := ⟨("_law_field", none), "_law_field", "_law_field", defArgs s_field, defBody s_field, defScope s_field, [], []⟩) rfl
  have Afield : FnAt P w K mg base CX0 1 "_law_field" ["_law_error"] _ := ⟨_, fdfield, He.glo_ok X G (c.fact 16 (f := .glo "_law_field") rfl), Ffield.kp, ok_field Ffield gd, FunD.bindsN (ps := ["_law_error"]) Ffield (fun _ _ _ _ _ _ us hl => match us, hl with | [_], _ => rfl)⟩
  obtain ⟨fdclasses, Fclasses⟩ := c.def_ 29 (d := ⟨("_law_classes", none), "_law_classes", "_law_classes", defArgs s_classes, defBody s_classes, defScope s_classes, [], []⟩) rfl
  have Aclasses : FnAt P w K mg base CX0 1 "_law_classes" ["_law_error"] _ := ⟨_, fdclasses, He.glo_ok X G (c.fact 17 (f := .glo "_law_classes") rfl), Fclasses.kp, ok_classes Fclasses gd, FunD.bindsN (ps := ["_law_error"]) Fclasses (fun _ _ _ _ _ _ us hl => match us, hl with | [_], _ => rfl)⟩
  exact ⟨gd, Astate, Adigit, Afield, Aclasses⟩

end L2.K01
open PySem PySem.W PySem.Calls PyProof.Rows
set_option maxRecDepth 100000 in
set_option maxHeartbeats 0 in
theorem PySem.Challenge.cw_jointkeys_k01_errors_holds : PySem.Challenge.rw_jointkeys_k01_errors.Holds := by
  w_on; o_law
  refine HandSHeadRun.head_any (r := OpenLaw.row PySem.Challenge.rw_jointkeys_k01_errors) (q := view (OpenLaw.row PySem.Challenge.rw_jointkeys_k01_errors).prog [21]) (H := L2.K01.hk) (ob := L2.K01.ob) (M := 6000) (loose := L2.K01.names) (d := HandSHeadRun.topDef (OpenLaw.row PySem.Challenge.rw_jointkeys_k01_errors).prog 21) (kwd := []) L2.K01.ob_eq
    (by kernel_rfl) (fun s => by kernel_rfl) L2.K01.run (by kernel_rfl) (by kernel_rfl) (by kernel_rfl) (by rfl) (by first | assumption | decide +kernel) (by decide +kernel) ⟨rfl, rfl, rfl, rfl, rfl, by decide +kernel⟩ ?hw ?hc
  case hw => w_witness2
  case hc =>
    refine L2.walk_ofE (l := PySem.Challenge.rw_jointkeys_k01_errors) (n := 63) (k := 3) (x := "_law_script") (CX := L2.CX0) rfl (by decide) (by kernel_rfl) ⟨rfl, by decide, by decide⟩ ?F (fun _ _ _ _ z => z)
    intro w mg fa h Y G hmg0
    obtain ⟨K, KX, c⟩ := Y
    have hmg : mg ("law" : PySem.Str) = some (.ref fa) := by
      have e : (HandSHeadRun.topDef (OpenLaw.row PySem.Challenge.rw_jointkeys_k01_errors).prog 21).name = ("law" : PySem.Str) := by kernel_rfl
      rw [← e]
      exact hmg0
    obtain ⟨fd, F⟩ := c.t.d.def_ 30 (d := ⟨("law", none), "law", "law", L2.defArgs L2.K01.s_law, L2.defBody L2.K01.s_law, L2.defScope L2.K01.s_law, [], []⟩) rfl
    have e := hmg.symm.trans (He.glo_ok KX G (c.t.d.fact 18 (f := .glo "law") rfl))
    cases e
    have b := L2.FunD.bindsA (ps := ["_law_script"]) F fun _ _ _ _ _ _ us hl => match us, hl with | [_], _ => rfl
    exact ⟨K, fd, L2.K01.spLaw K, KX, fun s v => b s [v] rfl, fun H a ns hl _ hS => ⟨a, ns, rfl, hS, hl, fun _ => rfl⟩, fun base _ _ => L2.K01.ok_law F (L2.K01.facts KX G c.t.d c.more)⟩
#print axioms PySem.Challenge.cw_jointkeys_k01_errors_holds
