import PyProof.Rows.All
import Wide.All
import OpenK.AllK
import Wide.FinOn
import HandS.ForMost
import HandS.ForExc
import HandS.ExcInit
import HandS.ExcIs
import HandS.ExcField
import HandS.IsInst
import KE.KStateDown
import HandS.Defaults
import HandS.Head0
import HandS.Head1
import HandS.Head2
import HandS.Head3
import HandS.Head4
import HandS.HeadEnd
import HandS.HeadHook1
import HandS.HeadHook2
import HandS.HeadHook3
import HandS.HeadHook4
import HandS.Walk
import HandS.OwnEq
import PyProof.InstNe
import HandS.Text
import KE.KIntText
import PyProof.Rows.Digits
import KE.IntTextLaws
import PyProof.WalksS
import PyProof.StrWalks
import PyProof.EnumMake
import PyProof.Rows.SetFrom
import PyProof.SetKind
import HandS.Strs
import HandS.Rev
import HandS.Zip
import PyProof.JoinWalk
import PyProof.ListStr
import HandS.ExcOwn
import HandS.WordsExc
import HandS.StrMore
import PyProof.StrOps2
import HandS.Codes
import HandS.Style
import PySem.Challenge.RW_jointkeys_k07_fields_and_answers_as_thin
set_option Elab.async false
set_option linter.all false
set_option maxRecDepth 100000
set_option maxHeartbeats 4000000
/-! Own exceptions as plain values: made, their fields read, their methods called, isinstance asked of them. -/
namespace L2.Jk
open PySem PySem.W PySem.Spec PySem.Calls PyProof.Rows

/-- what an own error class says of itself, for its instances as values -/
structure ErrC (K : Frag) (C : Addr) : Prop where
  ox : OexC K C
  xf : XfC K C
  kk : findIn K (.ref C) "__class__" = some (some (.builtin "object.__class__"))
  kn : specialIn K (.builtin "object.__class__") "__get__" = some (some (.builtin "getset_descriptor.__get__"))
  kt : takesIn K (.builtin "object.__class__") = some true
  km : mroIn K C (.type "object") = some true

section
variable {prog : Program} {w : World} {A : Around} {E : Value → Shared → Prop} {s : Shared} {K : Frag} {e C f : Addr} {oe od : Obj}

/-- e.__class__ of an error with a dict of its own -/
theorem err_class {Q : Option Value → Shared → Prop} (T : ErrC K C) (X : K.In s.heap) (I : InstAt s.heap e oe C (some od)) (h : Q (some (.ref C)) { s with toks := s.toks + 1 }) :
    wpAny (model prog w) A (getAttr? (.ref e) "__class__") Q E s := by
  obtain ⟨cd, hcd, _⟩ := any_some T.xf.hdC
  have look := findObj_data (od := od) (show (clsIn K C).isSome = true by rw [hcd]; rfl) T.kk T.kn T.kt
  obtain ⟨hp, gn, dr, tk, os⟩ := s
  have lt := I.type (M := model prog w)
  have lg := looks_findIn (M := model prog w) X T.xf.ga
  have lh := looks_findIn (M := model prog w) X T.xf.gg
  have lf := looks_find (M := model prog w) X I look
  have inB : Looks (model prog w) hp (isInstance (.ref e) (.type "BaseException")) true := lt.andThen (looks_subIn X T.xf.exC)
  have n2 : (Value.builtin "BaseException.__getattribute__" == Value.builtin "object.__getattribute__") = false := by decide +kernel
  have n1 : (onTheHeap (Value.ref C) && Value.builtin "BaseException.__getattribute__" == Value.builtin "object.__getattribute__") = false := by rw [n2] <;> rfl
  unfold getAttr? getAttrBy? getAttrBy
  refine wpAny_bind (wpAny_mkText (wpAny_bind (wpAny_attempt (wpAny_holding (wpAny_bind (lt.at (wpAny_bind (lg.at ?_))))))))
  show wpAny _ _ (if (onTheHeap (Value.ref C) && Value.builtin "BaseException.__getattribute__" == Value.builtin "object.__getattribute__") = true then _ else _) _ _ _
  rw [n1, if_neg Bool.false_ne_true]
  unfold getAttrByItsOwn hookBefore
  refine wpAny_bind ?_
  rw [if_pos (show onTheHeap (Value.ref C) = true from rfl)]
  refine lh.at (wpAny_bind (wpAny_attempt (wpAny_holding ?_)))
  unfold callGetattribute
  rw [show (false && onTheHeap (Value.builtin "BaseException.__getattribute__")) = false from rfl, if_neg Bool.false_ne_true]
  unfold boundAndCalled
  rw [PySem.F.excAttr_ValueError.ga.bind (.ref e)]
  refine wpAny_bind (wpAny_pure ?_)
  show wpAny _ _ (call (.builtin "BaseException.__getattribute__") [.ref e, .str "__class__" tk]) _ _ _
  refine wpAny_call (codeAny_call_builtin PySem.F.excAttr_ValueError.ga.plain PySem.F.entry_bexc_ga ?_)
  refine @check_slot (model prog w) _ _ ⟨hp, gn, dr, tk + 1, os⟩ "BaseException.__getattribute__" "BaseException" "__getattribute__" (.ref e) [.str "__class__" tk] [] _
    (by decide +kernel) (by decide +kernel) inB (PySem.F.args_bexc_ga (.ref e) (.str "__class__" tk)) ?_
  unfold Builtin.«object.__getattribute__»
  refine wpAny_bind (wpAny_of_eq (a := ((Value.ref e : Value), [Value.str "__class__" tk])) (by first | rfl | (simp only [slotArgs]; rfl)) ?_)
  refine wpAny_bind (wpAny_pure (wpAny_bind (lt.at (wpAny_bind (lf.at ?_)))))
  show wpAny _ _ (holding [Value.builtin "object.__class__"] (call (.builtin "getset_descriptor.__get__") [.builtin "object.__class__", .ref e, .ref C]) >>= ret) _ _ _
  refine wpAny_bind (wpAny_holding (wpAny_call (class_get (s := ⟨hp, gn, dr, tk + 1, os⟩) (ox := oe) (od := some od) X I T.km ?_)))
  refine wpAny_pure ?_
  show wpAny _ _ (handedOut (.ref C)) _ _ _
  rw [handedOut_of (v := .ref C) rfl]
  first
    | exact wpAny_pure (wpAny_pure h)
    | exact wpAny_pure h
    | exact wpAny_pure (wpAny_bind (wpAny_pure (wpAny_pure h)))
/-- isinstance may be asked of it -/
theorem err_kit (T : ErrC K C) : KitX K (.ref e) (.ref C) (fun h => ∃ o d, InstAt h e o C (some d)) where
  ty := fun _ _ _ ⟨_, _, I⟩ => I.type
  it := fun _ _ X _ => by
    obtain ⟨cd, hc, _⟩ := any_some T.xf.hdC
    unfold clsIn at hc
    split at hc
    · rename_i ho
      intro _ _ _ _ k q
      unfold isType loadHead
      exact wpAny_bind (wpAny_loadPart (k _ _ (X _ _ ho)) (wpAny_pure q))
    · cases hc
  ne := fun h tp dd its n sl X htp => by
    obtain ⟨cd, hc, _⟩ := any_some T.xf.hdC
    refine Bool.eq_false_iff.mpr fun q => ?_
    have z : C = tp := Value.ref.inj (beq_iff_eq.mp q)
    subst z
    unfold clsIn at hc
    split at hc
    · rename_i ho
      have y := (X _ _ ho).symm.trans htp
      cases y
    · cases hc
  ca := fun X ⟨_, _, I⟩ k => err_class T X I k

/-- the method of an error, found in its class -/
theorem err_meth {name : Str} {pl : Sem Bool} {Q : Value × List Value → Shared → Prop} (T : ErrC K C) (X : K.In s.heap) (I : InstAt s.heap e oe C (some od))
    (hf : findIn K (.ref C) name = some (some (.ref f))) (ht : isFn K (.ref f) = true) (hs : shadowIn (some od) name = some false) (h : Q (.ref f, [.ref e]) s) :
    wpAny (model prog w) A (getMethod (.ref e) name pl) Q E s := by
  have cn : Manifest.canonical "BaseException.__getattribute__" = "object.__getattribute__" := by first | kernel_rfl | decide +kernel
  obtain ⟨r, ra, rb⟩ := Option.map_eq_some_iff.mp hs
  have dd := I.dict
  unfold getMethod specialOf
  refine wpAny_bind (wpAny_bind (I.type.here ((looks_findIn X T.xf.ga).here ?_)))
  dsimp only
  rw [cn, if_neg (by decide)]
  refine wpAny_bind (wpAny_bind (I.type.here ((looks_findIn X T.xf.gg).here ?_)))
  refine wpAny_bind (wpAny_bind (I.type.here ((looks_findIn X hf).here (wpAny_bind ((looks_typeIn X (beq_iff_eq.mp ht)).here ?_)))))
  rw [if_neg (by decide +kernel)]
  refine wpAny_bind (wpAny_loadPart I.at_ ?_)
  cases q : oe.dict with
  | none => exact wpAny_bind (wpAny_rule (wpAny_pure h))
  | some dx =>
    rw [q] at dd
    refine wpAny_bind (wpAny_bind (wpAny_loadPart dd ?_))
    rw [nsLook_of ra]
    refine wpAny_pure ?_
    rw [rb]
    exact wpAny_bind (wpAny_rule (wpAny_pure h))
end

section
variable {X : Cx} {pins : List (Addr × Obj)} {σ : St} {H : Hp} {s : Shared} {C a d : Addr} {fs : List (Str × V)}
/-- an error as the heap holds it -/
theorem err_at (I : Inv X pins σ H s) (ha : H a = some (exo a C (some d))) (hd : H d = some (exd d fs)) :
    ∃ o od mA, InstAt s.heap a o C (some od) ∧ s.heap.Ns1 d mA ∧ (∀ f, RelO (fs.lookup f) (mA f)) ∧ s.heap.get? d = some od ∧ ∀ f, lookIn f od = some (mA f) := by
  obtain ⟨t1, ho⟩ := exo_at I.hok ha
  obtain ⟨mA, hn, r⟩ := exd_at I.hok hd
  obtain ⟨od, hod, hl⟩ := lookIn_ns hn
  exact ⟨_, od, mA, ⟨ho, rfl, rfl, hod⟩, hn, r, hod, hl⟩
/-- e.f of an error -/
def tEf (K : Frag) (f : Str) (te : TE) : TE := fun σ H Q => te σ H fun x H1 => ∃ (a C d : Addr) (fs : List (Str × V)) (v : V), x = .ref a ∧ ErrC K C ∧ findIn K (.ref C) f = some none ∧
  H1 a = some (exo a C (some d)) ∧ H1 d = some (exd d fs) ∧ fs.lookup f = some v ∧ Q v H1
theorem pe_ef {e : Expr} {te : TE} {pos : Pos} {n : Str} (he : PE X e te) (hb : attributeBase e n X.env (eval e X.env) = eval e X.env := by rfl) :
    PE X (.Attribute e n pos) (tEf X.K n te) := by
  refine ⟨fun pins s σ H Q I h => ?_⟩
  refine attr_of hb (thn (he.run pins s σ H _ I h) fun u s1 hh => ?_)
  obtain ⟨x, H1, I1, rx, a, C, d, fs, v, ex, T, hno, ha, hd, l, q⟩ := hh
  subst ex
  obtain rfl : u = Value.ref a := rx
  obtain ⟨o, od, mA, J, hn, r, hod, hl⟩ := err_at I1 ha hd
  obtain ⟨u, hu, ru⟩ := RelO.some_of (v := v) (o := mA n) (by rw [← l]; exact r n)
  exact HandSPX.exc_get I1.kIn J T.xf.ga T.xf.gg T.xf.exC (findObj_own T.xf.hdC hno rfl (by rw [hl, hu])) (handed_of ru) ⟨v, H1, I1.tok _, ru, q⟩
/-- what a def promises, met when it is called: which def it is shows in the heap -/
def Does (X : Cx) (CX : CXT) (f : Addr) (vs : List V) (H : Hp) (Q : VK) (E : XK) : Prop :=
  ∃ (k : Nat) (fd : FuncData) (ps : List Str) (sp : Sp), keepIn X.K (.ref f) = true ∧ FnOk X.prog X.w X.K X.mg X.base CX k f fd ps sp ∧ Room k X.A ∧ Binds X.K fd ps [] ∧ sp vs H Q E
/-- e.m() of an error -/
def tEm0 (X : Cx) (CX : CXT) (m : Str) (E : XK) (te : TE) : TE := fun σ H Q => te σ H fun x H1 => ∃ (a C d f : Addr) (fs : List (Str × V)), x = .ref a ∧ ErrC X.K C ∧
  H1 a = some (exo a C (some d)) ∧ H1 d = some (exd d fs) ∧ fs.lookup m = none ∧ findIn X.K (.ref C) m = some (some (.ref f)) ∧ isFn X.K (.ref f) = true ∧ Does X CX f [.ref a] H1 Q E
theorem pe_em0 {CX : CXT} {E : XK} {o : Expr} {m : Str} {ta : TE} {apos pos : Pos} {pl : Sem Bool} (he : PE X o ta) (hx : Passes CX X E)
    (ht : eval (.Call (.Attribute o m apos) [] [] pos) X.env = (do
      let ov ← eval o X.env
      standAt apos.atName
      let (f, first) ← holding [ov] (getMethod ov m pl)
      callWith pos f first (backTo pos (starEach [] X.env)) (backToKw pos (keywordEach [] X.env))) := by rfl) :
    PE X (.Call (.Attribute o m apos) [] [] pos) (tEm0 X CX m E ta) := by
  refine ⟨fun pins s σ H Q I h => ?_⟩
  refine methodCall_KW (pl := pl) (thn (he.run pins s σ H _ I h) fun u s1 hh => ?_) ht
  obtain ⟨x, H1, I1, rx, a, C, d, f, fs, ex, T, ha, hd, l, hf, hfn, k, fd, ps, sp, kp, F, hr, hb, q⟩ := hh
  subst ex
  obtain rfl : u = Value.ref a := rx
  obtain ⟨o, od, mA, J, hn, r, hod, hl⟩ := err_at I1 ha hd
  have hno : mA m = none := RelO.none_of (by rw [← l]; exact r m)
  refine err_meth T I1.kIn J hf hfn (by show (lookIn m od).map _ = _; rw [hl, hno]; rfl) ?_
  exact callWith_K0 (first := [.ref a]) I1.kIn kp (run_fn (us := [.ref a]) (vs := [.ref a]) F hr hb .nil hx I1 (.cons rfl .nil) q)
/-- C(e, ..), an own error made and kept -/
def tMkE (C : Addr) (sp : Sp) (ta : TA) : TE := fun σ H Q => ta σ H fun vs H1 => vs.length ≤ 1000 ∧ ∀ a, H1 a = none → sp (.ref a :: vs) (upd H1 a (exo a C none)) (fun v H2 => v = .non ∧ Q (.ref a) H2) (fun _ _ _ => False)
theorem run_mkE {CX : CXT} {fI : Addr} {k : Nat} {fd : FuncData} {ps : List Str} {sp : Sp} {us : List Value} {vs : List V} {Q : VK} (T : OexC X.K C) (iC : findIn X.K (.ref C) "__init__" = some (some (.ref fI))) (tI : typeIn X.K (.ref fI) = some (.type "function"))
    (F1 : FnOk X.prog X.w X.K X.mg X.base CX k fI fd ps sp) (hr : Room (k + 1) X.A) (hb : Binds X.K fd ps []) (hx : Passes CX X (fun _ _ _ => False)) (I1 : Inv X pins σ H s) (r1 : Vals vs us) (hz : vs.length ≤ 1000)
    (q1 : ∀ a, H a = none → sp (.ref a :: vs) (upd H a (exo a C none)) (fun v H2 => v = .non ∧ Q (.ref a) H2) (fun _ _ _ => False)) :
    wpAny (model X.prog X.w) X.A (call (.ref C) us) (EP X pins σ Q) X.xe s := by
  obtain ⟨nm, q, N, bs, bm, sn, sub, ab, col, dd, k0, k1, k2, k3, k5, hC, hbm⟩ := T.cls
  obtain ⟨hp, g, dr, tk, os⟩ := s
  have sz : hp.objs.size ≤ hp.objs.size + 1 := Nat.le_succ _
  have fresh : H (hp.objs.size + 1) = none := I1.hok.fresh sz
  have pr := q1 (hp.objs.size + 1) fresh
  have keep : ∀ b o, hp.get? b = some o → ((hp.push (kdv_tup us)).push (HandSPX.excO C hp.objs.size)).get? b = some o := fun b o e => Heap.get?_push_of_some _ (Heap.get?_push_of_some _ e)
  have there : ((hp.push (kdv_tup us)).push (HandSPX.excO C hp.objs.size)).get? (hp.objs.size + 1) = some (HandSPX.excO C hp.objs.size) := by heap_get
  have I2 : Inv X pins σ (upd H (hp.objs.size + 1) (exo (hp.objs.size + 1) C none)) ⟨(hp.push (kdv_tup us)).push (HandSPX.excO C hp.objs.size), g, dr, tk, os⟩ :=
    I1.laid (t' := tk) (a := hp.objs.size + 1) (o := exo (hp.objs.size + 1) C none) (h' := (hp.push (kdv_tup us)).push (HandSPX.excO C hp.objs.size)) keep sz (exo_ok there)
  have r2 : Vals (V.ref (hp.objs.size + 1) :: vs) (Value.ref (hp.objs.size + 1) :: us) := .cons rfl r1
  have hl : (Value.ref (hp.objs.size + 1) :: us ++ []).length = ps.length := by
    rw [List.append_nil, ← r2.length]
    exact F1.len _ _ _ _ pr
  have hus : us.length ≤ sizeLine := by
    rw [← Paired.length r1, sizeLine_eq]
    omega
  have hb' := hb ⟨(hp.push (kdv_tup us)).push (HandSPX.excO C hp.objs.size), g, dr, tk, os⟩ (Value.ref (hp.objs.size + 1) :: us) I2.kIn hl
  rw [List.append_nil] at hb'
  refine wpAny_call (HandSPX.call_own F.excBase_ValueError (fun Y => HandSPX.refsVE_contains Y bm hbm) (I1.kIn _ _ hC) (looks_findIn I1.kIn iC) (fun self => bind_fn I1.kIn self tI) hus
    (codeAny_mono (F1.run _ X.stack _ _ ⟨Value.ref (hp.objs.size + 1) :: us, []⟩ (Value.ref (hp.objs.size + 1) :: us) _ _ (fun _ _ _ => False) (hr.make C us []) (I2.env0.make C us []) hb' r2 pr) fun r s' hq' => ?_))
  cases r with
  | error er => exact hx pins σ _ _ er s' I2 hq'
  | ok fl =>
    cases fl with
    | ret u =>
      obtain ⟨v, H2, I3, rv, ev, q3⟩ := I2.after hq'
      subst ev
      -- nothing was tracked at the new place
      exact ⟨rv, ⟨V.ref (hp.objs.size + 1), H2, I3, rfl, q3⟩⟩
    | next => exact False.elim hq'
    | brk => exact False.elim hq'
    | cont => exact False.elim hq'
theorem pe_mkE {CX : CXT} {x : Str} {fI : Addr} {k : Nat} {fd : FuncData} {ps : List Str} {sp : Sp} {e : Expr} {es : List Expr} {ta : TA} {p pos : Pos} (T : OexC X.K C) (iC : findIn X.K (.ref C) "__init__" = some (some (.ref fI))) (tI : typeIn X.K (.ref fI) = some (.type "function"))
    (F1 : FnOk X.prog X.w X.K X.mg X.base CX k fI fd ps sp) (hr : Room (k + 1) X.A) (hb : Binds X.K fd ps []) (hx : Passes CX X (fun _ _ _ => False)) (hg : Gl X x) (hm : X.mg x = some (.ref C)) (ha : PA X (e :: es) ta)
    (hdb : (x == ("__debug__" : Str)) = false := by decide) (he : starEach (e :: es) X.env = (false, eval e X.env) :: starEach es X.env := by rfl) (hpl : (backTo pos (starEach es X.env)).any (·.1) = false := by rfl) :
    PE X (.Call (.Name x p) (e :: es) [] pos) (tMkE C sp ta) := by
  refine ⟨fun pins s σ H Q I h => ?_⟩
  refine wpAny_Call_Name_kw (ld_glob I hg hm ?_ hdb)
  refine callWith_K (h₀ := X.base) I.ok.mod.kin T.kC (thn (ha.run pos pins s σ H _ I h) fun us s1 ⟨vs, H1, I1, r1, hz, q1⟩ => ⟨I1.kIn, ?_⟩) he hpl
  exact run_mkE T iC tI F1 hr hb hx I1 r1 hz q1
/-- a value's type, an error's too -/
inductive TyE (K : Frag) (H : Hp) : V → Value → Prop where
  | x {x : V} {t : Value} (h : TyX K H x t) : TyE K H x t
  | err {a C d : Addr} {fs : List (Str × V)} (T : ErrC K C) (ha : H a = some (exo a C (some d))) (hd : H d = some (exd d fs)) : TyE K H (.ref a) (.ref C)
theorem kit_ofE {x : V} {u t : Value} (I : Inv X pins σ H s) (rx : RelV x u) (ty : TyE X.K H x t) : ∃ P : Heap → Prop, KitX X.K u t P ∧ P s.heap ∧ u ≠ .builtin "__main__.__loader__#opaque" := by
  cases ty with
  | x h => exact kit_of I rx h
  | err T ha hd =>
    cases (show u = Value.ref _ from rx)
    obtain ⟨o, od, mA, J, _⟩ := err_at I ha hd
    exact ⟨_, err_kit T, ⟨o, od, J⟩, fun z => nomatch z⟩
def rIe (K : Frag) : List V → Hp → VK → Prop := fun xs H Q => ∃ (x c : V) (t u : Value) (b : Bool), xs = [x, c] ∧ ClsV c u ∧ TyE K H x t ∧ kitOne K t u = some b ∧ Q (.bl b) H
def rIeT (K : Frag) : List V → Hp → VK → Prop := fun xs H Q => ∃ (x : V) (tp : Addr) (cs : List V) (t : Value) (us : List Value) (b : Bool), xs = [x, .ref tp] ∧ H tp = some (.tup cs) ∧ Paired ClsV cs us ∧ TyE K H x t ∧ kitAny K t us = some b ∧ Q (.bl b) H
theorem call_ie : CallR X (.builtin "isinstance") (rIe X.K) := by
  intro pins s σ H xs us Q I r h
  obtain ⟨x, c, t, u, b, rfl, k, ty, e, q⟩ := h
  obtain ⟨u1, u2, rfl, r1, r2⟩ := vals2 r
  obtain rfl := k.eq r2
  obtain ⟨P, Z, p, hx⟩ := kit_ofE I r1 ty
  exact kia_one Z I.kIn p e hx fun tk => ⟨.bl b, H, I.tok tk, rfl, q⟩
theorem call_ieT : CallR X (.builtin "isinstance") (rIeT X.K) := by
  intro pins s σ H xs us Q I r h
  obtain ⟨x, tp, cs, t, ws, b, rfl, hT, k, ty, e, q⟩ := h
  obtain ⟨u1, u2, rfl, r1, r2⟩ := vals2 r
  cases (show u2 = Value.ref tp from r2)
  obtain ⟨P, Z, p, hx⟩ := kit_ofE I r1 ty
  obtain ⟨_, its, rv, o, h1, h2, n, h3⟩ := (show ObjOk X.prog X.w H s.heap tp (.tup cs) from I.hok tp _ hT)
  obtain rfl := ClsV.all k rv
  obtain ⟨oc, od, dt, sl⟩ := o
  dsimp only at h2 h3
  subst h2 h3
  exact kia_tup Z I.kIn p h1 e hx fun tk => ⟨.bl b, H, I.tok tk, rfl, q⟩
end
end L2.Jk

set_option Elab.async false
set_option linter.all false
set_option maxRecDepth 100000
set_option maxHeartbeats 4000000
/-! Defs and error classes as the head tells them; calls of them. -/
namespace L2.Jk
open PySem PySem.W PySem.Spec PySem.Calls PyProof.Rows

/-! ### what the head says of an error class, by one Bool -/
def oexB (K : Frag) (C : Addr) : Bool := (match K.lookup C with
  | some ⟨.type "type", _, .cls cd, sl⟩ => (match cd.mro, sl.toList with
    | .ref D :: bm, [_, _, _, _, some (.builtin n), _] => decide (D = C) && (decide (n = "ValueError.__new__") && (HandSPX.refsVE bm && (cd.hasDict && !cd.hasDel)))
    | _, _ => false)
  | _ => false) && (He.eqO (findIn K (.ref C) "__setattr__") (some (some (.builtin "object.__setattr__"))) && (decide (subIn K (.ref C) (.type "BaseException") = some true) &&
    (decide (typeIn K (.ref C) = some (.type "type")) && keepIn K (.ref C))))
theorem oexB_ok {K : Frag} {C : Addr} (h : oexB K C = true) : OexC K C := by
  obtain ⟨h1, h⟩ := Bool.and_eq_true_iff.mp h
  obtain ⟨h2, h⟩ := Bool.and_eq_true_iff.mp h
  obtain ⟨h3, h⟩ := Bool.and_eq_true_iff.mp h
  obtain ⟨h4, h5⟩ := Bool.and_eq_true_iff.mp h
  refine ⟨?_, He.eqO_ok h2, of_decide_eq_true h3, of_decide_eq_true h4, h5⟩
  split at h1
  · rename_i dd cd sl ho
    split at h1
    · rename_i D bm k0 k1 k2 k3 n k5 hm hs
      obtain ⟨a1, h1⟩ := Bool.and_eq_true_iff.mp h1
      obtain ⟨a2, h1⟩ := Bool.and_eq_true_iff.mp h1
      obtain ⟨a3, h1⟩ := Bool.and_eq_true_iff.mp h1
      obtain ⟨a4, a5⟩ := Bool.and_eq_true_iff.mp h1
      obtain rfl := of_decide_eq_true a1
      obtain rfl := of_decide_eq_true a2
      obtain ⟨nm, bs, mro, ns, qn, hd, sn, sub, ab, col, del⟩ := cd
      dsimp only at hm a4 a5
      subst hm
      subst a4
      obtain rfl : del = false := by cases del <;> first | rfl | cases a5
      have e : sl = #[k0, k1, k2, k3, some (.builtin "ValueError.__new__"), k5] := by
        obtain ⟨l⟩ := sl
        dsimp only at hs
        rw [hs]
      subst e
      exact ⟨nm, qn, ns, bs, bm, sn, sub, ab, col, dd, k0, k1, k2, k3, k5, ho, a3⟩
    · cases h1
  · cases h1
def errB (K : Frag) (C : Addr) (fs ms : List Str) : Bool := oexB K C && (xfB K C && (He.eqO (findIn K (.ref C) "__class__") (some (some (.builtin "object.__class__"))) &&
  (He.eqO (specialIn K (.builtin "object.__class__") "__get__") (some (some (.builtin "getset_descriptor.__get__"))) && (decide (takesIn K (.builtin "object.__class__") = some true) && (decide (mroIn K C (.type "object") = some true) &&
  ((fs.all fun f => He.eqO (findIn K (.ref C) f) (some none)) && ((ms.all fun m => He.eqO (findIn K (.ref C) m) (some (some (.ref (He.ma K C m)))) && isFn K (.ref (He.ma K C m))))))))))
structure ErrX (K : Frag) (C : Addr) (fs ms : List Str) : Prop where
  ec : ErrC K C
  no : ∀ f ∈ fs, findIn K (.ref C) f = some none
  me : ∀ m ∈ ms, findIn K (.ref C) m = some (some (.ref (He.ma K C m))) ∧ isFn K (.ref (He.ma K C m)) = true
theorem errB_ok {K : Frag} {C : Addr} {fs ms : List Str} (h : errB K C fs ms = true) : ErrX K C fs ms := by
  obtain ⟨h1, h⟩ := Bool.and_eq_true_iff.mp h
  obtain ⟨h2, h⟩ := Bool.and_eq_true_iff.mp h
  obtain ⟨h3, h⟩ := Bool.and_eq_true_iff.mp h
  obtain ⟨h4, h⟩ := Bool.and_eq_true_iff.mp h
  obtain ⟨h5, h⟩ := Bool.and_eq_true_iff.mp h
  obtain ⟨h6, h⟩ := Bool.and_eq_true_iff.mp h
  obtain ⟨h7, h8⟩ := Bool.and_eq_true_iff.mp h
  refine ⟨⟨oexB_ok h1, xfB_ok h2, He.eqO_ok h3, He.eqO_ok h4, of_decide_eq_true h5, of_decide_eq_true h6⟩, fun f hf => He.eqO_ok (List.all_eq_true.mp h7 f hf), fun m hm => ?_⟩
  obtain ⟨a, b⟩ := Bool.and_eq_true_iff.mp (List.all_eq_true.mp h8 m hm)
  exact ⟨He.eqO_ok a, b⟩

/-! ### a def of the module, called by its name -/
structure FnAt (P : Program) (w : World) (K : Frag) (mg : Str → Option Value) (base : Heap) (CX : CXT) (k : Nat) (x : Str) (ps : List Str) (sp : Sp) : Prop where
  ex : ∃ (f : Addr) (fd : FuncData), mg x = some (.ref f) ∧ keepIn K (.ref f) = true ∧ FnOk P w K mg base CX k f fd ps sp ∧ Binds K fd ps []
section
variable {X : Cx} {CX : CXT} {k : Nat} {x : Str} {ps : List Str} {sp : Sp} {E : XK} {e : Expr} {es : List Expr} {t : TA} {p pos : Pos}
theorem pe_fn (G : FnAt X.prog X.w X.K X.mg X.base CX k x ps sp) (hr : Room k X.A) (hx : Passes CX X E) (hg : Gl X x) (ha : PA X (e :: es) t)
    (hdb : (x == ("__debug__" : Str)) = false := by decide) (he : starEach (e :: es) X.env = (false, eval e X.env) :: starEach es X.env := by rfl) (hpl : (backTo pos (starEach es X.env)).any (·.1) = false := by rfl) :
    PE X (.Call (.Name x p) (e :: es) [] pos) (tCall sp [] E t) := by
  obtain ⟨f, fd, hm, kp, F, hb⟩ := G.ex
  exact pe_call F hr hg hm kp hb .nil hx ha hdb he hpl
end
/-! ### an error class, its instances as values -/
/-- at a: an error of the class at C, its dict at d holds fs -/
def mkE (H : Hp) (a C d : Addr) (fs : List (Str × V)) : Hp := upd (upd H d (exd d fs)) a (exo a C (some d))
/-- __init__(self, f): self.f = f -/
def spI1 (C : Addr) (f : Str) : Sp := fun vs H Q _ => ∃ (a : Addr) (v : V), vs = [.ref a, v] ∧ H a = some (exo a C none) ∧ ∀ d, H d = none → d ≠ a → Q .non (mkE H a C d [(f, v)])
def spI2 (C : Addr) (f g : Str) : Sp := fun vs H Q _ => ∃ (a : Addr) (v u : V), vs = [.ref a, v, u] ∧ H a = some (exo a C none) ∧ ∀ d, H d = none → d ≠ a → Q .non (mkE H a C d [(g, u), (f, v)])
def spS (z : Str) : Sp := fun vs H Q _ => ∃ v, vs = [v] ∧ Q (.str z) H
theorem mkE_new {H : Hp} {a C d : Addr} {fs : List (Str × V)} (ne : d ≠ a) : mkE (upd H a (exo a C none)) a C d fs = mkE H a C d fs := by
  funext b
  unfold mkE
  by_cases h : b = a
  · rw [h, upd_same, upd_same]
  · rw [upd_ne h, upd_ne h]
    by_cases h2 : b = d
    · rw [h2, upd_same, upd_same]
    · rw [upd_ne h2, upd_ne h2, upd_ne h]
/-- an error as a value -/
def ErrV (H : Hp) (v : V) (C : Addr) (fs : List (Str × V)) : Prop := ∃ a d, v = .ref a ∧ H a = some (exo a C (some d)) ∧ H d = some (exd d fs)
theorem ErrV.same {H H' : Hp} {v : V} {C : Addr} {fs : List (Str × V)} (h : ErrV H v C fs) (s : Same H H') : ErrV H' v C fs := by
  obtain ⟨a, d, e, h1, h2⟩ := h
  exact ⟨a, d, e, s _ _ h1, s _ _ h2⟩
theorem mkE_same {H : Hp} {a C d : Addr} {fs : List (Str × V)} (ha : H a = none) (hd : H d = none) : Same H (mkE H a C d fs) := fun b o e => by
  unfold mkE
  rw [upd_ne (ne_of_none e ha), upd_ne (ne_of_none e hd)]
  exact e
theorem mkE_err {H : Hp} {a C d : Addr} {fs : List (Str × V)} (ne : d ≠ a) : ErrV (mkE H a C d fs) (.ref a) C fs :=
  ⟨a, d, rfl, upd_same, by unfold mkE; rw [upd_ne ne, upd_same]⟩
def IniOk (P : Program) (w : World) (K : Frag) (mg : Str → Option Value) (base : Heap) (C : Addr) (fs : List Str) (fd : FuncData) : Prop := match fs with
  | [f] => FnOk P w K mg base CX0 1 (He.ma K C "__init__") fd ["self", f] (spI1 C f)
  | [f, g] => FnOk P w K mg base CX0 1 (He.ma K C "__init__") fd ["self", f, g] (spI2 C f g)
  | _ => False
/-- the class x, its __init__ (f or f, g), its told -/
structure ErrAt (P : Program) (w : World) (K : Frag) (mg : Str → Option Value) (base : Heap) (x : Str) (C : Addr) (fs : List Str) (z : Str) : Prop where
  mgC : mg x = some (.ref C)
  ex : ErrX K C fs ["told"]
  ini : findIn K (.ref C) "__init__" = some (some (.ref (He.ma K C "__init__"))) ∧ typeIn K (.ref (He.ma K C "__init__")) = some (.type "function")
  iok : ∃ fd, Binds K fd ("self" :: fs) [] ∧ IniOk P w K mg base C fs fd
  tok : ∃ fd, Binds K fd ["self"] [] ∧ keepIn K (.ref (He.ma K C "told")) = true ∧ FnOk P w K mg base CX0 1 (He.ma K C "told") fd ["self"] (spS z)
/-- the fields of an error that is made, as its dict holds them -/
def fldE : List Str → List V → List (Str × V)
  | [f], [v] => [(f, v)]
  | [f, g], [v, u] => [(g, u), (f, v)]
  | _, _ => []
def tErr (C : Addr) (fs : List Str) (ta : TA) : TE := fun σ H Q => ta σ H fun vs H1 => vs.length = fs.length ∧ ∀ v H2, Same H1 H2 → ErrV H2 v C (fldE fs vs) → Q v H2
section
variable {X : Cx} {x z : Str} {C : Addr} {fs : List Str} {e : Expr} {es : List Expr} {ta : TA} {p pos : Pos}
theorem pe_err (T : ErrAt X.prog X.w X.K X.mg X.base x C fs z) (hr : Room 2 X.A) (hx : Passes CX0 X (fun _ _ _ => False)) (hg : Gl X x) (ha : PA X (e :: es) ta)
    (hdb : (x == ("__debug__" : Str)) = false := by decide) (he : starEach (e :: es) X.env = (false, eval e X.env) :: starEach es X.env := by rfl) (hpl : (backTo pos (starEach es X.env)).any (·.1) = false := by rfl) :
    PE X (.Call (.Name x p) (e :: es) [] pos) (tErr C fs ta) := by
  obtain ⟨fd, hb, iok⟩ := T.iok
  refine ⟨fun pins s σ H Q I h => ?_⟩
  refine wpAny_Call_Name_kw (ld_glob I hg T.mgC ?_ hdb)
  refine callWith_K (h₀ := X.base) I.ok.mod.kin T.ex.ec.ox.kC (thn (ha.run pos pins s σ H _ I h) fun us s1 ⟨vs, H1, I1, r1, hz, q1⟩ => ⟨I1.kIn, ?_⟩) he hpl
  have ox := T.ex.ec.ox
  have i1 := T.ini.1
  have i2 := T.ini.2
  clear T
  match fs, vs, iok, hz, hb, q1 with
  | [f], [v], iok, _, hb, q1 =>
    exact run_mkE ox i1 i2 iok hr hb hx I1 r1 (by show 1 ≤ 1000; decide) fun a ha1 => ⟨a, v, rfl, upd_same, fun d hd ne => ⟨rfl, by
      rw [upd_ne ne] at hd
      rw [mkE_new ne]
      exact q1 _ _ (mkE_same ha1 hd) (mkE_err ne)⟩⟩
  | [f, g], [v, u], iok, _, hb, q1 =>
    exact run_mkE ox i1 i2 iok hr hb hx I1 r1 (by show 2 ≤ 1000; decide) fun a ha1 => ⟨a, v, u, rfl, upd_same, fun d hd ne => ⟨rfl, by
      rw [upd_ne ne] at hd
      rw [mkE_new ne]
      exact q1 _ _ (mkE_same ha1 hd) (mkE_err ne)⟩⟩
end

/-! ### the bodies of such a class's methods -/
section
variable {P : Program} {w : World} {K : Frag} {mg : Str → Option Value} {base : Heap} {x qual f g z : Str} {pa : Arguments} {sc : Scope} {dvs : List V} {kws : List (Str × V)} {fA : Addr} {fd : FuncData} {C : Addr} {p1 p2 p3 p4 q1 q2 q3 q4 : Pos} {j : Nat}
theorem ok_told {kk} (F : FunD K x qual pa [.Return (some (.Constant (.str z) kk p1)) p2] sc dvs kws fA fd) (S : FnScope ["self"] ["self"] sc) : FnOk P w K mg base CX0 1 fA fd ["self"] (spS z) := by
  refine F.ok S (fun vs H Q E h => ?_) (fun cdv A outer s H vs Q E hr h => ⟨_, PSs.nox (pss_one (ps_ret pe_str)), ?_⟩)
  · obtain ⟨v, rfl, _⟩ := h
    rfl
  · obtain ⟨v, rfl, q⟩ := h
    exact q
theorem ok_init1 (F : FunD K x qual pa [.Assign [.Attribute (.Name "self" p1) f p2] (.Name f p3) p4] sc dvs kws fA fd) (S : FnScope ["self", f] ["self", f] sc) (T : ErrX K C [f] ["told"])
    (ls : sc.names.lookup ("self" : Str) = some NameKind.local) (lf : sc.names.lookup f = some NameKind.local) (d1 : (f == ("__debug__" : Str)) = false) (d2 : (f == ("__classdict__" : Str)) = false) : FnOk P w K mg base CX0 1 fA fd ["self", f] (spI1 C f) := by
  refine F.ok S (fun vs H Q E h => ?_) (fun cdv A outer s H vs Q E hr h => ⟨_, PSs.nox (pss_one (ps_ost (pe_var (i := 0) rfl (.inl ls)) (pe_var (i := 1) rfl (.inl lf) d1 d2))), ?_⟩)
  · obtain ⟨a, v, rfl, _⟩ := h
    rfl
  · obtain ⟨a, v, rfl, ha, q⟩ := h
    exact ⟨_, rfl, _, rfl, a, C, rfl, T.ec.ox, T.no f (List.mem_singleton_self _), .inl ⟨ha, q⟩⟩
theorem ok_init2 (F : FunD K x qual pa [.Assign [.Attribute (.Name "self" p1) f p2] (.Name f p3) p4, .Assign [.Attribute (.Name "self" q1) g q2] (.Name g q3) q4] sc dvs kws fA fd) (S : FnScope ["self", f, g] ["self", f, g] sc) (T : ErrX K C [f, g] ["told"])
    (ls : sc.names.lookup ("self" : Str) = some NameKind.local) (lf : sc.names.lookup f = some NameKind.local) (d1 : (f == ("__debug__" : Str)) = false) (d2 : (f == ("__classdict__" : Str)) = false)
    (lg : sc.names.lookup g = some NameKind.local) (d3 : (g == ("__debug__" : Str)) = false) (d4 : (g == ("__classdict__" : Str)) = false) : FnOk P w K mg base CX0 1 fA fd ["self", f, g] (spI2 C f g) := by
  refine F.ok S (fun vs H Q E h => ?_) (fun cdv A outer s H vs Q E hr h => ⟨_, PSs.nox (pss_cons (ps_ost (pe_var (i := 0) rfl (.inl ls)) (pe_var (i := 1) rfl (.inl lf) d1 d2))
    (pss_one (ps_ost (pe_var (i := 0) rfl (.inl ls)) (pe_var (i := 2) rfl (.inl lg) d3 d4)))), ?_⟩)
  · obtain ⟨a, v, u, rfl, _⟩ := h
    rfl
  · obtain ⟨a, v, u, rfl, ha, q⟩ := h
    refine ⟨_, rfl, _, rfl, a, C, rfl, T.ec.ox, T.no f (List.mem_cons_self ..), .inl ⟨ha, fun d hd ne => ?_⟩⟩
    refine ⟨_, rfl, _, rfl, a, C, rfl, T.ec.ox, T.no g (List.mem_cons_of_mem _ (List.mem_singleton_self _)), .inr ⟨d, _, upd_same, by rw [upd_ne ne, upd_same], by show 1 ≤ 900; decide, ?_⟩⟩
    have z := q d hd ne
    have e : mkE H a C d [(g, u), (f, v)] = upd (upd (upd H d (exd d [(f, v)])) a (exo a C (some d))) d (exd d [(g, u), (f, v)]) := by
      funext b
      unfold mkE
      by_cases h1 : b = a
      · rw [h1, upd_same, upd_ne (Ne.symm ne), upd_same]
      · by_cases h2 : b = d
        · rw [h2, upd_ne ne, upd_same, upd_same]
        · rw [upd_ne h1, upd_ne h2, upd_ne h2, upd_ne h1, upd_ne h2]
    rw [e] at z
    exact z
end
end L2.Jk

set_option Elab.async false
set_option linter.all false
set_option maxRecDepth 100000
set_option maxHeartbeats 4000000
/-! A few operations over lists that may be read only; displays whose heap behind is not told but for what is new. -/
namespace L2.Jk
open PySem PySem.W PySem.Spec PySem.Calls PyProof.Rows

section
variable {X : Cx}
/-- xs + ys, whatever lists they are -/
def rCatS (K : Frag) : R2 := fun x y H Q => ∃ l b xs zs, x = .ref l ∧ y = .ref b ∧ SqL K H l xs ∧ SqL K H b zs ∧ xs.length + zs.length ≤ sizeLine ∧ ∀ p H', H p = none → Same H H' → H' p = some (.lst (xs ++ zs)) → Q (.ref p) H'
theorem op_catS : OpR X (binaryOp .Add) (rCatS X.K) := by
  intro pins s σ H x y v u Q I rx ry h
  obtain ⟨l, b, xs, zs, rfl, rfl, hl, hb, hz, q⟩ := h
  cases rx
  cases ry
  obtain ⟨i1, r1, ⟨o1, n1, g1, c1, d1, e1⟩, z1⟩ := I.list hl
  obtain ⟨i2, r2, ⟨o2, n2, g2, c2, d2, e2⟩, z2⟩ := I.list hb
  obtain ⟨k1, f1, t1, s1⟩ := o1
  obtain ⟨k2, f2, t2, s2⟩ := o2
  dsimp only at c1 d1 e1 c2 d2 e2
  subst c1 d1 e1 c2 d2 e2
  have hs : i1.length + i2.length ≤ sizeLine := by rw [← r1.length, ← r2.length]; exact hz
  refine concat_meets ⟨_, g1, rfl⟩ ⟨_, g2, rfl⟩ noFill_list_add seq_list_add PySem.F.slot_list_add PySem.F.entry_list_add (PySem.F.args_list_add_2 _ _)
    (list_addW l b i1.toArray i2.toArray n1 n2 none none s1 s2 (by simpa using hs)) ⟨g1, g2, ?_⟩
  rw [show i1.toArray ++ i2.toArray = (i1 ++ i2).toArray by simp]
  refine ⟨.ref _, _, I.lnew (t' := s.toks) (r1.append r2) (by rw [List.length_append]; exact hz), rfl, q _ _ I.fresh (fun c o z => ?_) upd_same⟩
  rw [upd_ne (ne_of_none z I.fresh)]
  exact z
/-- a display: where it stands is new, all else as before -/
def tLstS (t : TA) : TE := fun σ H Q => t σ H fun xs H1 => xs.length ≤ 1000 ∧ ∀ p H', H1 p = none → Same H1 H' → H' p = some (.lst xs) → Q (.ref p) H'
def tTupS (t : TA) : TE := fun σ H Q => t σ H fun xs H1 => xs.length ≤ 1000 ∧ ∀ p H', H1 p = none → Same H1 H' → H' p = some (.tup xs) → Q (.ref p) H'
theorem same_upd {H : Hp} {p : Addr} {o : HO} (h : H p = none) : Same H (upd H p o) := fun c u z => by
  rw [upd_ne (ne_of_none z h)]
  exact z
theorem pe_lstS {es : List Expr} {t : TA} {pos : Pos} (ha : PA X es t) : PE X (.List es pos) (tLstS t) := by
  constructor
  intro pins s σ H Q I h
  refine wpAny_List_spliced (thn (ha.run pos pins s σ H _ I h) fun us s1 ⟨xs, H1, I1, r, z, q⟩ => ?_)
  have z' := Nat.le_of_lt (small1000 z)
  have n : H1 s1.heap.objs.size = none := I1.fresh
  exact ⟨by rw [← r.length]; exact z', .ref s1.heap.objs.size, _, I1.lnew (t' := s1.toks) r z', rfl, q _ _ n (same_upd n) upd_same⟩
theorem pe_tupS {es : List Expr} {t : TA} {pos : Pos} {k} (ha : PA X es t) : PE X (.Tuple es k pos) (tTupS t) := by
  constructor
  intro pins s σ H Q I h
  refine wpAny_Tuple_spliced (thn (ha.run pos pins s σ H _ I h) fun us s1 ⟨xs, H1, I1, r, z, q⟩ => ?_)
  have z' := Nat.le_of_lt (small1000 z)
  have n : H1 s1.heap.objs.size = none := I1.fresh
  refine ⟨by rw [← r.length]; exact z', .ref s1.heap.objs.size, _, I1.laid (t' := s1.toks) (o := .tup xs) (fun b u e => Heap.get?_push_of_some _ e) (Nat.le_refl _) ?_, rfl, q _ _ n (same_upd n) upd_same⟩
  exact ⟨z', us, r, IsTup.new _ _⟩
/-- xs[lo:hi] of a list -/
def rSlS (K : Frag) : V → Option Int → Option Int → Hp → VK → Prop := fun x lo hi H Q => ∃ a xs, x = .ref a ∧ SqL K H a xs ∧ ∀ p H', H p = none → Same H H' → H' p = some (.lst (cutV xs lo hi)) → Q (.ref p) H'
theorem sl_listS : SlR X (rSlS X.K) := by
  intro pins s σ H x v vl vu lo hi sl Q I rx hs pl pu h
  obtain ⟨a, xs, e, hx, q⟩ := h
  exact sl_list pins s σ H x v vl vu lo hi sl Q I rx hs pl pu ⟨a, xs, e, hx, fun p hp => q p _ hp (same_upd hp) upd_same⟩
end
/-- what may change at one place alone -/
def But (a : Addr) (H H' : Hp) : Prop := ∀ c o, c ≠ a → H c = some o → H' c = some o
theorem But.of_same {a : Addr} {H H' : Hp} (s : Same H H') : But a H H' := fun c o _ h => s c o h
theorem But.refl (a : Addr) (H : Hp) : But a H H := fun _ _ _ h => h
theorem But.trans {a : Addr} {H H1 H2 : Hp} (x : But a H H1) (y : But a H1 H2) : But a H H2 := fun c o n h => y c o n (x c o n h)
theorem but_upd (H : Hp) (a : Addr) (o : HO) : But a H (upd H a o) := fun c u n h => by
  rw [upd_ne n]
  exact h
/-! ### data stays -/
theorem SqT.same {K : Frag} {H H' : Hp} {a : Addr} {xs : List V} (e : Same H H') (h : SqT K H a xs) : SqT K H' a xs := by
  rcases h with (h | ⟨o, h⟩) | h
  · exact .inl (.inl (e _ _ h))
  · exact .inl (.inr ⟨o, e _ _ h⟩)
  · exact .inr h
/-- a class or a def of the module, a built-in type, as a value -/
theorem pe_gref {X : Cx} {x : Str} {a : Addr} {pos : Pos} (hg : Gl X x) (hm : X.mg x = some (.ref a)) (hd : (x == ("__debug__" : Str)) = false := by decide) : PE X (.Name x pos) (tC (.ref a)) := pe_glob (v := .ref a) hg hm rfl hd
theorem pe_bty {X : Cx} {x : Str} {n : String} {pos : Pos} (hg : Gl X x) (hm : X.mg x = none) (hv : bootBuiltins x = some (.type n)) (hn : x ≠ "__name__" := by decide) (hd : (x == ("__debug__" : Str)) = false := by decide) : PE X (.Name x pos) (tC (.ty n)) :=
  pe_bltn (v := .ty n) hg hm hv rfl hn hd
/-! ### a new list that a comprehension fills: fm i is what it holds behind i turns -/
def LcP (H1 : Hp) (D : Addr) (fm : Nat → List V) (i : Nat) (H : Hp) : Prop := Same H1 H ∧ H1 D = none ∧ H D = some (.lst (fm i)) ∧ (fm i).length ≤ i
theorem LcP.start {H1 : Hp} {D : Addr} {fm : Nat → List V} (h : H1 D = none) (e : fm 0 = []) : LcP H1 D fm 0 (upd H1 D (.lst [])) :=
  ⟨same_upd h, h, by rw [upd_same, e], by rw [e]; exact Nat.le_refl _⟩
theorem LcP.put {H1 H H4 : Hp} {D : Addr} {fm : Nat → List V} {i : Nat} {y : V} (p : LcP H1 D fm i H) (s : Same H H4) (e : fm (i + 1) = fm i ++ [y]) (hi : i < 10000) :
    ∃ acc, H4 D = some (.lst acc) ∧ acc.length < sizeLine ∧ LcP H1 D fm (i + 1) (upd H4 D (.lst (acc ++ [y]))) := by
  obtain ⟨s0, n, d, l⟩ := p
  refine ⟨fm i, s _ _ d, ?_, fun c o z => ?_, n, by rw [upd_same, e], by rw [e, List.length_append, List.length_singleton]; omega⟩
  · rw [sizeLine_eq]
    omega
  · rw [upd_ne (ne_of_none z n)]
    exact s _ _ (s0 _ _ z)
theorem LcP.pass {H1 H H4 : Hp} {D : Addr} {fm : Nat → List V} {i : Nat} (p : LcP H1 D fm i H) (s : Same H H4) (e : fm (i + 1) = fm i) : LcP H1 D fm (i + 1) H4 := by
  obtain ⟨s0, n, d, l⟩ := p
  exact ⟨s0.trans s, n, by rw [e]; exact s _ _ d, by rw [e]; omega⟩
/-! ### data that stays where one place alone changes -/
def Per (a : Addr) (K : Frag) (H : Hp) (x : V) (d : PyData) : Prop := ∀ H', But a H H' → Dp K H' x d
theorem Per.but {a : Addr} {K : Frag} {H H1 : Hp} {x : V} {d : PyData} (p : Per a K H x d) (b : But a H H1) : Per a K H1 x d := fun H' b' => p H' (b.trans b')
theorem Per.same {a : Addr} {K : Frag} {H H1 : Hp} {x : V} {d : PyData} (p : Per a K H x d) (s : Same H H1) : Per a K H1 x d := p.but (But.of_same s)
theorem Per.dp {a : Addr} {K : Frag} {H : Hp} {x : V} {d : PyData} (p : Per a K H x d) : Dp K H x d := p H (But.refl a H)
theorem Per.lst {a p : Addr} {K : Frag} {H : Hp} {xs : List V} {ds : List PyData} (ne : p ≠ a) (h : H p = some (.lst xs)) (q : ∀ H', But a H H' → DpAll K H' xs ds) : Per a K H (.ref p) (.list ds) :=
  fun H' b => .lst (SqL.of (b _ _ ne h)) (q H' b)
theorem Per.tup {a p : Addr} {K : Frag} {H : Hp} {xs : List V} {ds : List PyData} (ne : p ≠ a) (h : H p = some (.tup xs)) (q : ∀ H', But a H H' → DpAll K H' xs ds) : Per a K H (.ref p) (.tuple ds) :=
  fun H' b => .tup (SqT.of (b _ _ ne h)) (q H' b)
theorem dp_one {K : Frag} {H : Hp} {p : Addr} {x : V} {d : PyData} (h : H p = some (.lst [x])) (q : Dp K H x d) : Dp K H (.ref p) (.list [d]) := .lst (SqL.of h) (.cons q .nil)
theorem dp_two {K : Frag} {H : Hp} {p : Addr} {x y : V} {d e : PyData} (h : H p = some (.lst [x, y])) (q : Dp K H x d) (r : Dp K H y e) : Dp K H (.ref p) (.list [d, e]) := .lst (SqL.of h) (.cons q (.cons r .nil))
theorem eqv_same {d : PyData} (h : SeqAt.shaped d = true) : PyData.eqv d d = true := SeqAt.eqv_refl d (SeqAt.canLay_of_shaped h)
theorem ne_new {H : Hp} {a b : Addr} {o : HO} (h : H a = some o) (n : H b = none) : b ≠ a := Ne.symm (ne_of_none h n)
end L2.Jk

set_option Elab.async false
set_option linter.all false
set_option maxRecDepth 100000
set_option maxHeartbeats 4000000
/-! == and != of instances by the text's own __eq__, whatever it answers. -/
namespace L2.Jk
open PySem PySem.W PySem.Spec PySem.Calls PyProof.Rows

/-! ### what the head says of a class with an own __eq__ and no __ne__, by one Bool -/
def eqcB (K : Frag) (C : Addr) : Bool := He.eqO (findIn K (.ref C) "__eq__") (some (some (.ref (He.ma K C "__eq__")))) && (isFn K (.ref (He.ma K C "__eq__")) && (match K.lookup C with
  | some ⟨.type "type", _, .cls cd, sl⟩ => (match cd.mro, sl.toList with
    | .ref D :: bm, [_, _, _, _, some (.builtin _), _] => decide (D = C) && (decide (bm = [.type "object"]) && (!cd.hasDel && (nsOkIn K cd.ns && (decide (nsIn K cd.ns "__eq__" = some (some (.ref (He.ma K C "__eq__")))) && decide (nsIn K cd.ns "__ne__" = some none)))))
    | _, _ => false)
  | _ => false))
structure EqcC (K : Frag) (C : Addr) : Prop where
  find : findIn K (.ref C) "__eq__" = some (some (.ref (He.ma K C "__eq__")))
  fn : isFn K (.ref (He.ma K C "__eq__")) = true
  cls : ∃ nm q N bs hdct sn sub ab col dd k0 k1 k2 k3 k5 nid, K.lookup C = some (excClassObj nm q C N bs [.type "object"] hdct sn sub ab col dd k0 k1 k2 k3 k5 nid) ∧ nsOkIn K N = true ∧
    nsIn K N "__eq__" = some (some (.ref (He.ma K C "__eq__"))) ∧ nsIn K N "__ne__" = some none
theorem eqcB_ok {K : Frag} {C : Addr} (h : eqcB K C = true) : EqcC K C := by
  obtain ⟨h1, h⟩ := Bool.and_eq_true_iff.mp h
  obtain ⟨h2, h3⟩ := Bool.and_eq_true_iff.mp h
  refine ⟨He.eqO_ok h1, h2, ?_⟩
  split at h3
  · rename_i dd cd sl ho
    split at h3
    · rename_i D bm k0 k1 k2 k3 n k5 hm hs
      obtain ⟨a1, h3⟩ := Bool.and_eq_true_iff.mp h3
      obtain ⟨a2, h3⟩ := Bool.and_eq_true_iff.mp h3
      obtain ⟨a3, h3⟩ := Bool.and_eq_true_iff.mp h3
      obtain ⟨a4, h3⟩ := Bool.and_eq_true_iff.mp h3
      obtain ⟨a5, a6⟩ := Bool.and_eq_true_iff.mp h3
      obtain rfl := of_decide_eq_true a1
      obtain rfl := of_decide_eq_true a2
      obtain ⟨nm, bs, mro, ns, qn, hd, sn, sub, ab, col, del⟩ := cd
      dsimp only at hm a3 a4 a5 a6
      subst hm
      obtain rfl : del = false := by cases del <;> first | rfl | cases a3
      have e : sl = #[k0, k1, k2, k3, some (.builtin n), k5] := by
        obtain ⟨l⟩ := sl
        dsimp only at hs
        rw [hs]
      subst e
      exact ⟨nm, qn, ns, bs, hd, sn, sub, ab, col, dd, k0, k1, k2, k3, k5, n, ho, a4, of_decide_eq_true a5, of_decide_eq_true a6⟩
    · cases h3
  · cases h3

section
variable {X : Cx} {CX : CXT} {E : XK}
/-- x == y, x an instance with an own __eq__: what that answers -/
def rEqO (X : Cx) (CX : CXT) (E : XK) : R2 := fun x y H Q => ∃ (a C dx : Addr) (fs : List (Str × V)) (t : Value), x = .ref a ∧ H a = some (.ins C dx fs) ∧ EqcC X.K C ∧ TyE X.K H y t ∧ notFirst X.K C t = true ∧
  Does X CX (He.ma X.K C "__eq__") [x, y] H (fun v H' => ∃ b, v = .bl b ∧ Q (.bl b) H') E
theorem op_eqO (hx : Passes CX X E) : OpR X (compareOp .Eq) (rEqO X CX E) := by
  intro pins s σ H x y v u Q I rx ry h
  obtain ⟨a, C, dx, fs, t, rfl, ha, T, ty, nf, k, fd, ps, sp, kp, F, hr, hb, q⟩ := h
  cases rx
  obtain ⟨mA, J, _⟩ := ins_get I.hok ha
  obtain ⟨od, J, _⟩ := J.look
  obtain ⟨m, hF⟩ := I.fr
  obtain ⟨P, Z, p, _⟩ := kit_ofE I ry ty
  have hty : Looks (model X.prog X.w) s.heap (typeOf u) t := Z.ty _ _ I.kIn p
  show wpAny (model X.prog X.w) X.A (richCompare .Eq (.ref a) u) (EP X pins σ Q) X.xe s
  refine cmp_K (op := .Eq) (tb := t) hr.units0 hF I.ok.mod.kin J hty nf T.find T.fn ?_
  refine wpAny_mono (run_fn (us := [.ref a, u]) (vs := [.ref a, y]) F hr hb .nil hx I (.cons rfl (.cons ry .nil)) q) (fun z s' hz => ?_) fun _ _ e => e
  obtain ⟨v', H', I', r', b, rfl, q'⟩ := hz
  obtain rfl : z = Value.bool b := r'
  exact ⟨.bl b, H', I', rfl, q'⟩
theorem ns_at_of {K : Frag} {h : Heap} {N : Addr} {mN : Str → Option Value} {n : Str} {v : Value} (X : K.In h) (G : h.Ns N mN) (e : nsIn K N n = some (some v)) : mN n = some v := by
  obtain ⟨o, es, ep, ho, hd, _, hf⟩ := G
  unfold nsIn at e
  split at e
  · rename_i q
    have z := X _ _ q
    rw [ho] at z
    cases z
    cases hd
    split at e
    · rename_i en he
      have ev : en.val = v := Option.some.inj (Option.some.inj e)
      rw [← hf]
      unfold nsFind findBy
      rw [← Array.find?_toList, he]
      exact congrArg some ev
    · split at e <;> cases e
  · cases e
/-- a call below a builtin -/
theorem run_in1 {k : Nat} {f : Addr} {fd : FuncData} {ps : List Str} {sp : Sp} {pins : List (Addr × Obj)} {σ : St} {H : Hp} {s : Shared} {Q : VK} {us : List Value} {vs : List V} (F : FnOk X.prog X.w X.K X.mg X.base CX k f fd ps sp) (hr : Room k X.A.in1)
    (hb : Binds X.K fd ps []) (hx : Passes CX X E) (I : Inv X pins σ H s) (r : Vals vs us) (h : sp vs H Q E) : wpAny (model X.prog X.w) X.A.in1 (call (.ref f) us) (EP X pins σ Q) X.xe s := by
  have hl : us.length = ps.length := by rw [← r.length]; exact F.len _ _ _ _ h
  have hb' := hb s us I.kIn (by rw [List.append_nil]; exact hl)
  rw [List.append_nil] at hb'
  refine wpAny_call (codeAny_mono (F.run X.A.in1 X.stack s H ⟨us, []⟩ us vs Q E hr I.env0.in1 hb' r h) fun r s' hq => ?_)
  cases r with
  | error e => exact hx pins σ H s e s' I hq
  | ok fl =>
    cases fl with
    | ret u => exact I.after hq
    | next => exact False.elim hq
    | brk => exact False.elim hq
    | cont => exact False.elim hq
/-- x != y, both instances of the class at C -/
def rNeO (X : Cx) (CX : CXT) (E : XK) : R2 := fun x y H Q => ∃ (a b C dx dy : Addr) (fs gs : List (Str × V)), x = .ref a ∧ y = .ref b ∧ H a = some (.ins C dx fs) ∧ H b = some (.ins C dy gs) ∧ EqcC X.K C ∧
  ∃ (k : Nat) (fd : FuncData) (ps : List Str) (sp : Sp), keepIn X.K (.ref (He.ma X.K C "__eq__")) = true ∧ FnOk X.prog X.w X.K X.mg X.base CX k (He.ma X.K C "__eq__") fd ps sp ∧ Room (k + 1) X.A ∧ Binds X.K fd ps [] ∧ sp [x, y] H (fun v H' => ∃ b, v = .bl b ∧ Q (.bl !b) H') E
theorem op_neO (hx : Passes CX X E) : OpR X (compareOp .NotEq) (rNeO X CX E) := by
  intro pins s σ H x y v u Q I rx ry h
  obtain ⟨a, b, C, dx, dy, fs, gs, rfl, rfl, ha, hb', T, k, fd, ps, sp, kp, G, hr, hb, q⟩ := h
  cases rx
  cases ry
  obtain ⟨mA, J, _⟩ := ins_get I.hok ha
  obtain ⟨mB, J', _⟩ := ins_get I.hok hb'
  obtain ⟨od, J, _⟩ := J.look
  obtain ⟨od', J', _⟩ := J'.look
  obtain ⟨nm, qn, N, bs, hdct, sn, sub, ab, col, dd, k0, k1, k2, k3, k5, nid, hC, ok, ne1, ne2⟩ := T.cls
  have hn : s.heap.Ns N (s.heap.nsMap N) := .of_isNs (isNs_of_in I.kIn ok)
  obtain ⟨of, hof, hcl⟩ := Option.map_eq_some_iff.mp (show (X.K.lookup (He.ma X.K C "__eq__")).map (·.cls) = some (.type "function") from beq_iff_eq.mp T.fn)
  have own : s.heap.OwnEqNoNe a C (He.ma X.K C "__eq__") "object" [.type "object"] := ⟨_, of, nm, qn, N, bs, hdct, sn, sub, ab, col, dd, k0, k1, k2, k3, k5, nid, _, _, J.at_, rfl, I.kIn _ _ hC, hn, ns_at_of I.kIn hn ne1,
    I.kIn _ _ hof, hcl, F.cmp_object.mro, F.cmp_object.eq.lookup, ns_none_of I.kIn hn ne2⟩
  obtain ⟨hp, g, d, tk, os⟩ := s
  refine compareOp_ne_ownEq F.cmp_object own J'.at_ rfl (by have := hr.units; omega) ?_
  refine wpAny_mono (run_in1 (us := [.ref a, .ref b]) (vs := [.ref a, .ref b]) G hr.in1 hb hx I (.cons rfl (.cons rfl .nil)) q) (fun z s' hz => ?_) fun _ _ e => e
  obtain ⟨v', H', I', r', b', rfl, q'⟩ := hz
  obtain rfl : z = Value.bool b' := r'
  exact ⟨b', rfl, .bl !b', H', I', rfl, q'⟩
end
end L2.Jk

set_option Elab.async false
set_option linter.all false
set_option maxRecDepth 100000
set_option maxHeartbeats 4000000
/-! int(text) of up to 4,300 digits, where the interpreter's limit on digits stands as it was. -/
namespace L2.Jk
open PySem PySem.W PySem.Spec PySem.Calls PySem.NumText PyProof.Rows PySem.W.KIN

theorem wp_textW {M : Model} {A : Around} {E : Value → Shared → Prop} {s : Shared} {Q : Value → Shared → Prop} {v : Value} {text : List Nat} {n : Int}
    (hd : s.heap.NoDigits) (hs : ¬ (text.takeWhile (· != 0)).length ≤ 640) (hr : (int_private% "readNumeral") 4300 10 (text.takeWhile (· != 0)) = (int_private% "Numeral.value") n)
    (ha : ((text.takeWhile (· != 0)).length == text.length) = true) (h : Q (.int n s.toks) { s with toks := s.toks + 1 }) :
    wpAny M A ((int_private% "intFromText") v text 10) Q E s := by
  obtain ⟨mc, hns, hnone⟩ := hd
  have key : wpAny M A (Builtin.intMaxStrDigits) (fun l s' => l = 4300 ∧ s' = s) E s := by
    unfold Builtin.intMaxStrDigits
    refine wpAny_bind (wpAny_nsGet hns ?_)
    rw [hnone]
    exact wpAny_pure ⟨rfl, rfl⟩
  obtain ⟨hp, g, d, tk, os⟩ := s
  show wpAny M A (do
    let limit ← if (text.takeWhile (· != 0)).length ≤ 640 then pure 0 else Builtin.intMaxStrDigits
    _) Q E _
  rw [if_neg hs]
  refine wpAny_bind (wpAny_mono key ?_ (fun _ _ x => x))
  rintro l s' ⟨rfl, rfl⟩
  dsimp only
  rw [hr]
  repeat (any_goals (first
    | assumption
    | (with_reducible refine wpAny_ite_true ha ?_)
    | wp_step))

set_option maxHeartbeats 4000000 in
theorem meets_textW {x : PySem.Str} {u : Tok} {n : Int} (hl : ¬ (numSeenOf x).length ≤ 640) (hl2 : x.length ≤ sizeLine) (hn : PySem.intText? x = some n) :
    Meets (Builtin.«int.__new__» ⟨[.type "int", .str x u], []⟩) (fun A R s => s.heap.NoDigits ∧ R (.ok (.ret (.int n s.toks))) { s with toks := s.toks + 1 }) :=
  .of_wp fun prog w A R s h => by
    have hr : (int_private% "readNumeral") 4300 10 (numSeenOf x) = (int_private% "Numeral.value") n ∧ ((numSeenOf x).length == (numTextOf x).length) = true := by
      rcases read4300 x hl2 with ⟨m, h1, h2, h3⟩ | ⟨h1, _⟩
      · rw [hn] at h1
        injection h1 with h1
        subst h1
        exact ⟨h3, h2⟩
      · rw [hn] at h1
        cases h1
    obtain ⟨hd, h⟩ := h
    have hd2 := Hid.mk hd
    obtain ⟨hp, g, d, tk, os⟩ := s
    have f1 := F.conv_sub_int
    have f2 := F.madeHere_int
    have f3 := str_int
    have f4 := str_idx
    have f5 := str_trunc
    have f6 : typeOf (.str x u) = pure (.type "str") := rfl
    have hk := Hid.mk (And.intro hl hr)
    clear hr hl hl2 hn hd
    repeat (any_goals (first
      | assumption
      | ((with_reducible show wpAny _ _ ((int_private% "intFromText") _ _ _) _ _ _); refine wp_textW hd2.out hk.out.1 hk.out.2.1 hk.out.2.2 ?_)
      | wp_step))
    all_goals first | exact ⟨_, rfl, h⟩ | skip
theorem call_textW {prog : Program} {w : World} {A : Around} {E : Value → Shared → Prop} {s : Shared} {Q : Value → Shared → Prop} {x : PySem.Str} {t : Tok} {n : Int} (hd : s.heap.NoDigits) (hn : PySem.intText? x = some n) (hl : x.length ≤ 640 ∨ (¬ (numSeenOf x).length ≤ 640 ∧ x.length ≤ 4300))
    (h : Q (.int n s.toks) { s with toks := s.toks + 1 }) : wpAny (model prog w) A (call (.type "int") [.str x t]) Q E s := by
  rcases hl with hl | ⟨hs, hl⟩
  · exact PySem.W.KIN.call_text hn hl h
  · exact call_int_1 (meets_textW hs (by rw [sizeLine_eq]; omega) hn) ⟨hd, rfl, h⟩
/-- a text that int() takes: short, or all of it digits -/
def IntOk (a : Str) : Prop := a.length ≤ 640 ∨ ((¬ (numSeenOf a).length ≤ 640) ∧ a.length ≤ 4300)
theorem intOk_digits {a : Str} (h : ∀ c ∈ a.cps.toList, c = 45 ∨ (48 ≤ c ∧ c ≤ 57)) (hl : a.length ≤ 4300) : IntOk a := by
  by_cases k : a.length ≤ 640
  · exact .inl k
  · refine .inr ⟨?_, hl⟩
    rw [(numText_signs h).2, Array.length_toList]
    exact k
theorem call_int_strW {X : Cx} (hd : X.base.NoDigits) : CallR X (.type "int") (fun xs H Q => ∃ a n, xs = [.str a] ∧ PySem.intText? a = some n ∧ IntOk a ∧ Q (.int n) H) := by
  intro pins s σ H xs us Q I rs h
  obtain ⟨a, n, rfl, hn, hl, h⟩ := h
  cases rs with
  | cons r1 rs =>
    cases rs
    obtain ⟨t, rfl⟩ := r1
    exact call_textW (hd.keeps I.bk) hn hl ⟨.int n, H, I.tok _, ⟨_, rfl⟩, h⟩
/-- what the head tells of the interpreter's own table -/
def digB (K : Frag) : Bool := match K.lookup cStatics with
  | some o => (match o.data with
    | .dict es _ => es.toList.all fun e => match e.key with
      | .str n _ => decide (n ≠ ("sys.int_max_str_digits" : Str))
      | _ => false
    | _ => false)
  | none => false
theorem noDigits_of {K : Frag} {base : Heap} (X : K.In base) (h : digB K = true) : base.NoDigits := by
  unfold digB at h
  split at h
  · rename_i o ho
    split at h
    · rename_i es ep hd
      have key : ∀ e ∈ es, ∃ n t, e.key = .str n t ∧ n ≠ ("sys.int_max_str_digits" : Str) := fun e he => by
        have k := List.all_eq_true.mp h e (by simpa using he)
        split at k
        · rename_i n t ek
          exact ⟨n, t, ek, of_decide_eq_true k⟩
        · cases k
      refine ⟨fun n => nsFind es n, ⟨o, es, ep, X _ _ ho, hd, fun e he => ?_, fun _ => rfl⟩, ?_⟩
      · obtain ⟨n, t, ek, _⟩ := key e he
        exact ⟨n, t, ek⟩
      · show nsFind es "sys.int_max_str_digits" = none
        unfold nsFind findBy
        have z : es.find? (fun e => e.key.isStr "sys.int_max_str_digits") = none := by
          rw [Array.find?_eq_none]
          intro e he
          obtain ⟨n, t, ek, ne⟩ := key e he
          rw [ek]
          simpa [Value.isStr] using ne
        rw [z]
        rfl
    · cases h
  · cases h
/-! ### a head whose facts see the interpreter's own table, too -/
def obsS (n : Nat) (fa : List He.Fa) (fn : List He.DefD) (ex : Frag → Bool) (g : Addr → Option Obj) : He.AlX := (He.obsT fa fn [] (He.frT g (He.asD g n ++ [cStatics])), ex (He.frT g (He.asD g n ++ [cStatics])))
def hookS (n : Nat) (fa : List He.Fa) (fn : List He.DefD) (ex : Frag → Bool) : PySem.W.Hook where
  α := He.AlX
  obs := fun s => obsS n fa fn ex s.heap.get?
  val := fun w => He.valX fn [] w
  says := fun w h => ∃ K : Frag, K.In h ∧ He.SaysT fa fn [] w K ∧ ex K = true
  of := fun _ _ e => ⟨_, He.frT_in, congrArg (fun z : He.AlX => z.1) e, congrArg (fun z : He.AlX => z.2) e⟩
  keeps := fun _ _ _ ⟨K, hK, c, m⟩ k => ⟨K, Frag.In.keeps hK k, c, m⟩
theorem obsS_eq {n : Nat} {fa : List He.Fa} {fn : List He.DefD} {ex : Frag → Bool} {g : Addr → Option Obj} {s : Shared} (h : ∀ a, g a = s.heap.get? a) : obsS n fa fn ex g = (hookS n fa fn ex).obs s := by
  have e : g = s.heap.get? := funext h
  rw [e] <;> rfl
end L2.Jk

set_option Elab.async false
set_option linter.all false
set_option maxRecDepth 100000
set_option maxHeartbeats 0
namespace L2.K07
open PySem PySem.W PySem.Spec PySem.Calls PyProof.Rows L2.Jk
def top (i : Nat) : Stmt := PySem.Challenge.pw_jointkeys_k07_fields_and_answers_as_thin.main.body.getD i (.Pass ⟨0, 0, 0, 0⟩)
def SG : Str := "-./0123456789ABCDEFGHIJKLMNOPQRSTUVWXYZ_abcdefghijklmnopqrstuvwxyz"
def DG : Str := "0123456789"
abbrev BF (K : Frag) : Addr := He.ga K "BadField"
def cname : Nat → Str
  | 0 => "Word"
  | 1 => "Number"
  | 2 => "Fixed"
  | 3 => "Listed"
  | 4 => "Ended"
  | 5 => "Marked"
  | 6 => "Pair"
  | 7 => "Wish"
  | 8 => "Stretch"
  | 9 => "Mend"
  | 10 => "Layout"
  | _ => ""
abbrev ca (K : Frag) (i : Nat) : Addr := He.ga K (cname i)
abbrev CA (K : Frag) (x : Str) : Addr := He.ga K x

def fn : List He.DefD := [⟨("BadField", some "__init__"), "__init__", "BadField.__init__", defArgs (inClass (top 3) 0), defBody (inClass (top 3) 0), defScope (inClass (top 3) 0), [], []⟩,
  ⟨("BadField", some "told"), "told", "BadField.told", defArgs (inClass (top 3) 1), defBody (inClass (top 3) 1), defScope (inClass (top 3) 1), [], []⟩,
  ⟨("Word", some "__init__"), "__init__", "Word.__init__", defArgs (inClass (top 20) 0), defBody (inClass (top 20) 0), defScope (inClass (top 20) 0), [], []⟩,
  ⟨("Word", some "__eq__"), "__eq__", "Word.__eq__", defArgs (inClass (top 20) 1), defBody (inClass (top 20) 1), defScope (inClass (top 20) 1), [], []⟩,
  ⟨("Word", some "has_sign"), "has_sign", "Word.has_sign", defArgs (inClass (top 20) 7), defBody (inClass (top 20) 7), defScope (inClass (top 20) 7), [], []⟩,
  ⟨("Number", some "__init__"), "__init__", "Number.__init__", defArgs (inClass (top 21) 0), defBody (inClass (top 21) 0), defScope (inClass (top 21) 0), [], []⟩,
  ⟨("Number", some "__eq__"), "__eq__", "Number.__eq__", defArgs (inClass (top 21) 1), defBody (inClass (top 21) 1), defScope (inClass (top 21) 1), [], []⟩,
  ⟨("Number", some "has_sign"), "has_sign", "Number.has_sign", defArgs (inClass (top 21) 7), defBody (inClass (top 21) 7), defScope (inClass (top 21) 7), [], []⟩,
  ⟨("Fixed", some "__init__"), "__init__", "Fixed.__init__", defArgs (inClass (top 22) 0), defBody (inClass (top 22) 0), defScope (inClass (top 22) 0), [], []⟩,
  ⟨("Fixed", some "__eq__"), "__eq__", "Fixed.__eq__", defArgs (inClass (top 22) 1), defBody (inClass (top 22) 1), defScope (inClass (top 22) 1), [], []⟩,
  ⟨("Fixed", some "has_sign"), "has_sign", "Fixed.has_sign", defArgs (inClass (top 22) 7), defBody (inClass (top 22) 7), defScope (inClass (top 22) 7), [], []⟩,
  ⟨("Listed", some "__init__"), "__init__", "Listed.__init__", defArgs (inClass (top 23) 0), defBody (inClass (top 23) 0), defScope (inClass (top 23) 0), [], []⟩,
  ⟨("Listed", some "__eq__"), "__eq__", "Listed.__eq__", defArgs (inClass (top 23) 1), defBody (inClass (top 23) 1), defScope (inClass (top 23) 1), [], []⟩,
  ⟨("Listed", some "has_sign"), "has_sign", "Listed.has_sign", defArgs (inClass (top 23) 7), defBody (inClass (top 23) 7), defScope (inClass (top 23) 7), [], []⟩,
  ⟨("Ended", some "__init__"), "__init__", "Ended.__init__", defArgs (inClass (top 24) 0), defBody (inClass (top 24) 0), defScope (inClass (top 24) 0), [], []⟩,
  ⟨("Ended", some "__eq__"), "__eq__", "Ended.__eq__", defArgs (inClass (top 24) 1), defBody (inClass (top 24) 1), defScope (inClass (top 24) 1), [], []⟩,
  ⟨("Ended", some "has_sign"), "has_sign", "Ended.has_sign", defArgs (inClass (top 24) 7), defBody (inClass (top 24) 7), defScope (inClass (top 24) 7), [], []⟩,
  ⟨("Marked", some "__init__"), "__init__", "Marked.__init__", defArgs (inClass (top 25) 0), defBody (inClass (top 25) 0), defScope (inClass (top 25) 0), [], []⟩,
  ⟨("Marked", some "__eq__"), "__eq__", "Marked.__eq__", defArgs (inClass (top 25) 1), defBody (inClass (top 25) 1), defScope (inClass (top 25) 1), [], []⟩,
  ⟨("Pair", some "__init__"), "__init__", "Pair.__init__", defArgs (inClass (top 34) 0), defBody (inClass (top 34) 0), defScope (inClass (top 34) 0), [], []⟩,
  ⟨("Pair", some "__eq__"), "__eq__", "Pair.__eq__", defArgs (inClass (top 34) 1), defBody (inClass (top 34) 1), defScope (inClass (top 34) 1), [], []⟩,
  ⟨("Wish", some "__init__"), "__init__", "Wish.__init__", defArgs (inClass (top 36) 0), defBody (inClass (top 36) 0), defScope (inClass (top 36) 0), [], []⟩,
  ⟨("Wish", some "__eq__"), "__eq__", "Wish.__eq__", defArgs (inClass (top 36) 1), defBody (inClass (top 36) 1), defScope (inClass (top 36) 1), [], []⟩,
  ⟨("Stretch", some "__init__"), "__init__", "Stretch.__init__", defArgs (inClass (top 37) 0), defBody (inClass (top 37) 0), defScope (inClass (top 37) 0), [], []⟩,
  ⟨("Stretch", some "__eq__"), "__eq__", "Stretch.__eq__", defArgs (inClass (top 37) 1), defBody (inClass (top 37) 1), defScope (inClass (top 37) 1), [], []⟩,
  ⟨("Mend", some "__init__"), "__init__", "Mend.__init__", defArgs (inClass (top 38) 0), defBody (inClass (top 38) 0), defScope (inClass (top 38) 0), [], []⟩,
  ⟨("Mend", some "__eq__"), "__eq__", "Mend.__eq__", defArgs (inClass (top 38) 1), defBody (inClass (top 38) 1), defScope (inClass (top 38) 1), [], []⟩,
  ⟨("Layout", some "__init__"), "__init__", "Layout.__init__", defArgs (inClass (top 30) 0), defBody (inClass (top 30) 0), defScope (inClass (top 30) 0), [], []⟩,
  ⟨("Layout", some "__eq__"), "__eq__", "Layout.__eq__", defArgs (inClass (top 30) 1), defBody (inClass (top 30) 1), defScope (inClass (top 30) 1), [], []⟩,
  ⟨("is_made_of", none), "is_made_of", "is_made_of", defArgs (top 10), defBody (top 10), defScope (top 10), [], []⟩,
  ⟨("is_sign", none), "is_sign", "is_sign", defArgs (top 11), defBody (top 11), defScope (top 11), [], []⟩,
  ⟨("are_signs", none), "are_signs", "are_signs", defArgs (top 12), defBody (top 12), defScope (top 12), [], []⟩,
  ⟨("is_number", none), "is_number", "is_number", defArgs (top 14), defBody (top 14), defScope (top 14), [], []⟩,
  ⟨("digits_of", none), "digits_of", "digits_of", defArgs (top 15), defBody (top 15), defScope (top 15), [], []⟩,
  ⟨("check_signs", none), "check_signs", "check_signs", defArgs (top 17), defBody (top 17), defScope (top 17), [], []⟩,
  ⟨("check_span", none), "check_span", "check_span", defArgs (top 18), defBody (top 18), defScope (top 18), [], []⟩,
  ⟨("has_words_with", none), "has_words_with", "has_words_with", defArgs (top 19), defBody (top 19), defScope (top 19), [], []⟩,
  ⟨("is_sequence", none), "is_sequence", "is_sequence", defArgs (top 27), defBody (top 27), defScope (top 27), [], []⟩,
  ⟨("check_fields", none), "check_fields", "check_fields", defArgs (top 28), defBody (top 28), defScope (top 28), [], []⟩,
  ⟨("is_joint", none), "is_joint", "is_joint", defArgs (top 29), defBody (top 29), defScope (top 29), [], []⟩,
  ⟨("bare_layout", none), "bare_layout", "bare_layout", defArgs (top 31), defBody (top 31), defScope (top 31), [], []⟩,
  ⟨("as_tuples", none), "as_tuples", "as_tuples", defArgs (top 33), defBody (top 33), defScope (top 33), [], []⟩,
  ⟨("_law_state", none), "_law_state", "_law_state", defArgs (top 41), defBody (top 41), defScope (top 41), [], []⟩,
  ⟨("_law_digit", none), "_law_digit", "_law_digit", defArgs (top 42), defBody (top 42), defScope (top 42), [], []⟩,
  ⟨("_law_things", none), "_law_things", "_law_things", defArgs (top 43), defBody (top 43), defScope (top 43), [], []⟩,
  ⟨("law", none), "law", "law", defArgs (top 44), defBody (top 44), defScope (top 44), [], []⟩]

def fa : List He.Fa := [.glo "JointError", .glo "BadField", .glo "Word", .glo "Number", .glo "Fixed", .glo "Listed", .glo "Ended", .glo "Marked", .glo "Pair", .glo "Wish", .glo "Stretch", .glo "Mend", .glo "Layout", .glo "is_made_of", .glo "is_sign", .glo "are_signs", .glo "is_number", .glo "digits_of", .glo "check_signs", .glo "check_span", .glo "has_words_with", .glo "is_sequence", .glo "check_fields", .glo "is_joint", .glo "bare_layout", .glo "as_tuples", .glo "_law_state", .glo "_law_digit", .glo "_law_things", .glo "law", .free "abs", .free "int", .free "bool", .free "isinstance", .free "range", .free "len", .free "set", .free "type", .free "str", .free "reversed", .free "tuple", .free "list", .free "any", .free "all", .free "enumerate", .str "SIGNS" SG, .str "DIGITS" DG, .str "LOW" "!", .str "HIGH" "~", .cls "Word", .mkr "Word", .noat "Word" "signs", .noat "Word" "least", .noat "Word" "most", .meth "Word" "has_sign", .cls "Number", .mkr "Number", .noat "Number" "least", .noat "Number" "most", .meth "Number" "has_sign", .cls "Fixed", .mkr "Fixed", .noat "Fixed" "width", .meth "Fixed" "has_sign", .cls "Listed", .mkr "Listed", .noat "Listed" "texts", .meth "Listed" "has_sign", .cls "Ended", .mkr "Ended", .noat "Ended" "signs", .noat "Ended" "sign", .noat "Ended" "least", .noat "Ended" "most", .meth "Ended" "has_sign", .cls "Marked", .mkr "Marked", .noat "Marked" "none", .noat "Marked" "mark", .noat "Marked" "field", .cls "Pair", .mkr "Pair", .noat "Pair" "one", .noat "Pair" "other", .cls "Wish", .mkr "Wish", .noat "Wish" "order", .noat "Wish" "scans", .cls "Stretch", .mkr "Stretch", .noat "Stretch" "kind", .noat "Stretch" "first", .noat "Stretch" "last", .noat "Stretch" "pair", .cls "Mend", .mkr "Mend", .noat "Mend" "joints", .noat "Mend" "stretches", .cls "Layout", .mkr "Layout", .noat "Layout" "fields", .noat "Layout" "joints"]

def kcB (K : Frag) (C : Addr) : Bool := He.eqO (findIn K (.ref C) "__class__") (some (some (.builtin "object.__class__"))) && (decide (mroIn K C (.type "object") = some true) && (notFirst K C (.type "tuple") && (notFirst K C (.type "int") && (eqcB K C && keepIn K (.ref (He.ma K C "__eq__"))))))
def ex (K : Frag) : Bool := ((errB K (BF K) ["what"] ["told"] && (He.eqO (findIn K (.ref (BF K)) "__init__") (some (some (.ref (He.ma K (BF K) "__init__")))) && (decide (typeIn K (.ref (He.ma K (BF K) "__init__")) = some (.type "function")) &&
  (decide (exmOne K (.ref (BF K)) (.ref (BF K)) = some true) && (He.eqO (specialIn K (.builtin "object.__class__") "__get__") (some (some (.builtin "getset_descriptor.__get__"))) && decide (takesIn K (.builtin "object.__class__") = some true)))))) &&
  ((List.range 6).all fun i => decide (kitOne K (.type "NoneType") (.ref (ca K i)) = some false) && (decide (kitOne K (.type "str") (.ref (ca K i)) = some false) && (decide (kitOne K (.ref (ca K i)) (.type "str") = some false) &&
  (List.range 6).all fun j => decide (kitOne K (.ref (ca K i)) (.ref (ca K j)) = some (decide (i = j)))))) &&
  ((List.range 11).all fun i => kcB K (ca K i) && (decide (kitOne K (.ref (ca K i)) (.type "list") = some false) && (decide (kitOne K (.ref (ca K i)) (.type "tuple") = some false) &&
  (List.range 11).all fun j => notFirst K (ca K i) (.ref (ca K j)) && decide ((ca K i = ca K j) ↔ i = j)))))
abbrev R : PySem.W.OpenRow := PySem.W.OpenLaw.row PySem.Challenge.rw_jointkeys_k07_fields_and_answers_as_thin
abbrev hk : PySem.W.Hook := He.hookX 4 fa fn [] [] ex
def ob (s : PySem.W.SharedT) : He.AlX := He.obsX 4 fa fn [] [] ex (HandSHeadRun.getT s)
theorem ob_eq (s : PySem.W.SharedT) : ob s = hk.obs s.abs := He.obsX_eq (HandSHeadRun.getT_eq s)
def names : List PySem.Str := (["_wall", "__name__", "JointError", "BadField", "BadLayout", "SIGNS", "DIGITS", "LOW", "HIGH", "is_made_of", "is_sign", "are_signs", "is_number", "digits_of", "check_signs", "check_span", "has_words_with", "Word", "Number", "Fixed", "Listed", "Ended", "Marked", "is_sequence", "check_fields", "is_joint", "Layout", "bare_layout", "as_tuples", "Pair"] : List PySem.Str) ++ (["Wish", "Stretch", "Mend", "_law_cell_at", "_law_state", "_law_digit", "_law_things"] : List PySem.Str)
theorem run (w : World) : HandSHeadRun.RunEq R (PySem.W.view R.prog [44]) hk ob 8000 names w := by
  intro os
  kernel_rfl
end L2.K07

set_option Elab.async false
set_option linter.all false
set_option maxRecDepth 100000
set_option maxHeartbeats 4000000
/-! set(..) of texts: how many members it has. -/
namespace L2.Jk
open PySem PySem.W PySem.Spec PySem.Calls PyProof.Rows

/-- how many of the first i are new -/
def newS (ks : Nat → Str) : Nat → Nat
  | 0 => 0
  | i + 1 => if (List.range i).any (fun j => ks j == ks i) then newS ks i else newS ks i + 1
theorem newS_le (ks : Nat → Str) : ∀ i, newS ks i ≤ i
  | 0 => Nat.le_refl _
  | i + 1 => by
    have := newS_le ks i
    unfold newS
    split <;> omega
section
variable {prog : Program} {w : World} {A : Around} {R : Result → Shared → Prop} {I : Addr} {fp wr : List Addr} {G : Array GenState → Array GenState → Prop} {n : Nat} {P : Nat → Value → Prop} {Z : Nat → Shared → Prop}
/-- what the set holds behind i items -/
def HeldS (prog : Program) (w : World) (h : Heap) (S : Addr) (ks : Nat → Str) (i : Nat) : Prop := h.SetOf (PySem.strKind prog w) S (fun k => (List.range i).any fun j => ks j == k) (newS ks i)
theorem HeldS.at {h h' : Heap} {S : Addr} {ks : Nat → Str} {i : Nat} (H : HeldS prog w h S ks i) (k : ∀ o, h.get? S = some o → h'.get? S = some o) : HeldS prog w h' S ks i := by
  obtain ⟨o, es, ep, t, ho, r⟩ := H
  exact ⟨o, es, ep, t, k o ho, r⟩
theorem set_loop (W : WalksS prog w A.in1 I fp wr G n P Z) (S : Addr) (hS : S ∉ fp) (ks : Nat → Str) (hn : n + 1 < scanBound) (hv : ∀ i v, P i v → ∃ t, v = .str (ks i) t) :
    ∀ (k i : Nat) (s : Shared), n - i = k → i ≤ n → Z i s → HeldS prog w s.heap S ks i →
      (∀ s', Moved (S :: wr) G s s' → HeldS prog w s'.heap S ks n → R (.ok (.ret .none)) s') → codeAny (model prog w) A (.builtin "set.update.loop" ⟨[.ref S, .ref I], []⟩) R s := by
  have sw : S ∉ wr := fun z => hS (W.sub _ z)
  have up : ∀ b ∈ wr, b ∈ S :: wr := fun b z => List.mem_cons_of_mem _ z
  intro k
  induction k with
  | zero =>
    intro i s hk hi hz H hR
    obtain rfl : i = n := by omega
    refine codeAny_builtin PyProof.Rows.F.entry_set_update_loop ?_
    rw [Around.under_plainId PyProof.Rows.F.plain_set_update_loop _]
    show wpAny _ A.in1 (pyNext (.ref I) >>= _) _ _ s
    refine wpAny_bind (W.done s _ _ hz fun s' m => ?_)
    show wpAny _ A.in1 (ret Value.none) _ _ s'
    exact wpAny_pure (hR s' (m.mono up) (H.at fun o e => m.heap S o sw e))
  | succ k ih =>
    intro i s hk hi hz H hR
    have lt : i < n := by omega
    refine codeAny_builtin PyProof.Rows.F.entry_set_update_loop ?_
    rw [Around.under_plainId PyProof.Rows.F.plain_set_update_loop _]
    show wpAny _ A.in1 (pyNext (.ref I) >>= _) _ _ s
    refine wpAny_bind (W.item i s _ _ lt hz fun v s' hp hz' m => ?_)
    obtain ⟨t, rfl⟩ := hv i v hp
    have H' : HeldS prog w s'.heap S ks i := H.at fun o e => m.heap S o sw e
    show wpAny _ A.in1 (holding [Value.str (ks i) t] (setAdd S (.str (ks i) t)) >>= _) _ _ s'
    refine wpAny_bind (wpAny_holding ?_)
    unfold setAdd
    refine wpAny_holding (wpAny_bind ((PySem.strKind prog w).pyHash (k := ks i) (strKind_is _ _ _ _) ?_))
    have few := newS_le ks i
    refine wpAny_setAddHashed_of (knd := PySem.strKind prog w) (s := { s' with toks := s'.toks + 1 }) (strKind_is _ _ _ _) rfl H' (by omega) fun h' sb H2 => ?_
    have H3 : HeldS prog w h' S ks (i + 1) := by
      refine PyProof.Rows.SetOf_congr H2 (fun q => ?_) ?_
      · show ((List.range i).any (fun j => ks j == q) || decide (q = ks i)) = (List.range (i + 1)).any fun j => ks j == q
        rw [List.range_succ, List.any_append]
        congr 1
        by_cases e : q = ks i
        · subst e
          simp
        · have e2 : (ks i == q) = false := beq_eq_false_iff_ne.mpr fun z => e z.symm
          simp [e, e2]
      · show (if (List.range i).any (fun j => ks j == ks i) = true then newS ks i else newS ks i + 1) = newS ks (i + 1)
        rfl
    refine wpAny_pure ⟨plainId_quiet PyProof.Rows.F.plain_set_update_loop _, ih (i + 1) _ (by omega) lt (W.frame _ s' _ _ hz' (Nat.le_succ _) fun b hb o e => ?_) H3 fun s2 m2 H4 => ?_⟩
    · rw [sb.2 b (fun z : b = S => hS (z ▸ hb))]
      exact e
    · refine hR s2 (Moved.trans W.gtrans ((m.mono up).then_heap (Nat.le_succ _) fun b o hb e => ?_) m2) H4
      rw [sb.2 b (fun z : b = S => hb (z ▸ List.mem_cons_self))]
      exact e
end
theorem sign_at {x : Str} {i : Nat} {v : Value} (z : SignAt x i v) : ∃ t, v = .str ⟨#[x.cps.getD i 0]⟩ t := by
  obtain ⟨c, t, h, e⟩ := z
  refine ⟨t, ?_⟩
  subst e
  rw [Array.getD_eq_getD_getElem?, h]
  rfl
end L2.Jk

set_option Elab.async false
set_option linter.all false
set_option maxRecDepth 100000
set_option maxHeartbeats 8000000
namespace L2.Jk
open PySem PySem.W PySem.Spec PySem.Calls PyProof.Rows
section
variable {prog : Program} {w : World} {A : Around} {E : Value → Shared → Prop} {s : Shared}
set_option maxHeartbeats 8000000 in
theorem set_callStr {x : Str} {tk0 : Tok} {Q : Value → Shared → Prop} (hh : A.handled = none)  (hn : x.cps.size + 1 < scanBound)
    (h : ∀ (h' : Heap) (tk : Nat), HeldS prog w h' s.heap.objs.size (fun i => ⟨#[x.cps.getD i 0]⟩) (x.cps.size) → (∀ b o, b < s.heap.objs.size → s.heap.get? b = some o → h'.get? b = some o) → Q (.ref s.heap.objs.size) { s with heap := h', toks := tk }) :
    wpAny (model prog w) A (call (.type "set") [(.str x tk0)]) Q E s := by
  obtain ⟨c, tl, hmro⟩ := PySem.F.called_set.mro
  have c1 := PySem.F.called_set.made
  have c2 := PySem.F.called_set.sub
  refine wpAny_call (codeAny_of_tree ?_)
  show wpAny _ _ (callAny (.type "set") _) _ _ _
  refine wpAny_pure ⟨Code.quiet_builtin _ (by decide +kernel), codeAny_builtin PySem.F.entry_type_call ?_⟩
  rw [Around.under_plain (weight_type_call_type "set" [(.str x tk0)] []) rfl]
  have c3 := PySem.F.called_set.notType
  have c4 := PySem.F.called_set.canCreate
  have c5 := PySem.F.typeCall_set_1 (.str x tk0)
  repeat (any_goals (first | assumption | wp_step))
  refine codeAny_mono (code_set_new_1 (.str x tk0) (E := E) (Q₁ := fun ob s₁ => ∃ led : Bool, ob = .ref s.heap.objs.size ∧ s₁ = { s with heap := s.heap.push { cls := .type "set", dict := none, data := .set #[] 0 (.fresh 0 0 led) } }) fun led => ⟨led, rfl, rfl⟩) fun r s₁ hr => ?_
  cases r with
  | error e => exact hr
  | ok fl =>
    cases fl with
    | ret ob =>
      obtain ⟨led, rfl, rfl⟩ := hr
      have hS : (s.heap.push { cls := .type "set", dict := none, data := .set #[] 0 (.fresh 0 0 led) }).get? s.heap.objs.size = some { cls := .type "set", dict := none, data := .set #[] 0 (.fresh 0 0 led) } := Heap.get?_push_size _ rfl
      have hT : Shared.TypeIs { s with heap := s.heap.push { cls := .type "set", dict := none, data := .set #[] 0 (.fresh 0 0 led) } } (.ref s.heap.objs.size) "set" := ⟨_, hS, rfl⟩
      have c6 := PySem.F.called_set.init.lookup
      have c7 := PySem.F.called_set.init.bind (.ref s.heap.objs.size)
      repeat (any_goals (first | assumption | wp_step))
      refine codeAny_mono (codeAny_call_builtin (R := wants (fun r s₂ => r = .none ∧ ∃ h' tk, s₂ = { s with heap := h', toks := tk } ∧ HeldS prog w h' s.heap.objs.size (fun i => ⟨#[x.cps.getD i 0]⟩) (x.cps.size) ∧
          (∀ b o, b < s.heap.objs.size → s.heap.get? b = some o → h'.get? b = some o)) E) PySem.F.called_set.init.plain PySem.F.entry_set_init (check_set_init_1 hT ?_)) fun r₂ s₂ hr₂ => ?_
      · have a1 := PySem.F.sub_str_set
        have a2 := PySem.F.sub_str_frozenset
        have a3 : (Value.type "str" == Value.type "dict") = false := by decide
        unfold Builtin.«set.__init__» noKeywords Builtin.Frozenset.updateFrom
        generalize hPI : pyIter = PI
        wp_walk
        subst hPI
        refine wpAny_pyIter_strU ?_
        refine wpAny_bind (wpAny_runValue ?_)
        have sf : s.heap.objs.size ∉ [(s.heap.push { cls := .type "set", dict := none, data := .set #[] 0 (.fresh 0 0 led) }).objs.size] := by
          rw [Heap.size_push]
          simp only [List.mem_cons, List.mem_singleton, List.not_mem_nil, or_false, not_or]
          exact Nat.ne_of_lt (Nat.lt_succ_self _)
        have h3 : A.in1.in1.in1.handled = none := by simp [hh]
        have sv : ∀ i v, SignAt x i v → ∃ t, v = .str ⟨#[x.cps.getD i 0]⟩ t := fun i v z => sign_at z
        have got : ∀ T, ((s.heap.push { cls := .type "set", dict := none, data := .set #[] 0 (.fresh 0 0 led) }).push { cls := .type T, data := .fields #[.str x tk0, .int 0 0] }).IsStrIter (s.heap.push { cls := .type "set", dict := none, data := .set #[] 0 (.fresh 0 0 led) }).objs.size T x tk0 0 := fun T => ⟨_, Heap.get?_push_size _ rfl, rfl, rfl⟩
        cases ha : x.cps.all (· < 128) with
        | false =>
          rw [show strIterType x = "str_iterator" by unfold strIterType; rw [ha]; rfl]
          refine set_loop ((Walks.strWide h3 _ x tk0).toS) s.heap.objs.size sf _ hn sv (x.cps.size - 0) 0 _ (by omega) (Nat.zero_le _) (got _) (PyProof.Rows.SetOf_congr ((PyProof.Rows.setObjOf_fresh (knd := PySem.strKind prog w) led).setOf (Heap.get?_push_of_some _ hS) (by unfold scanBound; omega)) (fun _ => rfl) rfl) ?hR
          case hR =>
            intro s' m H'
            obtain ⟨h', g', d', tk', os'⟩ := s'
            obtain rfl : g' = s.gens := m.gens
            obtain rfl : d' = s.drawn := m.drawn
            obtain rfl : os' = s.os := m.os
            show wpAny _ _ _ _ _ _
            refine wpAny_pure ?_
            show wpAny _ _ (ret Value.none) _ _ _
            refine wpAny_pure ⟨rfl, h', tk', rfl, H', fun b o hb e => ?_⟩
            have b1 : b ≠ s.heap.objs.size := Nat.ne_of_lt hb
            have b2 : b ≠ (s.heap.push { cls := .type "set", dict := none, data := .set #[] 0 (.fresh 0 0 led) }).objs.size := by
              rw [Heap.size_push]
              exact Nat.ne_of_lt (Nat.lt_succ_of_lt hb)
            exact m.heap b o (by simp only [List.mem_cons, List.mem_singleton, List.not_mem_nil, or_false, not_or]; exact ⟨b1, b2⟩) (Heap.get?_push_of_some _ (Heap.get?_push_of_some _ e))
        | true =>
          rw [show strIterType x = "str_ascii_iterator" by unfold strIterType; rw [ha]; rfl]
          refine set_loop ((Walks.strAscii h3 _ x tk0).toS) s.heap.objs.size sf _ hn sv (x.cps.size - 0) 0 _ (by omega) (Nat.zero_le _) (got _) (PyProof.Rows.SetOf_congr ((PyProof.Rows.setObjOf_fresh (knd := PySem.strKind prog w) led).setOf (Heap.get?_push_of_some _ hS) (by unfold scanBound; omega)) (fun _ => rfl) rfl) ?hR
          case hR =>
            intro s' m H'
            obtain ⟨h', g', d', tk', os'⟩ := s'
            obtain rfl : g' = s.gens := m.gens
            obtain rfl : d' = s.drawn := m.drawn
            obtain rfl : os' = s.os := m.os
            show wpAny _ _ _ _ _ _
            refine wpAny_pure ?_
            show wpAny _ _ (ret Value.none) _ _ _
            refine wpAny_pure ⟨rfl, h', tk', rfl, H', fun b o hb e => ?_⟩
            have b1 : b ≠ s.heap.objs.size := Nat.ne_of_lt hb
            have b2 : b ≠ (s.heap.push { cls := .type "set", dict := none, data := .set #[] 0 (.fresh 0 0 led) }).objs.size := by
              rw [Heap.size_push]
              exact Nat.ne_of_lt (Nat.lt_succ_of_lt hb)
            exact m.heap b o (by simp only [List.mem_cons, List.mem_singleton, List.not_mem_nil, or_false, not_or]; exact ⟨b1, b2⟩) (Heap.get?_push_of_some _ (Heap.get?_push_of_some _ e))

      · cases r₂ with
        | error e => exact hr₂
        | ok f2 =>
          cases f2 with
          | ret r =>
            obtain ⟨rfl, h', tk, rfl, H', k'⟩ := hr₂
            repeat (any_goals (first | assumption | wp_step))
            exact h _ _ H' k'
          | _ => exact hr₂.elim
    | _ => exact hr.elim
end
end L2.Jk

set_option Elab.async false
set_option linter.all false
set_option maxRecDepth 100000
set_option maxHeartbeats 8000000
namespace L2.Jk
open PySem PySem.W PySem.Spec PySem.Calls PyProof.Rows
section
variable {prog : Program} {w : World} {A : Around} {E : Value → Shared → Prop} {s : Shared}
set_option maxHeartbeats 8000000 in
theorem set_callList {l : Addr} {its : Array Value} {ks : Nat → Str} {Q : Value → Shared → Prop} (hh : A.handled = none) (hl : s.heap.IsList l its) (hk : ∀ i v, its[i]? = some v → ∃ t : Tok, v = Value.str (ks i) t) (hn : its.size + 1 < scanBound)
    (h : ∀ (h' : Heap) (tk : Nat), HeldS prog w h' s.heap.objs.size (ks) (its.size) → (∀ b o, b < s.heap.objs.size → s.heap.get? b = some o → h'.get? b = some o) → Q (.ref s.heap.objs.size) { s with heap := h', toks := tk }) :
    wpAny (model prog w) A (call (.type "set") [(.ref l)]) Q E s := by
  obtain ⟨c, tl, hmro⟩ := PySem.F.called_set.mro
  have c1 := PySem.F.called_set.made
  have c2 := PySem.F.called_set.sub
  refine wpAny_call (codeAny_of_tree ?_)
  show wpAny _ _ (callAny (.type "set") _) _ _ _
  refine wpAny_pure ⟨Code.quiet_builtin _ (by decide +kernel), codeAny_builtin PySem.F.entry_type_call ?_⟩
  rw [Around.under_plain (weight_type_call_type "set" [(.ref l)] []) rfl]
  have c3 := PySem.F.called_set.notType
  have c4 := PySem.F.called_set.canCreate
  have c5 := PySem.F.typeCall_set_1 (.ref l)
  repeat (any_goals (first | assumption | wp_step))
  refine codeAny_mono (code_set_new_1 (.ref l) (E := E) (Q₁ := fun ob s₁ => ∃ led : Bool, ob = .ref s.heap.objs.size ∧ s₁ = { s with heap := s.heap.push { cls := .type "set", dict := none, data := .set #[] 0 (.fresh 0 0 led) } }) fun led => ⟨led, rfl, rfl⟩) fun r s₁ hr => ?_
  cases r with
  | error e => exact hr
  | ok fl =>
    cases fl with
    | ret ob =>
      obtain ⟨led, rfl, rfl⟩ := hr
      have hS : (s.heap.push { cls := .type "set", dict := none, data := .set #[] 0 (.fresh 0 0 led) }).get? s.heap.objs.size = some { cls := .type "set", dict := none, data := .set #[] 0 (.fresh 0 0 led) } := Heap.get?_push_size _ rfl
      have hT : Shared.TypeIs { s with heap := s.heap.push { cls := .type "set", dict := none, data := .set #[] 0 (.fresh 0 0 led) } } (.ref s.heap.objs.size) "set" := ⟨_, hS, rfl⟩
      have c6 := PySem.F.called_set.init.lookup
      have c7 := PySem.F.called_set.init.bind (.ref s.heap.objs.size)
      repeat (any_goals (first | assumption | wp_step))
      refine codeAny_mono (codeAny_call_builtin (R := wants (fun r s₂ => r = .none ∧ ∃ h' tk, s₂ = { s with heap := h', toks := tk } ∧ HeldS prog w h' s.heap.objs.size (ks) (its.size) ∧
          (∀ b o, b < s.heap.objs.size → s.heap.get? b = some o → h'.get? b = some o)) E) PySem.F.called_set.init.plain PySem.F.entry_set_init (check_set_init_1 hT ?_)) fun r₂ s₂ hr₂ => ?_
      · obtain ⟨⟨oc, od, odt, osl⟩, hol, hcl, nl, hdl⟩ := id hl
        dsimp only at hcl hdl
        subst hcl; subst hdl
        have old := Heap.get?_push_of_some ({ cls := .type "set", dict := none, data := .set #[] 0 (.fresh 0 0 led) } : Obj) hol
        have a1 := PySem.F.sub_list_set
        have a2 := PySem.F.sub_list_frozenset
        have a3 : (Value.type "list" == Value.type "dict") = false := by decide
        have hl1 : (s.heap.push { cls := .type "set", dict := none, data := .set #[] 0 (.fresh 0 0 led) }).IsList l its := ⟨_, old, rfl, nl, rfl⟩
        unfold Builtin.«set.__init__» noKeywords Builtin.Frozenset.updateFrom
        generalize hPI : pyIter = PI
        wp_walk
        subst hPI
        refine wpAny_pyIter_list hl1 ?_
        refine wpAny_bind (wpAny_runValue ?_)
        have h3 : A.in1.in1.in1.handled = none := by simp [hh]
        have nI : l ≠ (s.heap.push { cls := .type "set", dict := none, data := .set #[] 0 (.fresh 0 0 led) }).objs.size := by
          rw [Heap.size_push]
          exact Nat.ne_of_lt (Nat.lt_succ_of_lt (Heap.lt_size hol))
        have sf : s.heap.objs.size ∉ [(s.heap.push { cls := .type "set", dict := none, data := .set #[] 0 (.fresh 0 0 led) }).objs.size, l] := by
          rw [Heap.size_push]
          simp only [List.mem_cons, List.mem_singleton, List.not_mem_nil, or_false, not_or]
          exact ⟨Nat.ne_of_lt (Nat.lt_succ_self _), Nat.ne_of_gt (Heap.lt_size hol)⟩
        refine set_loop ((Walks.list h3 _ l nI its).toS) s.heap.objs.size sf ks hn (fun i v z => hk i v z) (its.size - 0) 0 _ (by omega) (Nat.zero_le _) ⟨⟨_, Heap.get?_push_size _ rfl, rfl, rfl⟩, (hl1.push _)⟩ (PyProof.Rows.SetOf_congr ((PyProof.Rows.setObjOf_fresh (knd := PySem.strKind prog w) led).setOf (Heap.get?_push_of_some _ hS) (by unfold scanBound; omega)) (fun _ => rfl) rfl) ?hR
        case hR =>
          intro s' m H'
          obtain ⟨h', g', d', tk', os'⟩ := s'
          obtain rfl : g' = s.gens := m.gens
          obtain rfl : d' = s.drawn := m.drawn
          obtain rfl : os' = s.os := m.os
          show wpAny _ _ _ _ _ _
          refine wpAny_pure ?_
          show wpAny _ _ (ret Value.none) _ _ _
          refine wpAny_pure ⟨rfl, h', tk', rfl, H', fun b o hb e => ?_⟩
          have b1 : b ≠ s.heap.objs.size := Nat.ne_of_lt hb
          have b2 : b ≠ (s.heap.push { cls := .type "set", dict := none, data := .set #[] 0 (.fresh 0 0 led) }).objs.size := by
            rw [Heap.size_push]
            exact Nat.ne_of_lt (Nat.lt_succ_of_lt hb)
          exact m.heap b o (by simp only [List.mem_cons, List.mem_singleton, List.not_mem_nil, or_false, not_or]; exact ⟨b1, b2⟩) (Heap.get?_push_of_some _ (Heap.get?_push_of_some _ e))

      · cases r₂ with
        | error e => exact hr₂
        | ok f2 =>
          cases f2 with
          | ret r =>
            obtain ⟨rfl, h', tk, rfl, H', k'⟩ := hr₂
            repeat (any_goals (first | assumption | wp_step))
            exact h _ _ H' k'
          | _ => exact hr₂.elim
    | _ => exact hr.elim
end
end L2.Jk

set_option Elab.async false
set_option linter.all false
set_option maxRecDepth 100000
set_option maxHeartbeats 8000000
namespace L2.Jk
open PySem PySem.W PySem.Spec PySem.Calls PyProof.Rows
section
variable {prog : Program} {w : World} {A : Around} {E : Value → Shared → Prop} {s : Shared}
set_option maxHeartbeats 8000000 in
theorem set_callTup {l : Addr} {its : Array Value} {ks : Nat → Str} {Q : Value → Shared → Prop} (hh : A.handled = none) (hl : s.heap.IsTuple l its) (hk : ∀ i v, its[i]? = some v → ∃ t : Tok, v = Value.str (ks i) t) (hn : its.size + 1 < scanBound)
    (h : ∀ (h' : Heap) (tk : Nat), HeldS prog w h' s.heap.objs.size (ks) (its.size) → (∀ b o, b < s.heap.objs.size → s.heap.get? b = some o → h'.get? b = some o) → Q (.ref s.heap.objs.size) { s with heap := h', toks := tk }) :
    wpAny (model prog w) A (call (.type "set") [(.ref l)]) Q E s := by
  obtain ⟨c, tl, hmro⟩ := PySem.F.called_set.mro
  have c1 := PySem.F.called_set.made
  have c2 := PySem.F.called_set.sub
  refine wpAny_call (codeAny_of_tree ?_)
  show wpAny _ _ (callAny (.type "set") _) _ _ _
  refine wpAny_pure ⟨Code.quiet_builtin _ (by decide +kernel), codeAny_builtin PySem.F.entry_type_call ?_⟩
  rw [Around.under_plain (weight_type_call_type "set" [(.ref l)] []) rfl]
  have c3 := PySem.F.called_set.notType
  have c4 := PySem.F.called_set.canCreate
  have c5 := PySem.F.typeCall_set_1 (.ref l)
  repeat (any_goals (first | assumption | wp_step))
  refine codeAny_mono (code_set_new_1 (.ref l) (E := E) (Q₁ := fun ob s₁ => ∃ led : Bool, ob = .ref s.heap.objs.size ∧ s₁ = { s with heap := s.heap.push { cls := .type "set", dict := none, data := .set #[] 0 (.fresh 0 0 led) } }) fun led => ⟨led, rfl, rfl⟩) fun r s₁ hr => ?_
  cases r with
  | error e => exact hr
  | ok fl =>
    cases fl with
    | ret ob =>
      obtain ⟨led, rfl, rfl⟩ := hr
      have hS : (s.heap.push { cls := .type "set", dict := none, data := .set #[] 0 (.fresh 0 0 led) }).get? s.heap.objs.size = some { cls := .type "set", dict := none, data := .set #[] 0 (.fresh 0 0 led) } := Heap.get?_push_size _ rfl
      have hT : Shared.TypeIs { s with heap := s.heap.push { cls := .type "set", dict := none, data := .set #[] 0 (.fresh 0 0 led) } } (.ref s.heap.objs.size) "set" := ⟨_, hS, rfl⟩
      have c6 := PySem.F.called_set.init.lookup
      have c7 := PySem.F.called_set.init.bind (.ref s.heap.objs.size)
      repeat (any_goals (first | assumption | wp_step))
      refine codeAny_mono (codeAny_call_builtin (R := wants (fun r s₂ => r = .none ∧ ∃ h' tk, s₂ = { s with heap := h', toks := tk } ∧ HeldS prog w h' s.heap.objs.size (ks) (its.size) ∧
          (∀ b o, b < s.heap.objs.size → s.heap.get? b = some o → h'.get? b = some o)) E) PySem.F.called_set.init.plain PySem.F.entry_set_init (check_set_init_1 hT ?_)) fun r₂ s₂ hr₂ => ?_
      · obtain ⟨⟨oc, od, odt, osl⟩, hol, hcl, nl, hdl⟩ := id hl
        dsimp only at hcl hdl
        subst hcl; subst hdl
        have old := Heap.get?_push_of_some ({ cls := .type "set", dict := none, data := .set #[] 0 (.fresh 0 0 led) } : Obj) hol
        have a1 := PySem.F.sub_tuple_set
        have a2 := PySem.F.sub_tuple_frozenset
        have a3 : (Value.type "tuple" == Value.type "dict") = false := by decide
        have hl1 : (s.heap.push { cls := .type "set", dict := none, data := .set #[] 0 (.fresh 0 0 led) }).IsTuple l its := ⟨_, old, rfl, nl, rfl⟩
        unfold Builtin.«set.__init__» noKeywords Builtin.Frozenset.updateFrom
        generalize hPI : pyIter = PI
        wp_walk
        subst hPI
        refine wpAny_pyIter_tuple hl1 ?_
        refine wpAny_bind (wpAny_runValue ?_)
        have h3 : A.in1.in1.in1.handled = none := by simp [hh]
        have nI : l ≠ (s.heap.push { cls := .type "set", dict := none, data := .set #[] 0 (.fresh 0 0 led) }).objs.size := by
          rw [Heap.size_push]
          exact Nat.ne_of_lt (Nat.lt_succ_of_lt (Heap.lt_size hol))
        have sf : s.heap.objs.size ∉ [(s.heap.push { cls := .type "set", dict := none, data := .set #[] 0 (.fresh 0 0 led) }).objs.size, l] := by
          rw [Heap.size_push]
          simp only [List.mem_cons, List.mem_singleton, List.not_mem_nil, or_false, not_or]
          exact ⟨Nat.ne_of_lt (Nat.lt_succ_self _), Nat.ne_of_gt (Heap.lt_size hol)⟩
        refine set_loop ((Walks.tuple h3 _ l nI its).toS) s.heap.objs.size sf ks hn (fun i v z => hk i v z) (its.size - 0) 0 _ (by omega) (Nat.zero_le _) ⟨⟨_, Heap.get?_push_size _ rfl, rfl, rfl⟩, (hl1.push _)⟩ (PyProof.Rows.SetOf_congr ((PyProof.Rows.setObjOf_fresh (knd := PySem.strKind prog w) led).setOf (Heap.get?_push_of_some _ hS) (by unfold scanBound; omega)) (fun _ => rfl) rfl) ?hR
        case hR =>
          intro s' m H'
          obtain ⟨h', g', d', tk', os'⟩ := s'
          obtain rfl : g' = s.gens := m.gens
          obtain rfl : d' = s.drawn := m.drawn
          obtain rfl : os' = s.os := m.os
          show wpAny _ _ _ _ _ _
          refine wpAny_pure ?_
          show wpAny _ _ (ret Value.none) _ _ _
          refine wpAny_pure ⟨rfl, h', tk', rfl, H', fun b o hb e => ?_⟩
          have b1 : b ≠ s.heap.objs.size := Nat.ne_of_lt hb
          have b2 : b ≠ (s.heap.push { cls := .type "set", dict := none, data := .set #[] 0 (.fresh 0 0 led) }).objs.size := by
            rw [Heap.size_push]
            exact Nat.ne_of_lt (Nat.lt_succ_of_lt hb)
          exact m.heap b o (by simp only [List.mem_cons, List.mem_singleton, List.not_mem_nil, or_false, not_or]; exact ⟨b1, b2⟩) (Heap.get?_push_of_some _ (Heap.get?_push_of_some _ e))

      · cases r₂ with
        | error e => exact hr₂
        | ok f2 =>
          cases f2 with
          | ret r =>
            obtain ⟨rfl, h', tk, rfl, H', k'⟩ := hr₂
            repeat (any_goals (first | assumption | wp_step))
            exact h _ _ H' k'
          | _ => exact hr₂.elim
    | _ => exact hr.elim
end
end L2.Jk

set_option Elab.async false
set_option linter.all false
set_option maxRecDepth 100000
set_option maxHeartbeats 4000000
/-! != of two tuples that are equal item by item, instances with an own __eq__ among the items. -/
namespace L2.Jk
open PySem PySem.W PySem.Spec PySem.Calls PyProof.Rows PySem.SeqAt
open AutoSeq1 (wpAny_loadPart')

section
variable {prog : Program} {w : World} {A : Around} {R : Result → Shared → Prop} {E : Value → Shared → Prop} {s : Shared}
theorem tup_ne_same (l b : Addr) (its jts : Array Value) (n n2 : Nat) (dd dd2 : Option Addr) (sl sl2 : Array (Option Value)) (hsz : its.size = jts.size) (J : Nat → Shared → Prop)
    (turn : ∀ i (h1 : i < its.size) (h2 : i < jts.size) s, J i s → wpAny (model prog w) A.in1 (eqBool its[i] jts[i]) (fun r s' => r = true ∧ J (i + 1) s') (fun e s' => R (.error e) s') s)
    (fin : ∀ s, J its.size s → R (.ok (.ret (.bool false))) s) (hl : s.heap.get? l = some { cls := .type "tuple", dict := dd, data := .seq its n, slots := sl }) (hb : s.heap.get? b = some { cls := .type "tuple", dict := dd2, data := .seq jts n2, slots := sl2 })
    (h : J 0 s) : wpAny (model prog w) A.in1 (Builtin.«tuple.__ne__» ⟨[.ref l, .ref b], []⟩) (GQ.FinOf prog w A R) (fun e s' => R (.error e) s') s := by
  have f2 := AutoSeq1.sub_tuple_tuple
  have len : (its.toList.zip jts.toList).length = its.size := by simp [hsz]
  have h0 := h
  obtain ⟨hp, g, d, tk, os⟩ := s
  wp_walk using wpAny_loadPart' hl, wpAny_loadPart' hb, wpAny_forIn_list _ (fun rest b s' => b.1 = none ∧ ∃ i, rest = (its.toList.zip jts.toList).drop i ∧ i ≤ its.size ∧ J i s') _
  case turn =>
    rintro ⟨y, x⟩ rest b s' ⟨hb', i, hz, hi, hJ⟩
    have lt : i < (its.toList.zip jts.toList).length := by
      refine Nat.lt_of_not_le fun z => ?_
      rw [List.drop_of_length_le z] at hz
      cases hz
    have h1 : i < its.size := len ▸ lt
    have h2 : i < jts.size := hsz ▸ h1
    rw [List.drop_eq_getElem_cons lt] at hz
    obtain ⟨e1, e2⟩ := List.cons.inj hz
    obtain rfl : y = its[i] := by simpa using congrArg Prod.fst e1
    obtain rfl : x = jts[i] := by simpa using congrArg Prod.snd e1
    refine wpAny_bind (wpAny_mono (turn i h1 h2 s' hJ) (fun r s2 q2 => ?_) fun _ _ x => x)
    obtain ⟨rfl, q2⟩ := q2
    wp_walk
    exact ⟨rfl, i + 1, e2, h1, q2⟩
  case fin =>
    rintro ⟨b1, b2⟩ s' ⟨hb', i, hz, hi, hJ⟩
    dsimp only at hb'
    subst hb'
    have ge : its.size ≤ i := by
      refine Nat.le_of_not_lt fun z => ?_
      rw [List.drop_eq_getElem_cons (by rw [len]; exact z)] at hz
      cases hz
    obtain rfl : i = its.size := by omega
    have hR := fin s' hJ
    wp_walk
    simpa [Builtin.Tuple.tupleCompareSizes, hsz] using hR
  case h => exact ⟨rfl, 0, rfl, Nat.zero_le _, h0⟩
theorem tup_ne_rich {l b : Addr} {its jts : Array Value} {Q : Value → Shared → Prop} (hsz : its.size = jts.size) (hu : A.units < cLine) (J : Nat → Shared → Prop) (hl : s.heap.IsTuple l its) (hb : s.heap.IsTuple b jts)
    (turn : ∀ i (h1 : i < its.size) (h2 : i < jts.size) s, J i s → wpAny (model prog w) A.in1 (eqBool its[i] jts[i]) (fun r s' => r = true ∧ J (i + 1) s') E s)
    (fin : ∀ s, J its.size s → Q (.bool false) s) (h : J 0 s) : wpAny (model prog w) A (richCompare .NotEq (.ref l) (.ref b)) Q E s := by
  obtain ⟨⟨c1, d1, t1, s1⟩, g1, k1, n1, e1⟩ := id hl
  obtain ⟨⟨c2, d2, t2, s2⟩, g2, k2, n2, e2⟩ := id hb
  dsimp only at k1 e1 k2 e2
  subst k1 e1 k2 e2
  refine wpAny_richCompare_same_room (op := .NotEq) ⟨_, g1, rfl⟩ ⟨_, g2, rfl⟩ PySem.F.slot_tuple_ne (GQ.call_here PySem.F.slot_tuple_ne ⟨_, g1, rfl⟩ PySem.F.entry_tuple_ne (PySem.F.args_tuple_ne_2 _ _) ?_) hu
  exact tup_ne_same (R := wants (fun v s' => v ≠ .notImplemented ∧ Q v s') E) l b its jts n1 n2 d1 d2 s1 s2 hsz J turn (fun s' q => ⟨(fun x => nomatch x), fin s' q⟩) g1 g2 h
end
section
variable {X : Cx} {n : Nat} {D : Eqv}
/-- t != u of two tuples whose items D says to be equal -/
def rNeT (X : Cx) (D : Eqv) : R2 := fun x y H Q => DTup X.K D x y H ∧ ∀ H', Same H H' → Q (.bl false) H'
theorem op_neT (hD : Mon D) (h : EqG X n D) (hr : Room (n + 1) X.A) : OpR X (compareOp .NotEq) (rNeT X D) := by
  intro pins s σ H x y v u Q I rx ry hq
  obtain ⟨⟨a, b, xs, ys, rfl, rfl, ha, hb, p⟩, q⟩ := hq
  cases rx
  cases ry
  obtain ⟨its, r, e, z⟩ := I.tuple ha
  obtain ⟨jts, r2, e2, z2⟩ := I.tuple hb
  have hsz : its.toArray.size = jts.toArray.size := by rw [List.size_toArray, List.size_toArray, ← r.length, ← r2.length]; exact p.1
  show wpAny (model X.prog X.w) X.A (richCompare .NotEq (.ref a) (.ref b)) (EP X pins σ Q) X.xe s
  refine tup_ne_rich hsz hr.units0 (fun _ s' => LoopI X pins σ H s') e e2 (fun i h1 h2 s' k => turnG hD h ⟨hr, rfl⟩ p r r2 i h1 h2 s' k) (fun s' k => ?_) ⟨H, I, Ext.rfl'⟩
  obtain ⟨H', I', x⟩ := k
  exact ⟨.bl false, H', I', rfl, q H' x⟩
end
end L2.Jk

set_option Elab.async false
set_option linter.all false
set_option maxRecDepth 100000
set_option maxHeartbeats 4000000
/-! ''.join(reversed(xs)), list(text), len(set(..)), type(x) is type(y). -/
namespace L2.Jk
open PySem PySem.W PySem.Spec PySem.Calls PyProof.Rows

theorem paired_of {α β : Type} {F : α → β → Prop} : ∀ {xs : List α} {ys : List β}, xs.length = ys.length → (∀ (i : Nat) x y, xs[i]? = some x → ys[i]? = some y → F x y) → Paired F xs ys
  | [], [], _, _ => .nil
  | [], _ :: _, e, _ => by cases e
  | _ :: _, [], e, _ => by cases e
  | x :: xs, y :: ys, e, h => .cons (h 0 x y rfl rfl) (paired_of (Nat.succ.inj e) fun i a b h1 h2 => h (i + 1) a b h1 h2)
section
variable {X : Cx}
/-! ### list(text) -/
/-- its signs, one text each -/
def signsV (z : Str) : List V := (List.range z.cps.size).map fun i => V.str ⟨#[z.cps.getD i 0]⟩
theorem call_listStr (hc : X.calm = true) : CallR X (.type "list") (fun xs H Q => ∃ z : Str, xs = [.str z] ∧ z.cps.size ≤ 1000 ∧ ∀ p H', H p = none → Same H H' → H' p = some (.lst (signsV z)) → Q (.ref p) H') := by
  intro pins s σ H xs us Q I r h
  obtain ⟨z, rfl, hz, q⟩ := h
  obtain ⟨u, rfl, t, rfl⟩ := vals1 r
  have hz' : z.cps.size ≤ sizeLine := by rw [sizeLine_eq]; omega
  refine call_list_str (I.ok.hd hc) z t (fun h' tk acc c k hp ha => ?_) hz'
  obtain ⟨al, ai⟩ := ha
  have vs : Vals (signsV z) acc.toList := by
    refine paired_of (show (signsV z).length = acc.toList.length by
      have e : acc.toList.length = acc.size := Array.length_toList
      rw [e, al]
      simp [signsV]) fun i x v hx hv => ?_
    have hi : i < z.cps.size := by
      have := (List.getElem?_eq_some_iff.mp hx).1
      simpa [signsV] using this
    obtain ⟨t', e⟩ := sign_at (ai i v (by rw [← Array.getElem?_toList]; exact hv))
    subst e
    have e2 : x = V.str ⟨#[z.cps.getD i 0]⟩ := by
      unfold signsV at hx
      rw [List.getElem?_map, List.getElem?_range hi] at hx
      exact (Option.some.inj hx).symm
    subst e2
    exact ⟨t', rfl⟩
  have n := I.fresh
  refine ⟨.ref s.heap.objs.size, _, I.laid (t' := tk) (h' := h') (o := .lst (signsV z)) k (Nat.le_refl _) ⟨?_, acc.toList, c, vs, by simpa using hp⟩, rfl, q _ _ n (same_upd n) upd_same⟩
  simp only [signsV, List.length_map, List.length_range]
  exact hz'
/-! ### len(set(..)) -/
def tLenSetStr (te : TE) : TE := fun σ H Q => te σ H fun x H1 => ∃ z : Str, x = .str z ∧ z.cps.size ≤ 4000 ∧ Q (.int (newS (fun i => ⟨#[z.cps.getD i 0]⟩) z.cps.size : Nat)) H1
theorem held_len {h : Heap} {S : Addr} {ks : Nat → Str} {i : Nat} {A : Around} {E : Value → Shared → Prop} {Q : Value → Shared → Prop} {s : Shared} (H : HeldS X.prog X.w s.heap S ks i) (hi : i ≤ 4000)
    (q : ∀ tk, Q (.int (newS ks i : Nat) tk) { s with toks := tk + 1 }) : wpAny (model X.prog X.w) A (call (.builtin "len") [.ref S]) Q E s := by
  have few := newS_le ks i
  obtain ⟨o, es, ep, t, ho, hex, hd, _, _, _, hf, hn⟩ := H
  exact call_len_set ho hex hd hf (by rw [hn]; omega) (by rw [hn]; exact q _)
theorem pe_lenSetStr {a : Expr} {ta : TE} {p p2 q pos : Pos} (hc : X.calm = true) (hg : Gl X "len") (hm : X.mg "len" = none) (hg2 : Gl X "set") (hm2 : X.mg "set" = none) (ha : PE X a ta)
    (na : starEach [a] X.env = (false, eval a X.env) :: starEach [] X.env := by rfl) : PE X (.Call (.Name "len" p) [.Call (.Name "set" p2) [a] [] q] [] pos) (tLenSetStr ta) := by
  constructor
  intro pins s σ H Q I h
  refine Call_ (ld_blt I hg hm boot_len (PyProof.Rows.callWith_builtin1 (PyProof.Rows.args_cons ?_ rfl) rfl rfl))
  refine Call_ (ld_blt I hg2 hm2 boot_set (PyProof.Rows.callWith_type1 (PyProof.Rows.args_cons (thn (ha.run pins s σ H _ I h) fun v s1 ⟨x, H1, I1, r1, z, ex, hz, q1⟩ => PyProof.Rows.args_nil ?_) na) na rfl))
  subst ex
  obtain ⟨t, rfl⟩ := r1
  refine set_callStr (I1.ok.hd hc) (by unfold scanBound; omega) fun h' tk hS hk => PyProof.Rows.args_nil ?_
  have I2 : Inv X pins σ H1 { s1 with heap := h', toks := tk } := I1.kept fun b o e => hk b o (Heap.lt_size e) e
  exact held_len (h := h') (s := { s1 with heap := h', toks := tk }) hS hz fun tk' => ⟨.int _, H1, I2.tok _, ⟨_, rfl⟩, q1⟩
/-- .. of a list or a tuple of texts -/
def tLenSetSeq (K : Frag) (te : TE) : TE := fun σ H Q => te σ H fun x H1 => ∃ (l : Addr) (ys : List Str), x = .ref l ∧ (SqL K H1 l (ys.map V.str) ∨ SqT K H1 l (ys.map V.str)) ∧ ys.length ≤ 4000 ∧ Q (.int (newS (fun i => ys.getD i Str.empty) ys.length : Nat)) H1
theorem strs_get {ys : List Str} {us : List Value} (r : Vals (ys.map V.str) us) (i : Nat) (v : Value) (h : us.toArray[i]? = some v) : ∃ t : Tok, v = Value.str (ys.getD i Str.empty) t := by
  have h' : us[i]? = some v := by simpa using h
  have lt : i < ys.length := by
    have := (List.getElem?_eq_some_iff.mp h').1
    rw [← r.length, List.length_map] at this
    exact this
  obtain ⟨u, hu, ru⟩ := r.get (i := i) (x := V.str (ys.getD i Str.empty)) (by rw [List.getElem?_map, List.getElem?_eq_getElem lt, List.getD_eq_getElem?_getD, List.getElem?_eq_getElem lt]; rfl)
  rw [h'] at hu
  cases hu
  exact ru
theorem pe_lenSetSeq {a : Expr} {ta : TE} {p p2 q pos : Pos} (hc : X.calm = true) (hg : Gl X "len") (hm : X.mg "len" = none) (hg2 : Gl X "set") (hm2 : X.mg "set" = none) (ha : PE X a ta)
    (na : starEach [a] X.env = (false, eval a X.env) :: starEach [] X.env := by rfl) : PE X (.Call (.Name "len" p) [.Call (.Name "set" p2) [a] [] q] [] pos) (tLenSetSeq X.K ta) := by
  constructor
  intro pins s σ H Q I h
  refine Call_ (ld_blt I hg hm boot_len (PyProof.Rows.callWith_builtin1 (PyProof.Rows.args_cons ?_ rfl) rfl rfl))
  refine Call_ (ld_blt I hg2 hm2 boot_set (PyProof.Rows.callWith_type1 (PyProof.Rows.args_cons (thn (ha.run pins s σ H _ I h) fun v s1 ⟨x, H1, I1, r1, l, ys, ex, hq, hz, q1⟩ => PyProof.Rows.args_nil ?_) na) na rfl))
  subst ex
  cases r1
  have fin : ∀ (its : List Value), Vals (ys.map V.str) its → ∀ (h' : Heap) (tk : Nat), HeldS X.prog X.w h' s1.heap.objs.size (fun i => ys.getD i Str.empty) its.toArray.size → (∀ b o, b < s1.heap.objs.size → s1.heap.get? b = some o → h'.get? b = some o) →
      wpAny (model X.prog X.w) X.A (spliced (backTo pos (starEach [] X.env))) (fun vs s₂ => wpAny (model X.prog X.w) X.A (call (.builtin "len") (Value.ref s1.heap.objs.size :: vs)) (EP X pins σ Q) X.xe s₂) X.xe { s1 with heap := h', toks := tk } := fun its r h' tk hS hk => by
    have hl : its.toArray.size = ys.length := by rw [List.size_toArray, ← r.length, List.length_map]
    rw [hl] at hS
    have I2 : Inv X pins σ H1 { s1 with heap := h', toks := tk } := I1.kept fun b o e => hk b o (Heap.lt_size e) e
    exact PyProof.Rows.args_nil (held_len (h := h') (s := { s1 with heap := h', toks := tk }) hS hz fun tk' => ⟨.int _, H1, I2.tok _, ⟨_, rfl⟩, q1⟩)
  rcases hq with hq | hq
  · obtain ⟨its, r, pl, _⟩ := I1.list hq
    have hl : its.toArray.size = ys.length := by rw [List.size_toArray, ← r.length, List.length_map]
    exact set_callList (I1.ok.hd hc) pl.isList (strs_get r) (by unfold scanBound; omega) fun h' tk hS hk => fin its r h' tk hS hk
  · obtain ⟨its, r, pl, _⟩ := I1.tuple hq
    have hl : its.toArray.size = ys.length := by rw [List.size_toArray, ← r.length, List.length_map]
    exact set_callTup (I1.ok.hd hc) pl (strs_get r) (by unfold scanBound; omega) fun h' tk hS hk => fin its r h' tk hS hk
/-! ### type(x) is type(y) -/
def rTyA (X : Cx) : List V → Hp → VK → Prop := fun xs H Q => ∃ x, xs = [x] ∧ ((∃ a C dx fs, x = .ref a ∧ H a = some (.ins C dx fs) ∧ Q (.ref C) H) ∨ ∃ T, RZ.Ty4 H x T ∧ Q (.ty T) H)
theorem call_tyA : CallR X (.type "type") (rTyA X) := by
  intro pins s σ H xs us Q I r h
  obtain ⟨x, rfl, h | h⟩ := h
  · obtain ⟨a, C, dx, fs, rfl, ha, q⟩ := h
    exact cr_type pins s σ H _ us Q I r ⟨a, C, dx, fs, rfl, ha, q⟩
  · obtain ⟨T, t, q⟩ := h
    exact RZ.call_type4 pins s σ H _ us Q I r ⟨x, T, rfl, t, q⟩
def rIsA (X : Cx) : R2 := fun x y H Q => ∃ a, x = .ref a ∧ ((∃ b, y = .ref b ∧ (a = b ∨ (makesIn X.K a = true ∧ makesIn X.K b = true)) ∧ Q (.bl (decide (a = b))) H) ∨ ∃ T, y = .ty T ∧ Q (.bl false) H)
theorem op_isA : OpR X (compareOp .Is) (rIsA X) := by
  intro pins s σ H x y v u Q I rx ry h
  obtain ⟨a, rfl, h | h⟩ := h
  · obtain ⟨b, rfl, hab, q⟩ := h
    exact op_is_cls pins s σ H _ _ v u Q I rx ry ⟨a, b, rfl, rfl, hab, q⟩
  · obtain ⟨T, rfl, q⟩ := h
    cases rx
    cases ry
    show wpAny _ _ (do return Value.bool (← isSame (.ref a) (.type T))) _ _ _
    exact wpAny_bind (wpAny_of_eq (a := false) rfl (wpAny_pure ⟨.bl false, H, I, rfl, q⟩))
/-! ### ''.join(reversed(xs)) -/
def tJoinRev (K : Frag) (to te : TE) : TE := fun σ H Q => to σ H fun o H0 => ∃ z : Str, o = .str z ∧ te σ H0 fun v H1 => ∃ (a : Addr) (ys : List Str), v = .ref a ∧ SqL K H1 a (ys.map V.str) ∧ JoinOk z ys.reverse = true ∧ Q (.str (Txt.join z ys.reverse)) H1
theorem strs_pairs : ∀ {ys : List Str} {us : List Value}, Vals (ys.map V.str) us → ∃ l : List (Str × Tok), strValues l = us ∧ l.map (·.1) = ys
  | [], _, .nil => ⟨[], rfl, rfl⟩
  | y :: ys, _, .cons r t => by
    obtain ⟨k, rfl⟩ := r
    obtain ⟨l, e1, e2⟩ := strs_pairs t
    exact ⟨(y, k) :: l, by rw [← e1]; rfl, by rw [← e2]; rfl⟩
theorem joined_tail (z : Str) : ∀ l : List (Str × Tok), Builtin.Str.tooLong ((l.map (·.1)).toArray.foldl (· + ·.length + z.length) 0) = false → Gives (joinTail z (strValues l)) (joinMade z l)
  | [], h => gives_joinTail z [] h
  | [p], h => gives_joinTail z [p] h
  | p :: q :: r, h => gives_joinTail z (p :: q :: r) h
theorem pe_joinRev {o e : Expr} {to te : TE} {apos p2 pos2 cpos : Pos} (hc : X.calm = true) (hg2 : Gl X "reversed") (hm2 : X.mg "reversed" = none) (ho : PE X o to) (he : PE X e te)
    (hbase : attributeBase o "join" X.env (eval o X.env) = eval o X.env := by rfl)
    (hfew : ((backTo cpos (starEach [Expr.Call (.Name "reversed" p2) [e] [] pos2] X.env)).all (fun x => !x.1) && (backToKw cpos (keywordEach [] X.env)).all (fun x => x.1.isSome)
      && decide ([Expr.Call (.Name "reversed" p2) [e] [] pos2].length + ([] : List Keyword).length + (if ([] : List Keyword).isEmpty then 0 else 1) < 30)) = true := by rfl)
    (hline : (apos.endLine == cpos.line) = true := by rfl) (hs : starEach [e] X.env = (false, eval e X.env) :: starEach [] X.env := by rfl)
    (hs2 : starEach [Expr.Call (.Name "reversed" p2) [e] [] pos2] X.env = (false, eval (.Call (.Name "reversed" p2) [e] [] pos2) X.env) :: starEach [] X.env := by rfl) :
    PE X (.Call (.Attribute o "join" apos) [.Call (.Name "reversed" p2) [e] [] pos2] [] cpos) (tJoinRev X.K to te) := by
  constructor
  intro pins s σ H Q I h
  refine wpAny_Call_method_late hbase hfew hline rfl (thn (ho.run pins s σ H _ I h) fun v s1 ⟨x, H0, I0, r0, z, ex, q0⟩ => ?_)
  subst ex
  obtain ⟨t, rfl⟩ := r0
  refine ⟨"str", "str.join", PySem.F.plainAttrs_str, PySem.F.slot_str_join, PySem.F.type_str_join, typeIs_str _ _ _, (fun a e => nomatch e), ?_⟩
  refine Calls.callWith_builtin (by rw [hs2]; rfl) ?_
  rw [hs2]
  refine Calls.evalArgs_plain (Calls.spliced_cons ?_)
  refine Call_ (ld_blt I0 hg2 hm2 PyProof.Rows.boot_reversed (PyProof.Rows.callWith_type1 (PyProof.Rows.args_cons (thn (he.run pins s1 σ H0 _ I0 q0) fun u s2 ⟨y, H1, I1, r1, a, ys, ey, hq, ok, q1⟩ => PyProof.Rows.args_nil ?_) hs) hs rfl))
  subst ey
  obtain rfl : u = Value.ref a := r1
  obtain ⟨its, rv, pl, hz⟩ := I1.list hq
  refine call_reversed_list pl.isList (Calls.spliced_nil ?_)
  have k0 : ∀ b o, s2.heap.get? b = some o → (s2.heap.push (revObj a ((its.toArray.size : Int) - 1))).get? b = some o := fun b o e => Heap.get?_push_of_some _ e
  have I2 : Inv X pins σ H1 { s2 with heap := s2.heap.push (revObj a ((its.toArray.size : Int) - 1)) } := I1.kept (t' := s2.toks) k0
  obtain ⟨f0, f1, f2, f3, f4, f5⟩ := I1.fpOk (H' := H1) (b := s2.heap.objs.size) (Nat.le_refl _) (I1.hok.fresh (Nat.le_refl _))
  have hl := pl.isList
  obtain ⟨ol, hol, _⟩ := id hl
  have ne : a ≠ s2.heap.objs.size := Nat.ne_of_lt (Heap.lt_size hol)
  have sm : its.toArray.size ≤ sizeLine := by rw [List.size_toArray, ← rv.length]; exact hz
  have hit : (s2.heap.push (revObj a ((its.toArray.size : Int) - 1))).IsRevIter s2.heap.objs.size a ((its.toArray.size : Int) - 1) := ⟨_, Heap.get?_push_size _ rfl, rfl, rfl⟩
  refine wpAny_call (codeAny_call_builtin F.slot_str_join.plain F.entry_str_join (F.slot_str_join.check _ _ _ _ _ _ _ _ (typeIs_str _ _ _) (F.args_str_join_2 _ _) ?_))
  show wpAny _ _ (Builtin.«str.join» ⟨[.str z t, .ref s2.heap.objs.size], []⟩) _ _ _
  rw [join_tree_other]
  refine wpAny_bind (wpAny_typeOf hit.typeIs ?_)
  show wpAny _ X.A.in1 ((pyIter (.ref s2.heap.objs.size)).tryCatch _ >>= fun it => collect it >>= fun items => joinTail z items) _ _ _
  refine wpAny_bind (wpAny_tryCatch (wpAny_pyIter_revIter hit ?_))
  refine wpAny_bind (RT.collect_rev (I1.ok.hd hc) hit (hl.push _) ne sm fun h' tk acc hk hi => ?_)
  have I3 : Inv X pins σ H1 { s2 with heap := h', toks := tk } := I2.turned (t' := tk) (fun b o hb e => hk b o hb e) f0 f1 f3 f4 f5
  have rr := RT.vals_rev rv hi
  rw [← List.map_reverse] at rr
  obtain ⟨l, el, em⟩ := strs_pairs rr
  rw [← el]
  have fit : Builtin.Str.tooLong ((l.map (·.1)).toArray.foldl (· + ·.length + z.length) 0) = false := by
    rw [em]
    unfold JoinOk at ok
    rwa [Bool.not_eq_true'] at ok
  have g : Gives (joinTail z (strValues l)) (joinMade z l) := joined_tail z l fit
  refine g X.prog X.w X.A (wants (EP X pins σ Q) X.xe) _ (post_join l ⟨?_, fun t' k => ?_⟩)
  · exact joinFit_length fit
  · rw [em]
    exact ⟨.str _, H1, I3.tok k, ⟨t', rfl⟩, q1⟩
end
end L2.Jk

set_option Elab.async false
set_option linter.all false
set_option maxRecDepth 100000
set_option maxHeartbeats 4000000
/-! Errors raised, instances made where their __init__ may raise, isinstance of flat values. -/
namespace L2.Jk
open PySem PySem.W PySem.Spec PySem.Calls PyProof.Rows

section
variable {X : Cx} {CX : CXT} {k : Nat} {x : Str} {ps : List Str} {sp : Sp} {e : Expr} {es : List Expr} {t : TA} {p pos : Pos} {W : WX}
theorem pe_fnS (G : FnAt X.prog X.w X.K X.mg X.base CX k x ps sp) (hr : Room k X.A) {E : St → XK} (hx : ∀ σ, PassesAt CX X σ (E σ)) (hg : Gl X x) (ha : PA X (e :: es) t)
    (hdb : (x == ("__debug__" : Str)) = false := by decide) (he : starEach (e :: es) X.env = (false, eval e X.env) :: starEach es X.env := by rfl) (hpl : (backTo pos (starEach es X.env)).any (·.1) = false := by rfl) :
    PE X (.Call (.Name x p) (e :: es) [] pos) (tCallS sp E t) := by
  obtain ⟨f, fd, hm, kp, F, hb⟩ := G.ex
  exact pe_callS F hr hg hm kp hb hx ha hdb he hpl
/-! ### an error that is raised -/
def tMkErr (C : Addr) (fs : List Str) (ta : TA) : St → Hp → XK → Prop := fun σ H Q => ta σ H fun vs H1 => vs.length = fs.length ∧ ∀ d H2, H1 d = none → Same H1 H2 → H2 d = some (.xd (fldE fs vs)) → Q (.ref C) (some d) H2
theorem same_raise {H : Hp} {a C d : Addr} {fs : List (Str × V)} (ha : H a = none) (hd : H d = none) (ne : d ≠ a) : Same H (upd (del (mkE H a C d fs) a) d (.xd fs)) := fun b o e => by
  have n1 := ne_of_none e ha
  have n2 := ne_of_none e hd
  rw [upd_ne n2, del_ne n1]
  unfold mkE
  rw [upd_ne n1, upd_ne n2]
  exact e
end
/-- what is wished of an error C(v) that is raised at H -/
def RaiseE (C : Addr) (f : Str) (v : V) (H : Hp) (Q : XK) : Prop := ∀ d H2, H d = none → Same H H2 → H2 d = some (.xd [(f, v)]) → Q (.ref C) (some d) H2
theorem mkO_1 {C : Addr} {f : Str} {v : V} {H : Hp} {Q : XK} (q : RaiseE C f v H Q) : ([v] : List V).length ≤ 1000 ∧ ∀ a, H a = none → spI1 C f (.ref a :: ([v] ++ [])) (upd H a (exo a C none))
    (fun u H2 => u = .non ∧ ∃ (d : Addr) (fs : List (Str × V)), H2 a = some (exo a C (some d)) ∧ H2 d = some (exd d fs) ∧ H d = none ∧ Q (.ref C) (some d) (upd (del H2 a) d (.xd fs))) (fun _ _ _ => False) := by
  refine ⟨by show 1 ≤ 1000; decide, fun a ha => ⟨a, v, rfl, upd_same, fun d hd ne => ⟨rfl, d, [(f, v)], ?_, ?_, ?_, ?_⟩⟩⟩
  · rw [mkE_new ne]
    exact upd_same
  · rw [mkE_new ne]
    unfold mkE
    rw [upd_ne ne, upd_same]
  · rw [upd_ne ne] at hd
    exact hd
  · rw [mkE_new ne]
    rw [upd_ne ne] at hd
    exact q d _ hd (same_raise ha hd ne) upd_same
section
variable {X : Cx} {x : Str} {e : Expr} {es : List Expr} {ta : TA} {p pos : Pos}
/-- raise C(e), C an error of one field -/
theorem pmk_1 {C : Addr} {f z : Str} (T : ErrAt X.prog X.w X.K X.mg X.base x C [f] z) (hr : Room 2 X.A) (hg : Gl X x) (ha : PA X (e :: es) ta)
    (hdb : (x == ("__debug__" : Str)) = false := by decide) (he : starEach (e :: es) X.env = (false, eval e X.env) :: starEach es X.env := by rfl) (hpl : (backTo pos (starEach es X.env)).any (·.1) = false := by rfl) :
    PMk X (.Call (.Name x p) (e :: es) [] pos) (tMkO C (spI1 C f) [] ta) := by
  obtain ⟨fd, hb, iok⟩ := T.iok
  exact pmk_oex (X := X) (ta := ta) T.ex.ec.ox T.ini.1 T.ini.2 iok hr hb .nil pass0 hg T.mgC ha hdb he hpl
/-! ### an instance made by a class whose __init__ may raise -/
structure ClsAt (P : Program) (w : World) (K : Frag) (mg : Str → Option Value) (base : Heap) (CX : CXT) (k : Nat) (x : Str) (C : Addr) (ps : List Str) (sp : Sp) : Prop where
  mgC : mg x = some (.ref C)
  cl : Cls K C
  mkr : Mk K C (He.ma K C "__init__")
  ok : ∃ fd, FnOk P w K mg base CX k (He.ma K C "__init__") fd ps sp ∧ Binds K fd ps []
def tNewS (C : Addr) (sp : Sp) (E : St → XK) (t : TA) : TE := fun σ H Q => t σ H fun vs H1 => ∀ a dx, H1 a = none → H1 dx = none → dx ≠ a → sp (.ref a :: vs) (upd (upd H1 dx (.own a)) a (.ins C dx [])) (fun v H2 => v = .non ∧ Q (.ref a) H2) (E σ)
theorem pe_newS {CX : CXT} {k : Nat} {C : Addr} {ps : List Str} {sp : Sp} {E : St → XK} (G : ClsAt X.prog X.w X.K X.mg X.base CX k x C ps sp) (hr : Room (k + 1) X.A) (hx : ∀ σ, PassesAt CX X σ (E σ)) (hg : Gl X x) (ha : PA X (e :: es) ta)
    (hdb : (x == ("__debug__" : Str)) = false := by decide) (he : starEach (e :: es) X.env = (false, eval e X.env) :: starEach es X.env := by rfl) (hpl : (backTo pos (starEach es X.env)).any (·.1) = false := by rfl) :
    PE X (.Call (.Name x p) (e :: es) [] pos) (tNewS C sp E ta) := by
  obtain ⟨fd, F, hb⟩ := G.ok
  have M := G.mkr
  constructor
  intro pins s σ H Q I h
  refine wpAny_Call_Name_kw (ld_glob I hg G.mgC ?_ hdb)
  refine callWith_K (h₀ := X.base) I.ok.mod.kin M.kp (thn (ha.run pos pins s σ H _ I h) fun us s1 ⟨vs, H1, I1, r, q⟩ => ⟨I1.kIn, ?_⟩) he hpl
  show wpAny _ _ (call (.ref C) us) _ _ _
  have pr := q (s1.heap.objs.size + 1) s1.heap.objs.size (I1.hok.fresh (Nat.le_succ _)) I1.fresh (Nat.ne_of_lt (Nat.lt_succ_self _))
  have I2 := Inv.made (C := C) I1
  have r2 : Vals (V.ref (s1.heap.objs.size + 1) :: vs) (Value.ref (s1.heap.objs.size + 1) :: us) := .cons rfl r
  have hl : (Value.ref (s1.heap.objs.size + 1) :: us).length = ps.length := by
    rw [← r2.length]
    exact F.len _ _ _ _ pr
  have hb' := hb _ (Value.ref (s1.heap.objs.size + 1) :: us) I2.kIn (by rw [List.append_nil]; exact hl)
  rw [List.append_nil] at hb'
  refine wpAny_call (make_map (f := He.ma X.K C "__init__") I1.kIn M.makes M.init (beq_iff_eq.mp M.fn) (codeAny_mono (F.run _ X.stack _ _ ⟨Value.ref (s1.heap.objs.size + 1) :: us, []⟩ (Value.ref (s1.heap.objs.size + 1) :: us) _ _ (E σ) (hr.make C us [])
    (I2.env0.make C us []) hb' r2 pr) fun r s' hq' => ?_))
  cases r with
  | error er => exact hx σ pins _ _ er s' I2 hq'
  | ok fl =>
    cases fl with
    | ret u =>
      obtain ⟨v, H', I3, rv, ev, q3⟩ := I2.after hq'
      subst ev
      exact ⟨rv, ⟨V.ref (s1.heap.objs.size + 1), H', I3, rfl, q3⟩⟩
    | next => exact False.elim hq'
    | brk => exact False.elim hq'
    | cont => exact False.elim hq'
end
/-! ### isinstance of flat values against built-in types -/
def tyN : V → String
  | .non => "NoneType"
  | .bl _ => "bool"
  | .int _ => "int"
  | .str _ => "str"
  | _ => ""
theorem flat_ty {K : Frag} {H : Hp} {v : V} (h : flatV v = true) : TyE K H v (.type (tyN v)) := by
  cases v with
  | non => exact .x (.base .non)
  | bl b => exact .x (.base (.bl b))
  | int i => exact .x (.base (.int i))
  | str z => exact .x (.base (.str z))
  | _ => cases h
def isStr : V → Bool
  | .str _ => true
  | _ => false
/-- an int or a bool -/
def isInt : V → Bool
  | .int _ => true
  | .bl _ => true
  | _ => false
def isBl : V → Bool
  | .bl _ => true
  | _ => false
theorem kit_str {v : V} (h : flatV v = true) : kitB (tyN v) "str" = some (isStr v) := by
  cases v with
  | non => show kitB "NoneType" "str" = some false; decide +kernel
  | bl b => show kitB "bool" "str" = some false; decide +kernel
  | int i => show kitB "int" "str" = some false; decide +kernel
  | str z => show kitB "str" "str" = some true; decide +kernel
  | _ => cases h
theorem kit_int {v : V} (h : flatV v = true) : kitB (tyN v) "int" = some (isInt v) := by
  cases v with
  | non => show kitB "NoneType" "int" = some false; decide +kernel
  | bl b => show kitB "bool" "int" = some true; decide +kernel
  | int i => show kitB "int" "int" = some true; decide +kernel
  | str z => show kitB "str" "int" = some false; decide +kernel
  | _ => cases h
theorem kit_bool {v : V} (h : flatV v = true) : kitB (tyN v) "bool" = some (isBl v) := by
  cases v with
  | non => show kitB "NoneType" "bool" = some false; decide +kernel
  | bl b => show kitB "bool" "bool" = some true; decide +kernel
  | int i => show kitB "int" "bool" = some false; decide +kernel
  | str z => show kitB "str" "bool" = some false; decide +kernel
  | _ => cases h
theorem ie_of {K : Frag} {H : Hp} {v : V} {S T : String} {b : Bool} {Q : VK} (ty : TyE K H v (.type S)) (k : kitB S T = some b) (q : Q (.bl b) H) : rIe K [v, .ty T] H Q :=
  ⟨v, .ty T, .type S, .type T, b, rfl, .ty T, ty, kit_ty k, q⟩
end L2.Jk

set_option Elab.async false
set_option linter.all false
set_option maxRecDepth 100000
set_option maxHeartbeats 4000000
/-! A comprehension over a text; a method of an instance whose class shows in the heap; what happens to an error that is raised in a make. -/
namespace L2.Jk
open PySem PySem.W PySem.Spec PySem.Calls PyProof.Rows

theorem lc_str {x : Str} {g : TG} {tt : TT} {te : TE} {vs : List Nat} {σ : St} {H1 : Hp} {D : Addr} {Qd : Hp → Prop} (Pv : Nat → Hp → Prop) (h0 : Pv 0 (upd H1 D (.lst [])))
    (hs : ∀ (i c : Nat) H, x.cps[i]? = some c → Pv i H → g (.str ⟨#[c]⟩) (wipe σ vs) H fun σ2 H2 => wipe σ2 vs = wipe σ vs ∧ tt σ2 H2 fun b H3 =>
      if b = true then te σ2 H3 fun y H4 => ∃ acc, H4 D = some (.lst acc) ∧ acc.length < sizeLine ∧ Pv (i + 1) (upd H4 D (.lst (acc ++ [y]))) else Pv (i + 1) H3) (hd : ∀ H, Pv x.cps.size H → Qd H) :
    ∃ W : Nat → Nat → Hp → Prop, (∃ m, W 0 m (upd H1 D (.lst []))) ∧ ∀ i m H, W i m H →
      ((Its x).stop i H ∧ Qd H) ∨ ((Its x).go i H ∧ ∃ Nx : Hp → Prop, (∀ H', Nx H' → ∃ m', m' < m ∧ W (i + 1) m' H') ∧ ∀ y H', (Its x).yld i H y H' → g y (wipe σ vs) H' fun σ2 H2 => wipe σ2 vs = wipe σ vs ∧ tt σ2 H2 fun b H3 =>
        if b = true then te σ2 H3 fun y H4 => ∃ acc, H4 D = some (.lst acc) ∧ acc.length < sizeLine ∧ Nx (upd H4 D (.lst (acc ++ [y]))) else Nx H3) := by
  refine ⟨fun i m H => m = x.cps.size - i ∧ i ≤ x.cps.size ∧ Pv i H, ⟨x.cps.size, by simp, Nat.zero_le _, h0⟩, ?_⟩
  rintro i m H ⟨rfl, hi, p⟩
  by_cases hlt : i < x.cps.size
  · refine .inr ⟨hlt, Pv (i + 1), fun H' p' => ⟨x.cps.size - (i + 1), by omega, rfl, hlt, p'⟩, fun y H' z => ?_⟩
    obtain ⟨e, c, hc, ev⟩ := z
    subst e ev
    exact hs i c _ hc p
  · have e : i = x.cps.size := by omega
    subst e
    exact .inl ⟨Nat.le_refl _, hd H p⟩
/-- o.m(e, ..), the class of o as the heap has it -/
def tMethD (X : Cx) (CX : CXT) (m : Str) (E : XK) (ta : TE) (t : TA) : TE := fun σ H Q => ta σ H fun x H1 => ∃ (a C dx f : Addr) (fs : List (Str × V)) (k : Nat) (fd : FuncData) (ps : List Str) (sp : Sp), x = .ref a ∧ H1 a = some (.ins C dx fs) ∧ fs.lookup m = none ∧
  Cls X.K C ∧ Meth X.K C m f ∧ FnOk X.prog X.w X.K X.mg X.base CX k f fd ps sp ∧ Room k X.A ∧ Binds X.K fd ps [] ∧ t σ H1 fun vs H2 => sp (x :: vs) H2 Q E
section
variable {X : Cx} {CX : CXT} {E : XK} {o e : Expr} {es : List Expr} {m : Str} {ta : TE} {t : TA} {apos pos : Pos}
theorem pe_methD {pl : Sem Bool} (he : PE X o ta) (hx : Passes CX X E) (ha : PA X (e :: es) t)
    (hst : starEach (e :: es) X.env = (false, eval e X.env) :: starEach es X.env := by rfl) (hpl : (backTo pos (starEach es X.env)).any (·.1) = false := by rfl)
    (ht : eval (.Call (.Attribute o m apos) (e :: es) [] pos) X.env = (do
      let ov ← eval o X.env
      standAt apos.atName
      let (f, first) ← holding [ov] (getMethod ov m pl)
      callWith pos f first (backTo pos (starEach (e :: es) X.env)) (backToKw pos (keywordEach [] X.env))) := by rfl) :
    PE X (.Call (.Attribute o m apos) (e :: es) [] pos) (tMethD X CX m E ta t) := by
  refine ⟨fun pins s σ H Q I h => ?_⟩
  refine PySem.W.methodCall_KW (pl := pl) (thn (he.run pins s σ H _ I h) fun u s1 hh => ?_) ht
  obtain ⟨x, H1, I1, rx, a, C, dx, f, fs, k, fd, ps, sp, ex, ea, l, c, hm, F, hr, hb, q⟩ := hh
  subst ex
  obtain rfl : u = Value.ref a := rx
  refine getmeth_ok I1 ea c hm l ?_
  refine PySem.W.callWith_K (first := [.ref a]) (h₀ := X.base) I.ok.mod.kin hm.kp (thn (ha.run pos pins s1 σ H1 _ I1 q) fun us s2 ⟨vs, H2, I2, r, q2⟩ => ⟨I2.kIn, ?_⟩) hst hpl
  have q2' : sp (V.ref a :: (vs ++ [])) H2 Q E := by rw [List.append_nil]; exact q2
  exact run_fn (us := .ref a :: us) (vs := .ref a :: vs) (dvs := []) (ds := []) F hr hb .nil hx I2 (.cons rfl r) q2'
end
/-- a call that the reading never comes to -/
theorem fn_never {P : Program} {w : World} {K : Frag} {mg : Str → Option Value} {base : Heap} {CX : CXT} {k : Nat} {f : Addr} {fd : FuncData} {ps : List Str} : FnOk P w K mg base CX k f fd ps (fun _ _ _ _ => False) where
  len := fun _ _ _ _ h => False.elim h
  run := fun _ _ _ _ _ _ _ _ _ _ _ _ _ h => False.elim h
theorem same_new {H : Hp} {a dx C : Addr} {fs : List (Str × V)} (ha : H a = none) (hd : H dx = none) : Same H (upd (upd H dx (.own a)) a (.ins C dx fs)) := fun b o e => by
  rw [upd_ne (ne_of_none e ha), upd_ne (ne_of_none e hd)]
  exact e
theorem same_put {H H1 : Hp} {p : Addr} {o : HO} (S : Same H H1) (n : H p = none) : Same H (upd H1 p o) := fun b u e => by
  rw [upd_ne (ne_of_none e n)]
  exact S b u e
end L2.Jk

set_option Elab.async false
set_option linter.all false
set_option maxRecDepth 100000
set_option maxHeartbeats 4000000
/-! The things that are drawn, and what is told of them. -/
namespace L2.K07
open PySem PySem.W PySem.Spec PySem.Calls PyProof.Rows L2.Jk

/-- a kind of things, by what is true of them -/
structure Menu (α : Type) where
  p : α → Prop
instance {α : Type} : Membership α (Menu α) := ⟨fun m a => m.p a⟩
def lenOf : V → Nat
  | .str z => z.length
  | _ => 0
def vM : Menu V := ⟨fun v => flatV v = true ∧ lenOf v ≤ 20⟩
abbrev sM := vM
abbrev eM := vM
abbrev mQ := vM
def nM : Menu V := ⟨fun v => flatV v = true ∧ ∀ i, v = .int i → i ≤ 300⟩
abbrev hM := nM
/-- what the texts of a listed field are drawn from -/
inductive LX where
  | lst (xs : List V)
  | tup (xs : List V)
  | val (v : V)
  deriving DecidableEq
def LX.els : LX → List V
  | .lst xs => xs
  | .tup xs => xs
  | .val _ => []
def dV : V → PyData
  | .bl b => .bool b
  | .int i => .int i
  | .str z => .str z
  | _ => .none
def lM : Menu LX := ⟨fun x => (x = .lst x.els ∨ x = .tup x.els) ∧ x.els.length ≤ 20 ∧ (∀ v ∈ x.els, v ∈ vM) ∧ SeqAt.shaped (.tuple (x.els.map dV)) = true⟩
def wM : Menu V := ⟨fun v => ∃ i, v = .int i ∧ 1 ≤ i ∧ i < 60⟩

/-- text.strip(signs) == '' -/
def madeB (a b : Str) : Bool := decide (V.str (Txt.stripChars a b) = V.str "")
/-- c in z, c one sign -/
def inB (c z : Str) : Bool := decide (c.cps.getD 0 0 ∈ z.cps.toList)
def isSignB : V → Bool
  | .str z => (z.length == 1) && inB z SG
  | _ => false
def areB : V → Bool
  | .str z => madeB z SG
  | _ => false
def sgB : V → Bool
  | .str z => z.cps.toList.all fun c => decide (c ∈ SG.cps.toList)
  | _ => false
def numB : V → Bool
  | .int _ => true
  | _ => false
def lenV : V → Nat
  | .str z => z.length
  | _ => 0
/-- signs that stand twice -/
def twB : V → Bool
  | .str z => decide ((newS (fun i => ⟨#[z.cps.getD i 0]⟩) z.cps.size : Nat) < z.length)
  | _ => false
def sBad (v : V) : Bool := !areB v || (decide (v = .str "") || twB v)
def ltV : V → V → Bool
  | .int a, .int b => decide (a < b)
  | _, _ => false
def bDue (l m : V) : Option Str :=
  if (!numB l || ltV l (.int 0)) = true then some "least" else if (!decide (m = .non) && (!numB m || ltV m l)) = true then some "most" else none
def wDue (w : V) : Option Str := if (!numB w || ltV w (.int 1)) = true then some "width" else none
/-- the texts of a list, if all are texts of signs -/
def strV : V → Str
  | .str z => z
  | _ => ""
def xsBad (xs : List V) : Bool := !xs.all areB || decide ((newS (fun i => (xs.map strV).getD i Str.empty) (xs.map strV).length : Nat) < xs.length)
def lxDue : LX → Option Str
  | .val _ => some "texts"
  | .lst xs => if (decide (xs.length = 0) || xsBad xs) = true then some "texts" else none
  | .tup xs => if (decide (xs.length = 0) || xsBad xs) = true then some "texts" else none
def eDue (s e l m : V) : Option Str :=
  if sBad s = true then some "signs" else if (!isSignB e || inB (strV e) (strV s)) = true then some "sign" else bDue l m
def oDue (s l m : V) : Option Str := if sBad s = true then some "signs" else bDue l m
inductive PD where
  | word (s l m : V)
  | number (l m : V)
  | fixed (w : V)
  | listed (x : LX)
  | ended (s e l m : V)
def PD.due : PD → Option Str
  | .word s l m => oDue s l m
  | .number l m => bDue l m
  | .fixed w => wDue w
  | .listed x => lxDue x
  | .ended s e l m => eDue s e l m
def PD.In : PD → Prop
  | .word s l m => s ∈ sM ∧ l ∈ nM ∧ m ∈ nM
  | .number l m => l ∈ nM ∧ m ∈ hM
  | .fixed w => w ∈ wM
  | .listed x => x ∈ lM
  | .ended s e l m => s ∈ sM ∧ e ∈ eM ∧ l ∈ nM ∧ m ∈ nM
/-- has a sign: what the program asks -/
def dg (n : Int) : Str := Txt.join "" [(toString n : Str)]
def wwB (s m : V) (c : Str) : Bool := inB c (strV s) && !decide (m = .int 0)
def intV : V → Int
  | .int i => i
  | _ => 0
def PD.has (c : Str) : PD → Bool
  | .word s _ m => wwB s m c
  | .number l m => if (decide (m = .non) || decide (9 ≤ intV m - intV l)) = true then inB c DG else (List.range (intV m + 1 - intV l).toNat).any fun (i : Nat) => inB c (dg (intV l + i))
  | .fixed _ => inB c DG
  | .listed x => x.els.any fun v => inB c (strV v)
  | .ended s e _ m => decide (V.str c = e) || wwB s m c
inductive OD where
  | val (v : V)
  | pl (d : PD)
  | mk (n m : V) (i : OD)
def iDue (n m : V) : OD → Option Str
  | .pl d => if (d.has (strV n) || d.has (strV m)) = true then some "field" else none
  | _ => some "field"
def OD.due : OD → Option Str
  | .val _ => none
  | .pl d => d.due
  | .mk n m i => if (!isSignB n) = true then some "none" else if (!isSignB m || decide (m = n)) = true then some "mark" else iDue n m i
theorem one_of {z : Str} (h : z.length = 1) : z = ⟨#[z.cps.getD 0 0]⟩ := by
  obtain ⟨a⟩ := z
  have h : a.size = 1 := h
  cases e : a.toList with
  | nil =>
    have z : a.toList.length = 1 := by rw [Array.length_toList]; exact h
    rw [e] at z
    cases z
  | cons x xs =>
    have z : a.toList.length = 1 := by rw [Array.length_toList]; exact h
    rw [e] at z
    have e2 : xs = [] := List.length_eq_zero_iff.mp (Nat.succ.inj z)
    have e3 : a = #[x] := by rw [← Array.toArray_toList (xs := a), e, e2]
    rw [e3]
    rfl
theorem vM_facts (v : V) (h : v ∈ vM) : flatV v = true ∧ True ∧ True ∧ lenV v ≤ 20 := by
  obtain ⟨h1, h2⟩ := (show flatV v = true ∧ lenOf v ≤ 20 from h)
  refine ⟨h1, trivial, trivial, ?_⟩
  cases v <;> exact h2
theorem one_sign (v : V) (_ : v ∈ vM) (h : lenV v = 1) : v = .str ⟨#[(strV v).cps.getD 0 0]⟩ := by
  cases v with
  | str z => exact congrArg V.str (one_of h)
  | _ => cases h
theorem bDue_none {l m : V} (h : bDue l m = none) : (∃ i, l = .int i ∧ 0 ≤ i) ∧ (m = .non ∨ ∃ j, m = .int j ∧ 0 ≤ j) := by
  unfold bDue at h
  split at h
  · cases h
  · rename_i h1
    split at h
    · cases h
    · rename_i h2
      cases l with
      | int i =>
        have hi : 0 ≤ i := by
          have z : ¬ (decide (i < 0)) = true := fun e => h1 (by show (!true || decide (i < 0)) = true; rw [e]; rfl)
          have : ¬ i < 0 := fun e => z (decide_eq_true e)
          omega
        refine ⟨⟨i, rfl, hi⟩, ?_⟩
        cases m with
        | non => exact .inl rfl
        | int j =>
          refine .inr ⟨j, rfl, ?_⟩
          have z : ¬ (decide (j < i)) = true := fun e => h2 (by show (!decide (V.int j = .non) && (!true || decide (j < i))) = true; rw [e, decide_eq_false (fun z => nomatch z)]; rfl)
          have : ¬ j < i := fun e => z (decide_eq_true e)
          omega
        | _ => exact absurd (by rw [decide_eq_false (fun z => nomatch z)]; rfl) h2
      | _ => exact absurd rfl h1
theorem sBad_str {s : V} (h : sBad s = false) : ∃ z, s = .str z := by
  cases s with
  | str z => exact ⟨z, rfl⟩
  | _ => cases h
theorem scal_flat {v : V} (h : flatV v = true) : scal v v = true := by cases v <;> first | rfl | cases h
theorem oDue_none {s l m : V} (h : oDue s l m = none) : sBad s = false ∧ bDue l m = none := by
  unfold oDue at h
  split at h
  · cases h
  · rename_i k
    exact ⟨Bool.eq_false_iff.mpr k, h⟩
theorem eDue_none {s e l m : V} (h : eDue s e l m = none) : sBad s = false ∧ isSignB e = true ∧ bDue l m = none := by
  unfold eDue at h
  split at h
  · cases h
  · rename_i k
    split at h
    · cases h
    · rename_i k2
      refine ⟨Bool.eq_false_iff.mpr k, ?_, h⟩
      cases z : isSignB e with
      | true => rfl
      | false => exact absurd (by rw [z]; rfl) k2
theorem sign_one {v : V} (h : isSignB v = true) : v = .str ⟨#[(strV v).cps.getD 0 0]⟩ ∧ True := by
  cases v with
  | str z =>
    have k : (z.length == 1) = true := (Bool.and_eq_true_iff.mp h).1
    exact ⟨congrArg V.str (one_of (by simpa using k)), trivial⟩
  | _ => cases h
theorem sM_vM {v : V} (h : v ∈ sM) : v ∈ vM := h
theorem eM_vM {v : V} (h : v ∈ eM) : v ∈ vM := h
theorem mQ_vM {v : V} (h : v ∈ mQ) : v ∈ vM := h
theorem nh {v : V} (h : v ∈ nM) : v ∈ hM := h
theorem word_due (s : V) (_ : s ∈ sM) (l : V) (_ : l ∈ nM) (m : V) (_ : m ∈ nM) (h : oDue s l m = none) : s = .str (strV s) ∧ scal m (.int 0) = true ∧ (scal s s && (scal l l && scal m m)) = true := by
  obtain ⟨h1, h2⟩ := oDue_none h
  obtain ⟨z, rfl⟩ := sBad_str h1
  obtain ⟨⟨i, rfl, _⟩, rfl | ⟨j, rfl, _⟩⟩ := bDue_none h2 <;> exact ⟨rfl, rfl, rfl⟩
theorem num_due (l : V) (hl : l ∈ nM) (m : V) (hm : m ∈ hM) (h : bDue l m = none) : l = .int (intV l) ∧ (m = .non ∨ m = .int (intV m)) ∧ 0 ≤ intV l ∧ intV l ≤ 300 ∧ 0 ≤ intV m ∧ (intV m ≤ 300 ∨ 110 ≤ intV m ∧ intV m ≤ 999999999) ∧ (scal l l && scal m m) = true := by
  obtain ⟨⟨i, rfl, hi⟩, rfl | ⟨j, rfl, hj⟩⟩ := bDue_none h
  · exact ⟨rfl, .inl rfl, hi, hl.2 i rfl, Int.le_refl _, .inl (by decide), rfl⟩
  · exact ⟨rfl, .inr rfl, hi, hl.2 i rfl, hj, .inl (hm.2 j rfl), rfl⟩
theorem fix_due (w : V) (h : w ∈ wM) (_ : wDue w = none) : scal w w = true := by
  obtain ⟨i, rfl, _⟩ := h
  rfl
theorem lx_bad {x : LX} (hx : x ∈ lM) (h : lxDue x = none) : x.els.all areB = true ∧ x.els ≠ [] := by
  obtain ⟨k, _⟩ := hx
  have z : (if (decide (x.els.length = 0) || xsBad x.els) = true then (some "texts" : Option Str) else none) = none := by
    rcases k with k | k <;> (rw [k] at h ⊢; exact h)
  split at z
  · cases z
  · rename_i h1
    refine ⟨?_, fun e => h1 (by rw [e]; rfl)⟩
    cases q : x.els.all areB with
    | true => rfl
    | false => exact absurd (by unfold xsBad; rw [q]; show (_ || (true || _)) = true; rw [Bool.true_or, Bool.or_true]) h1
theorem are_str {v : V} (h : areB v = true) : v = .str (strV v) := by
  cases v with
  | str z => rfl
  | _ => cases h
theorem lst_due (x : LX) (hx : x ∈ lM) (h : lxDue x = none) : (∀ v ∈ x.els, v = .str (strV v)) ∧ x.els.length ≤ 20 ∧ x.els ≠ [] := by
  obtain ⟨h1, h2⟩ := lx_bad hx h
  exact ⟨fun v hv => are_str (List.all_eq_true.mp h1 v hv), hx.2.1, h2⟩
theorem lst_are (x : LX) (hx : x ∈ lM) (h : lxDue x = none) : x.els.all areB = true := (lx_bad hx h).1
theorem end_due (s : V) (_ : s ∈ sM) (e : V) (_ : e ∈ eM) (l : V) (_ : l ∈ nM) (m : V) (_ : m ∈ nM) (h : eDue s e l m = none) : s = .str (strV s) ∧ e = .str ⟨#[(strV e).cps.getD 0 0]⟩ ∧ scal m (.int 0) = true ∧ (scal s s && (scal e e && (scal l l && scal m m))) = true := by
  obtain ⟨h1, h2, h3⟩ := eDue_none h
  obtain ⟨z, rfl⟩ := sBad_str h1
  have ee := (sign_one h2).1
  refine ⟨rfl, ee, ?_⟩
  rw [ee]
  obtain ⟨⟨i, rfl, _⟩, rfl | ⟨j, rfl, _⟩⟩ := bDue_none h3 <;> exact ⟨rfl, rfl⟩
theorem nM_flat (v : V) (h : v ∈ hM) : flatV v = true := h.1
theorem wM_flat (v : V) (h : v ∈ wM) : flatV v = true := by
  obtain ⟨i, rfl, _⟩ := h
  rfl
theorem lM_vM (x : LX) (h : x ∈ lM) : (∀ v ∈ x.els, v ∈ vM) ∧ x.els.length ≤ 20 := ⟨h.2.2.1, h.2.1⟩
theorem lM_val (x : LX) (h : x ∈ lM) : x = .val (.str "ab") ∨ x = .val .non ∨ (x = .lst x.els ∨ x = .tup x.els) := .inr (.inr h.1)
theorem eM_one (e : V) (_ : e ∈ eM) (h : isSignB e = true) : e = .str ⟨#[(strV e).cps.getD 0 0]⟩ := (sign_one h).1
theorem sM_str (s : V) (_ : s ∈ sM) (h : sBad s = false) : s = .str (strV s) := by
  obtain ⟨z, rfl⟩ := sBad_str h
  rfl
theorem mQ_one (v : V) (_ : v ∈ mQ) (h : isSignB v = true) : v = .str ⟨#[(strV v).cps.getD 0 0]⟩ ∧ True := sign_one h
theorem lM_shaped (x : LX) (hx : x ∈ lM) (h : lxDue x = none) : x.els.all flatV = true ∧ SeqAt.shaped (.tuple (x.els.map dV)) = true :=
  ⟨List.all_eq_true.mpr fun v hv => (hx.2.2.1 v hv).1, hx.2.2.2⟩
theorem word_all (s : V) (_ : s ∈ sM) (l : V) (_ : l ∈ nM) (m : V) (_ : m ∈ nM) (h : oDue s l m = none) : s = .str (strV s) ∧ l = .int (intV l) ∧ (m = .non ∨ m = .int (intV m)) := by
  obtain ⟨h1, h2⟩ := oDue_none h
  obtain ⟨z, rfl⟩ := sBad_str h1
  obtain ⟨⟨i, rfl, _⟩, rfl | ⟨j, rfl, _⟩⟩ := bDue_none h2
  · exact ⟨rfl, rfl, .inl rfl⟩
  · exact ⟨rfl, rfl, .inr rfl⟩
theorem end_all (s : V) (_ : s ∈ sM) (e : V) (_ : e ∈ eM) (l : V) (_ : l ∈ nM) (m : V) (_ : m ∈ nM) (h : eDue s e l m = none) : s = .str (strV s) ∧ e = .str (strV e) ∧ l = .int (intV l) ∧ (m = .non ∨ m = .int (intV m)) ∧ (strV e).length ≤ 10 := by
  obtain ⟨h1, h2, h3⟩ := eDue_none h
  obtain ⟨z, rfl⟩ := sBad_str h1
  have ee := (sign_one h2).1
  have el : (strV e).length ≤ 10 := by rw [ee]; show 1 ≤ 10; decide
  have e2 : e = .str (strV e) := by
    cases e with
    | str y => rfl
    | _ => cases h2
  obtain ⟨⟨i, rfl, _⟩, rfl | ⟨j, rfl, _⟩⟩ := bDue_none h3
  · exact ⟨rfl, e2, rfl, .inl rfl, el⟩
  · exact ⟨rfl, e2, rfl, .inr rfl, el⟩
end L2.K07

set_option Elab.async false
set_option linter.all false
set_option maxRecDepth 100000
set_option maxHeartbeats 4000000
/-! Things that may be asked for their class: flat values, lists, tuples, dicts. -/
namespace L2.Jk
open PySem PySem.W PySem.Spec PySem.Calls PyProof.Rows
def Thg (H : Hp) (v : V) : Prop := flatV v = true ∨ ∃ p, v = .ref p ∧ ((∃ xs, H p = some (.lst xs)) ∨ (∃ xs, H p = some (.tup xs)) ∨ ∃ kvs, H p = some (.dK kvs))
theorem Thg.same {H H' : Hp} {v : V} (S : Same H H') : Thg H v → Thg H' v
  | .inl h => .inl h
  | .inr ⟨p, e, .inl ⟨xs, h⟩⟩ => .inr ⟨p, e, .inl ⟨xs, S _ _ h⟩⟩
  | .inr ⟨p, e, .inr (.inl ⟨xs, h⟩)⟩ => .inr ⟨p, e, .inr (.inl ⟨xs, S _ _ h⟩)⟩
  | .inr ⟨p, e, .inr (.inr ⟨xs, h⟩)⟩ => .inr ⟨p, e, .inr (.inr ⟨xs, S _ _ h⟩)⟩
theorem thg_ty {K : Frag} {H : Hp} {v : V} (h : Thg H v) : ∃ T : String, TyE K H v (.type T) ∧ kitB T "str" = some (isStr v) ∧ kitB T "int" = some (isInt v) ∧ kitB T "bool" = some (isBl v) := by
  rcases h with h | ⟨p, rfl, ⟨xs, h⟩ | ⟨xs, h⟩ | ⟨kvs, h⟩⟩
  · exact ⟨_, flat_ty h, kit_str h, kit_int h, kit_bool h⟩
  · exact ⟨"list", .x (.base (.lst h)), by show kitB "list" "str" = some false; decide +kernel, by show kitB "list" "int" = some false; decide +kernel, by show kitB "list" "bool" = some false; decide +kernel⟩
  · exact ⟨"tuple", .x (.base (.tup h)), by show kitB "tuple" "str" = some false; decide +kernel, by show kitB "tuple" "int" = some false; decide +kernel, by show kitB "tuple" "bool" = some false; decide +kernel⟩
  · exact ⟨"dict", .x (.base (.dK h)), by show kitB "dict" "str" = some false; decide +kernel, by show kitB "dict" "int" = some false; decide +kernel, by show kitB "dict" "bool" = some false; decide +kernel⟩
end L2.Jk

set_option Elab.async false
set_option linter.all false
set_option maxRecDepth 100000
set_option maxHeartbeats 4000000
namespace L2.K07
open PySem PySem.W PySem.Spec PySem.Calls PyProof.Rows L2.Jk



/-! ### the law's own numbers: a list of three -/
def StAt (H : Hp) (a : Addr) : Prop := ∃ p q r : Int, H a = some (.lst [.int p, .int q, .int r]) ∧ 0 ≤ p ∧ 0 ≤ q ∧ q < 2147483700 ∧ 0 ≤ r
def spSource : Sp := fun vs H Q _ => ∃ n : Int, vs = [.int n] ∧ ∀ a H', H a = none → Same H H' → StAt H' a → Q (.ref a) H'
def spDraw : Sp := fun vs H Q _ => ∃ (a : Addr) (b : Int), vs = [.ref a, .int b] ∧ StAt H a ∧ 0 < b ∧ b < 1073741824 ∧ ∀ d H', 0 ≤ d → d < b → But a H H' → StAt H' a → Q (.int d) H'
theorem abs_line (n : Int) : 0 ≤ (if n < 0 then -n else n) * (if decide (10 ^ (18 : Int).toNat ≤ (if n < 0 then -n else n)) = true then 1 else 0) := by
  by_cases h : n < 0
  · simp only [if_pos h]
    split <;> omega
  · simp only [if_neg h]
    split <;> omega

structure Bl (mg : Str → Option Value) : Prop where
  abs : mg "abs" = none
  int : mg "int" = none
  bool : mg "bool" = none
  isinstance : mg "isinstance" = none
  range : mg "range" = none
  len : mg "len" = none
  set : mg "set" = none
  type : mg "type" = none
  str : mg "str" = none
  reversed : mg "reversed" = none
  tuple : mg "tuple" = none
  list : mg "list" = none
  any : mg "any" = none
  all : mg "all" = none

theorem bit_line (c : Prop) [Decidable c] : -(2 ^ 64) < (if c then (1 : Int) else 0) ∧ (if c then (1 : Int) else 0) < 2 ^ 64 := by
  split <;> exact ⟨by decide, by decide⟩
/-- the module's own names, the error class -/
structure G0 (P : Program) (w : World) (K : Frag) (mg : Str → Option Value) (base : Heap) : Prop extends Bl mg where
  sg : ∃ t, mg "SIGNS" = some (.str SG t)
  dgs : ∃ t, mg "DIGITS" = some (.str DG t)
  bf : ErrAt P w K mg base "BadField" (He.ga K "BadField") ["what"] "refused badfield"
section
variable {P : Program} {w : World} {K : Frag} {mg : Str → Option Value} {base : Heap} {f : Addr} {fd : FuncData}

theorem pe_sg {X : Cx} {x : Str} {z : Str} {pos : Pos} (h : ∃ t, X.mg x = some (.str z t)) (hg : Gl X x := by rfl) (hd : (x == ("__debug__" : Str)) = false := by decide) : PE X (.Name x pos) (tC (.str z)) := by
  obtain ⟨t, h⟩ := h
  exact pe_glob (v := .str z) hg h ⟨t, rfl⟩ hd

def spMade : Sp := fun vs H Q _ => ∃ a b : Str, vs = [.str a, .str b] ∧ a.length ≤ 1000 ∧ Q (.bl (madeB a b)) H
def spV (p : V → Bool) : Sp := fun vs H Q _ => ∃ v : V, vs = [v] ∧ v ∈ vM ∧ Q (.bl (p v)) H
def spNumT : Sp := fun vs H Q _ => ∃ v : V, vs = [v] ∧ Thg H v ∧ Q (.bl (numB v)) H
def spNum : Sp := fun vs H Q _ => ∃ v : V, vs = [v] ∧ flatV v = true ∧ Q (.bl (numB v)) H
def spDig : Sp := fun vs H Q _ => ∃ n : Int, vs = [.int n] ∧ 0 ≤ n ∧ n < 400 ∧ ∀ H', Same H H' → Q (.str (dg n)) H'
theorem small_line (z : Str) (h : z.length ≤ 1000) : z.length ≤ sizeLine := by
  rw [sizeLine_eq]
  omega

abbrev s_made_of : Stmt := top 10
theorem sc_made_of : FnScope ["text", "signs"] ["text", "signs"] (defScope s_made_of) := ⟨rfl, rfl, rfl, by decide +kernel, rfl, by decide +kernel, by decide +kernel⟩

theorem ok_made_of (F : FunD K "is_made_of" "is_made_of" (defArgs s_made_of) (defBody s_made_of) (defScope s_made_of) [] [] f fd) (G : G0 P w K mg base) : FnOk P w K mg base CX0 1 f fd ["text", "signs"] spMade := by
  refine F.ok (CX := CX0) sc_made_of (fun vs H Q E h => ?_) (fun cdv A outer s H vs Q E hr h => ?_)
  · obtain ⟨a, b, rfl, _⟩ := h
    rfl
  · refine ⟨_, PSs.nox (pss_one (ps_ret (pe_cmpR op_eq (pe_bm PySem.F.plainAttrs_str PySem.F.slot_str_strip PySem.F.type_str_strip mt_stripChars (pv 0) (pa_cons (pv 1) pa_nil)) pe_str (nomark _)))), ?_⟩
    obtain ⟨a, b, rfl, hz, q⟩ := h
    exact ⟨_, rfl, rfl, _, rfl, a, b, rfl, rfl, small_line a hz, rfl, q⟩

abbrev s_is_sign : Stmt := top 11
theorem sc_is_sign : FnScope ["thing"] ["thing"] (defScope s_is_sign) := ⟨rfl, rfl, rfl, by decide +kernel, rfl, by decide +kernel, by decide +kernel⟩

theorem ok_is_sign (F : FunD K "is_sign" "is_sign" (defArgs s_is_sign) (defBody s_is_sign) (defScope s_is_sign) [] [] f fd) (G : G0 P w K mg base) : FnOk P w K mg base CX0 1 f fd ["thing"] (spV isSignB) := by
  refine F.ok (CX := CX0) sc_is_sign (fun vs H Q E h => ?_) (fun cdv A outer s H vs Q E hr h => ?_)
  · obtain ⟨v, rfl, _⟩ := h
    rfl
  · refine ⟨_, PSs.nox (pss_one (ps_ret (pe_and (pe_callB call_ie (by rfl) G.isinstance (by decide +kernel) (pa_cons (pv 0) (pa_cons (pe_bty (n := "str") (by rfl) G.str (by decide +kernel)) pa_nil))) (pe_and (pe_cmpR op_eq (pe_callB call_len_str (by rfl) G.len (by decide +kernel) (pa_cons (pv 0) pa_nil)) pe_int (nomark _)) (pe_one (pe_cmpR op_in_sign (pv 0) (pe_sg G.sg) (by rfl))))))), ?_⟩
    obtain ⟨v, rfl, hv, q⟩ := h
    obtain ⟨hf, _, _, hz⟩ := vM_facts v hv
    refine ⟨_, rfl, _, _, _, _, _, rfl, .ty _, flat_ty hf, kit_ty (kit_str hf), _, rfl, ?_⟩
    cases v with
    | str z =>
      refine iteT ⟨_, rfl, z, rfl, small_line z (Nat.le_trans hz (by decide)), rfl, _, rfl, ?_⟩
      refine ite2 (fun h1 => ?_) (fun h1 => ?_)
      · have h1' : z.length = 1 := by have := of_decide_eq_true h1; simp at this; omega
        have e := one_sign (.str z) hv h1'
        refine ⟨_, rfl, _, SG, e, rfl, ?_⟩
        have r : isSignB (.str z) = decide (z.cps.getD 0 0 ∈ SG.cps.toList) := by show ((z.length == 1) && inB z SG) = _; rw [h1']; rfl
        rw [r] at q
        exact q
      · have h1' : z.length ≠ 1 := fun e => h1 (by rw [e]; rfl)
        have r : isSignB (.str z) = false := by show ((z.length == 1) && inB z SG) = _; rw [beq_eq_false_iff_ne.mpr h1']; rfl
        rw [r] at q
        exact q
    | non => exact iteF q
    | bl b => exact iteF q
    | int i => exact iteF q
    | _ => cases hf

abbrev s_is_numberT : Stmt := top 14
theorem sc_is_numberT : FnScope ["thing"] ["thing"] (defScope s_is_numberT) := ⟨rfl, rfl, rfl, by decide +kernel, rfl, by decide +kernel, by decide +kernel⟩

theorem ok_is_numberT (F : FunD K "is_number" "is_number" (defArgs s_is_numberT) (defBody s_is_numberT) (defScope s_is_numberT) [] [] f fd) (G : G0 P w K mg base) : FnOk P w K mg base CX0 1 f fd ["thing"] spNumT := by
  refine F.ok (CX := CX0) sc_is_numberT (fun vs H Q E h => ?_) (fun cdv A outer s H vs Q E hr h => ?_)
  · obtain ⟨v, rfl, _⟩ := h
    rfl
  · refine ⟨_, PSs.nox (pss_one (ps_ret (pe_and (pe_callB call_ie (by rfl) G.isinstance (by decide +kernel) (pa_cons (pv 0) (pa_cons (pe_bty (n := "int") (by rfl) G.int (by decide +kernel)) pa_nil))) (pe_one (pe_not (pe_callB call_ie (by rfl) G.isinstance (by decide +kernel) (pa_cons (pv 0) (pa_cons (pe_bty (n := "bool") (by rfl) G.bool (by decide +kernel)) pa_nil)))))))), ?_⟩
    obtain ⟨v, rfl, hf, q⟩ := h
    obtain ⟨T, ty, ks, ki, kb⟩ := thg_ty (K := K) hf
    refine ⟨_, rfl, _, _, _, _, _, rfl, .ty _, ty, kit_ty ki, _, rfl, ?_⟩
    cases v with
    | bl b => exact iteT ⟨_, rfl, _, _, _, _, _, rfl, .ty _, ty, kit_ty kb, _, rfl, q⟩
    | int i => exact iteT ⟨_, rfl, _, _, _, _, _, rfl, .ty _, ty, kit_ty kb, _, rfl, q⟩
    | _ => exact iteF q

theorem ok_is_number (F : FunD K "is_number" "is_number" (defArgs s_is_numberT) (defBody s_is_numberT) (defScope s_is_numberT) [] [] f fd) (G : G0 P w K mg base) : FnOk P w K mg base CX0 1 f fd ["thing"] spNum := (ok_is_numberT F G).imp fun vs H Q E ⟨v, e, h, q⟩ => ⟨v, e, .inl h, q⟩
theorem dg_ok : ∀ n ∈ List.range 400, JoinOk "" [(toString (n : Int) : Str)] = true := by decide +kernel
theorem dg_log : ∀ n ∈ List.range 400, (n : Int).natAbs.log2 < 1920 := by decide +kernel

abbrev s_digits_of : Stmt := top 15
theorem sc_digits_of : FnScope ["number", "limit", "pieces", "piece"] ["number"] (defScope s_digits_of) := ⟨rfl, rfl, rfl, by decide +kernel, rfl, by decide +kernel, by decide +kernel⟩

theorem ok_digits_of (F : FunD K "digits_of" "digits_of" (defArgs s_digits_of) (defBody s_digits_of) (defScope s_digits_of) [] [] f fd) (G : G0 P w K mg base) : FnOk P w K mg base CX0 1 f fd ["number"] spDig := by
  refine F.ok (CX := CX0) sc_digits_of (fun vs H Q E h => ?_) (fun cdv A outer s H vs Q E hr h => ?_)
  · obtain ⟨n, rfl, _⟩ := h
    rfl
  · refine ⟨_, PSs.nox (pss_cons (ps_set (i := 1) sc_digits_of.nd rfl (Or.inl rfl) (pe_op op_pow pe_int pe_int))
    (pss_cons (ps_set (i := 2) sc_digits_of.nd rfl (Or.inl rfl) (pe_lstS pa_nil))
    (pss_cons (ps_while PassesOwn.never (pt_cmpR op_ge (pv 0) (pv 1) (nomark _)) pss_never)
    (pss_cons (ps_expr (pe_bm PySem.F.plainAttrs_list PySem.F.slot_list_append PySem.F.type_list_append mt_append (pv 2) (pa_cons (pe_callTy call_str_int (by rfl) G.str (by decide +kernel) (pa_cons (pv 0) pa_nil)) pa_nil)))
    (pss_one (ps_ret (pe_joinRev rfl (by rfl) G.reversed pe_str (pv 2)))))))), ?_⟩
    obtain ⟨n, rfl, h0, h1, q⟩ := h
    obtain ⟨k, rfl⟩ : ∃ k : Nat, n = (k : Int) := ⟨n.toNat, by omega⟩
    have hk : k ∈ List.range 400 := List.mem_range.mpr (by omega)
    refine ⟨_, _, rfl, rfl, ⟨by decide, by decide, by decide⟩, ?_⟩
    refine ⟨by show 0 ≤ 1000; decide, fun p H1 hp S e => ?_⟩
    refine ⟨fun m σ' H' => m = 0 ∧ σ' = [some (.int (k : Int)), some (.int (10 ^ (64 : Int).toNat)), some (.ref p), none] ∧ H' = H1, ⟨0, rfl, rfl, rfl⟩, ?_⟩
    rintro m σ' H' ⟨rfl, rfl, rfl⟩
    refine ⟨_, rfl, _, rfl, _, _, rfl, rfl, _, rfl, ?_⟩
    refine ite2 (fun hf => ?_) (fun _ => ?_)
    · have z := of_decide_eq_true hf
      have e : (10 : Int) ^ (64 : Int).toNat = 10000000000000000000000000000000000000000000000000000000000000000 := by decide +kernel
      rw [e] at z
      omega
    refine ⟨_, rfl, .inl ⟨rfl, _, SqL.of e⟩, _, rfl, _, rfl, dg_log k hk, p, _, _, rfl, rfl, e, (by rw [sizeLine_eq]; decide), ?_⟩
    refine ⟨_, rfl, _, rfl, p, [(toString (k : Int) : Str)], rfl, SqL.of upd_same, dg_ok k hk, ?_⟩
    exact q _ (same_put S hp)

structure G1 (P : Program) (w : World) (K : Frag) (mg : Str → Option Value) (base : Heap) : Prop extends G0 P w K mg base where
  is_made_of : FnAt P w K mg base CX0 1 "is_made_of" ["text", "signs"] spMade
  is_sign : FnAt P w K mg base CX0 1 "is_sign" ["thing"] (spV isSignB)
  is_number : FnAt P w K mg base CX0 1 "is_number" ["thing"] spNum
  digits_of : FnAt P w K mg base CX0 1 "digits_of" ["number"] spDig

abbrev s_are_signs : Stmt := top 12
theorem sc_are_signs : FnScope ["thing"] ["thing"] (defScope s_are_signs) := ⟨rfl, rfl, rfl, by decide +kernel, rfl, by decide +kernel, by decide +kernel⟩

theorem ok_are_signs (F : FunD K "are_signs" "are_signs" (defArgs s_are_signs) (defBody s_are_signs) (defScope s_are_signs) [] [] f fd) (G : G1 P w K mg base) : FnOk P w K mg base CX0 2 f fd ["thing"] (spV areB) := by
  refine F.ok (CX := CX0) sc_are_signs (fun vs H Q E h => ?_) (fun cdv A outer s H vs Q E hr h => ?_)
  · obtain ⟨v, rfl, _⟩ := h
    rfl
  · refine ⟨_, PSs.nox (pss_one (ps_ret (pe_and (pe_callB call_ie (by rfl) G.isinstance (by decide +kernel) (pa_cons (pv 0) (pa_cons (pe_bty (n := "str") (by rfl) G.str (by decide +kernel)) pa_nil))) (pe_one (pe_fn G.is_made_of hr pass0 (by rfl) (pa_cons (pv 0) (pa_cons (pe_sg G.sg) pa_nil))))))), ?_⟩
    obtain ⟨v, rfl, hv, q⟩ := h
    obtain ⟨hf, _, _, hz⟩ := vM_facts v hv
    refine ⟨_, rfl, _, _, _, _, _, rfl, .ty _, flat_ty hf, kit_ty (kit_str hf), _, rfl, ?_⟩
    cases v with
    | str z => exact iteT ⟨_, rfl, z, SG, rfl, Nat.le_trans hz (by decide), q⟩
    | non => exact iteF q
    | bl b => exact iteF q
    | int i => exact iteF q
    | _ => cases hf

structure G2 (P : Program) (w : World) (K : Frag) (mg : Str → Option Value) (base : Heap) : Prop extends G1 P w K mg base where
  are_signs : FnAt P w K mg base CX0 2 "are_signs" ["thing"] (spV areB)
def spChkS (K : Frag) : Sp := fun vs H Q E => ∃ v : V, vs = [v] ∧ v ∈ sM ∧ (sBad v = false → Q .non H) ∧ (sBad v = true → RaiseE (BF K) "what" (.str "signs") H E)
def spChkB (K : Frag) : Sp := fun vs H Q E => ∃ l m : V, vs = [l, m] ∧ flatV l = true ∧ flatV m = true ∧ (bDue l m = none → Q .non H) ∧ (∀ z, bDue l m = some z → RaiseE (BF K) "what" (.str z) H E)

abbrev s_check_signs : Stmt := top 17
theorem sc_check_signs : FnScope ["signs"] ["signs"] (defScope s_check_signs) := ⟨rfl, rfl, rfl, by decide +kernel, rfl, by decide +kernel, by decide +kernel⟩

theorem ok_check_signs (F : FunD K "check_signs" "check_signs" (defArgs s_check_signs) (defBody s_check_signs) (defScope s_check_signs) [] [] f fd) (G : G2 P w K mg base) : FnOk P w K mg base (L2.CX P w) 3 f fd ["signs"] (spChkS K) := by
  refine F.ok (CX := (L2.CX P w)) sc_check_signs (fun vs H Q E h => ?_) (fun cdv A outer s H vs Q E hr h => ?_)
  · obtain ⟨v, rfl, _⟩ := h
    rfl
  · have hr2 : Room 2 _ := hr
    refine ⟨_, (pss_one (ps_if (PW.pt (pw_or (pt_not (pt_val (pe_fn G.are_signs hr2 pass0 (by rfl) (pa_cons (pv 0) pa_nil)))) (pw_or (pt_cmpR op_eq (pv 0) pe_str (nomark _)) (pw_or1 (pt_cmpR op_lt (pe_lenSetStr rfl (by rfl) G.len (by rfl) G.set (pv 0)) (pe_callB call_len_str (by rfl) G.len (by decide +kernel) (pa_cons (pv 0) pa_nil)) (nomark _))))))
      (pss_one (ps_raise rfl (takes_of rfl rfl rfl rfl) (pmk_1 G.bf hr2 (by rfl) (pa_cons pe_str pa_nil))))
      pss_nil)), ?_⟩
    obtain ⟨v, rfl, hv, q1, q2⟩ := h
    obtain ⟨hf, _, _, hz⟩ := vM_facts v (sM_vM hv)
    refine ⟨_, rfl, v, rfl, sM_vM hv, _, rfl, ?_⟩
    have bad : ∀ h : sBad v = true, _ := fun h => mkO_1 (q2 h)
    show if (!areB v) = true then _ else _
    refine ite2 (fun h1 => bad (by show (!areB v || _) = true; rw [h1]; rfl)) (fun h1 => ?_)
    cases v with
    | str z =>
      refine ⟨_, rfl, rfl, _, rfl, ?_⟩
      refine ite2 (fun h2 => bad (by show (_ || (decide _ || _)) = true; rw [h2]; exact Bool.or_true _)) (fun h2 => ?_)
      refine ⟨_, rfl, z, rfl, Nat.le_trans hz (by decide), _, rfl, z, rfl, small_line z (Nat.le_trans hz (by decide)), _, _, rfl, rfl, _, rfl, ?_⟩
      refine ite2 (fun h3 => bad ?_) (fun h3 => q1 ?_)
      · have h4 : twB (.str z) = true := decide_eq_true (by have := of_decide_eq_true h3; omega)
        show (_ || (_ || twB (.str z))) = true
        rw [h4, Bool.or_true, Bool.or_true]
      · have h4 : twB (.str z) = false := decide_eq_false (fun h => h3 (decide_eq_true (by omega)))
        show (!areB (.str z) || (decide (V.str z = .str "") || twB (.str z))) = false
        rw [h4, Bool.eq_false_iff.mpr h1, Bool.eq_false_iff.mpr h2]
        rfl
    | _ => exact absurd rfl h1

abbrev s_check_span : Stmt := top 18
theorem sc_check_span : FnScope ["least", "most"] ["least", "most"] (defScope s_check_span) := ⟨rfl, rfl, rfl, by decide +kernel, rfl, by decide +kernel, by decide +kernel⟩

theorem ok_check_span (F : FunD K "check_span" "check_span" (defArgs s_check_span) (defBody s_check_span) (defScope s_check_span) [] [] f fd) (G : G2 P w K mg base) : FnOk P w K mg base (L2.CX P w) 3 f fd ["least", "most"] (spChkB K) := by
  refine F.ok (CX := (L2.CX P w)) sc_check_span (fun vs H Q E h => ?_) (fun cdv A outer s H vs Q E hr h => ?_)
  · obtain ⟨l, m, rfl, _⟩ := h
    rfl
  · have hr2 : Room 2 _ := hr
    refine ⟨_, (pss_cons (ps_if (PW.pt (pw_or (pt_not (pt_val (pe_fn G.is_number (hr2.mono (by decide)) pass0 (by rfl) (pa_cons (pv 0) pa_nil)))) (pw_or1 (pt_cmpR op_lt (pv 0) pe_int (nomark _)))))
      (pss_one (ps_raise rfl (takes_of rfl rfl rfl rfl) (pmk_1 G.bf hr2 (by rfl) (pa_cons pe_str pa_nil))))
      pss_nil)
    (pss_one (ps_if (PW.pt (pw_and (pt_cmpR op_notN (pv 1) pe_non (nomark _)) (pw_and1 (PW.pt (pw_or (pt_not (pt_val (pe_fn G.is_number (hr2.mono (by decide)) pass0 (by rfl) (pa_cons (pv 1) pa_nil)))) (pw_or1 (pt_cmpR op_lt (pv 1) (pv 0) (nomark _))))))))
      (pss_one (ps_raise rfl (takes_of rfl rfl rfl rfl) (pmk_1 G.bf hr2 (by rfl) (pa_cons pe_str pa_nil))))
      pss_nil))), ?_⟩
    obtain ⟨l, m, rfl, hl, hm, q1, q2⟩ := h
    refine ⟨_, rfl, l, rfl, hl, _, rfl, ?_⟩
    show if (!numB l) = true then _ else _
    refine ite2 (fun h1 => mkO_1 (q2 _ (by show (if (!numB l || _) = true then _ else _) = _; rw [h1]; rfl))) (fun h1 => ?_)
    cases l with
    | int i =>
      refine ⟨_, rfl, _, _, rfl, rfl, _, rfl, ?_⟩
      refine ite2 (fun h2 => mkO_1 (q2 _ (by show (if (_ || decide (i < 0)) = true then _ else _) = _; rw [h2]; rfl))) (fun h2 => ?_)
      refine ⟨_, rfl, rfl, _, rfl, ?_⟩
      have e0 : bDue (.int i) m = if (!decide (m = .non) && (!numB m || ltV m (.int i))) = true then (some "most" : Option Str) else none := by
        show (if (!true || decide (i < 0)) = true then _ else _) = _
        rw [Bool.eq_false_iff.mpr h2]
        rfl
      rw [e0] at q1 q2
      refine ite2 (fun h3 => ?_) (fun h3 => q1 (by rw [Bool.eq_false_iff.mpr h3]; rfl))
      refine ⟨_, rfl, m, rfl, hm, _, rfl, ?_⟩
      show if (!numB m) = true then _ else _
      refine ite2 (fun h4 => mkO_1 (q2 _ (by rw [h3, h4]; rfl))) (fun h4 => ?_)
      cases m with
      | int j =>
        refine ⟨_, rfl, _, rfl, _, _, rfl, rfl, _, rfl, ?_⟩
        refine ite2 (fun h5 => mkO_1 (q2 _ (by show (if (_ && (_ || decide (j < i))) = true then _ else _) = _; rw [h3, h5]; rfl))) (fun h5 => q1 (by show (if (_ && (!true || decide (j < i))) = true then _ else _) = _; rw [h3, Bool.eq_false_iff.mpr h5]; rfl))
      | _ => exact absurd rfl h4
    | _ => exact absurd rfl h1

def spHww (K : Frag) : Sp := fun vs H Q _ => ∃ (a C dx : Addr) (fs : List (Str × V)) (c : Nat) (z : Str) (m : V), vs = [.ref a, .str ⟨#[c]⟩] ∧ H a = some (.ins C dx fs) ∧ Cls K C ∧ NoAttr K C "signs" ∧ NoAttr K C "most" ∧ fs.lookup ("signs" : Str) = some (.str z) ∧ fs.lookup ("most" : Str) = some m ∧
  scal m (.int 0) = true ∧ Q (.bl (wwB (.str z) m ⟨#[c]⟩)) H

abbrev s_has_words : Stmt := top 19
theorem sc_has_words : FnScope ["field", "sign"] ["field", "sign"] (defScope s_has_words) := ⟨rfl, rfl, rfl, by decide +kernel, rfl, by decide +kernel, by decide +kernel⟩

theorem ok_has_words (F : FunD K "has_words_with" "has_words_with" (defArgs s_has_words) (defBody s_has_words) (defScope s_has_words) [] [] f fd) (G : G0 P w K mg base) : FnOk P w K mg base CX0 1 f fd ["field", "sign"] (spHww K) := by
  refine F.ok (CX := CX0) sc_has_words (fun vs H Q E h => ?_) (fun cdv A outer s H vs Q E hr h => ?_)
  · obtain ⟨a, C, dx, fs, c, z, m, rfl, _⟩ := h
    rfl
  · refine ⟨_, PSs.nox (pss_one (ps_ret (pe_and (pe_cmpR op_in_sign (pv 1) (pe_fld (pv 0) rfl) (by rfl)) (pe_one (pe_cmpR op_ne (pe_fld (pv 0) rfl) pe_int (nomark _)))))), ?_⟩
    obtain ⟨a, C, dx, fs, c, z, m, rfl, ha, hC, n1, n2, l1, l2, sc, q⟩ := h
    refine ⟨_, rfl, _, rfl, a, C, dx, fs, _, rfl, ha, hC, n1, l1, c, z, rfl, rfl, _, rfl, ?_⟩
    refine ite2 (fun h1 => ?_) (fun h1 => ?_)
    · refine ⟨_, rfl, a, C, dx, fs, _, rfl, ha, hC, n2, l2, sc, ?_⟩
      have e : wwB (.str z) m ⟨#[c]⟩ = !decide (m = .int 0) := by show (decide (c ∈ z.cps.toList) && _) = _; rw [h1]; rfl
      rw [e] at q
      exact q
    · have e : wwB (.str z) m ⟨#[c]⟩ = false := by show (decide (c ∈ z.cps.toList) && _) = _; rw [Bool.eq_false_iff.mpr h1]; rfl
      rw [e] at q
      exact q

end
end L2.K07

set_option Elab.async false
set_option linter.all false
set_option maxRecDepth 100000
set_option maxHeartbeats 4000000
/-! 'x' * n, n at least 1. -/
namespace L2.Jk
open PySem PySem.W PySem.Spec PySem.Calls PyProof.Rows
def repS (z : Str) (i : Int) : Str := ⟨(List.replicate i.toNat z.cps).foldl (· ++ ·) #[]⟩
/-- it may be done -/
def repOk (z : Str) (i : Int) : Bool := decide (1 ≤ i) && (decide (i < 1000) && (decide (z.length = 1) && (!Builtin.Str.tooLong (z.length * i.toNat) && decide ((repS z i).length ≤ 16777216))))
theorem op_mulStr {X : Cx} : OpR X (binaryOp .Mult) (fun x y H Q => ∃ (z : Str) (i : Int), x = .str z ∧ y = .int i ∧ repOk z i = true ∧ Q (.str (repS z i)) H) := by
  intro pins s σ H x y v u Q I rx ry h
  obtain ⟨z, i, rfl, rfl, ok, q⟩ := h
  obtain ⟨t, rfl⟩ := rx
  obtain ⟨t', rfl⟩ := ry
  obtain ⟨o1, ok⟩ := Bool.and_eq_true_iff.mp ok
  obtain ⟨o2, ok⟩ := Bool.and_eq_true_iff.mp ok
  obtain ⟨o3, ok⟩ := Bool.and_eq_true_iff.mp ok
  obtain ⟨o4, o5⟩ := Bool.and_eq_true_iff.mp ok
  replace o1 := of_decide_eq_true o1
  replace o2 := of_decide_eq_true o2
  replace o3 := of_decide_eq_true o3
  replace o5 := of_decide_eq_true o5
  have e1 : ¬ i < 1 := by omega
  by_cases h1 : i = 1
  · subst h1
    have er : repS z 1 = z := by
      obtain ⟨c⟩ := z
      show (⟨(List.replicate 1 c).foldl (· ++ ·) #[]⟩ : Str) = ⟨c⟩
      simp
    rw [er] at q
    refine P.mul_str (by decide) (fun _ h => absurd h (by simp)) (fun _ h => absurd h (by simp)) ?_
    rw [if_neg e1, if_pos (show ((1 : Int) == 1 || z.length == 0) = true from rfl)]
    exact ⟨.str z, H, I, ⟨t, rfl⟩, q⟩
  have e2 : (i == 1 || z.length == 0) = false := by
    rw [o3, show (i == 1) = false from beq_eq_false_iff_ne.mpr h1]
    rfl
  refine P.mul_str (by rw [decide_eq_false (by omega), decide_eq_false (by omega)]; rfl) (fun _ _ => ?_) (fun _ _ => by rwa [Bool.not_eq_true'] at o4) ?_
  · rw [o3]
    have h2 : (1 : Int) ≤ (2 ^ 63 - 1) / i := Int.le_ediv_of_mul_le (by omega) (by omega)
    omega
  · rw [if_neg e1, e2]
    exact ⟨by rw [sizeLine_eq]; exact o5, ⟨.str _, H, I.tok _, ⟨_, rfl⟩, q⟩⟩
end L2.Jk

set_option Elab.async false
set_option linter.all false
set_option maxRecDepth 100000
set_option maxHeartbeats 4000000
/-! Tuples of which it is known that they have no dict: made, their methods called. -/
namespace L2.Jk
open PySem PySem.W PySem.Spec PySem.Calls PyProof.Rows
/-- at t: a tuple of these items, an object without a dict -/
def TupZ (H : Hp) (t : Addr) (xs : List V) : Prop := ∃ o : Obj, o.cls = .type "tuple" ∧ o.dict = none ∧ H t = some (.frz o (.tup xs))
theorem TupZ.same {H H' : Hp} {t : Addr} {xs : List V} (S : Same H H') (h : TupZ H t xs) : TupZ H' t xs := by
  obtain ⟨o, c, d, e⟩ := h
  exact ⟨o, c, d, S _ _ e⟩
theorem TupZ.sq {K : Frag} {H : Hp} {t : Addr} {xs : List V} (h : TupZ H t xs) : SqT K H t xs := by
  obtain ⟨o, c, d, e⟩ := h
  exact .inl (.inr ⟨o, e⟩)
section
variable {X : Cx}
def rTupZ (K : Frag) : List V → Hp → VK → Prop := fun xs H Q => ∃ p ys, xs = [.ref p] ∧ ((SqL K H p ys ∧ ∀ l H', H l = none → Same H H' → TupZ H' l ys → Q (.ref l) H') ∨ (SqT K H p ys ∧ Q (.ref p) H))
theorem call_tupleZ : CallR X (.type "tuple") (rTupZ X.K) := by
  intro pins s σ H xs us Q I r h
  obtain ⟨p, ys, rfl, h⟩ := h
  obtain ⟨u, rfl, rx⟩ := vals1 r
  cases rx
  rcases h with ⟨hq, q⟩ | ⟨hq, q⟩
  · obtain ⟨its, r', pl, hz⟩ := I.list hq
    have hlen := r'.length
    refine call_tuple_list pl.isList (fun h' kp => ?_) (by simp only [List.size_toArray] <;> omega)
    have I1 : Inv X pins σ H { s with heap := h' } := I.kept (t' := s.toks) kp
    have I2 : Inv X pins σ (upd H h'.objs.size (.frz { cls := .type "tuple", data := .seq its.toArray } (.tup ys))) { s with heap := h'.push { cls := .type "tuple", data := .seq its.toArray } } :=
      I1.laid (t' := s.toks) (fun b o e => Heap.get?_push_of_some _ e) (Nat.le_refl _) ⟨Heap.get?_push_size _ rfl, show ObjOk X.prog X.w _ _ _ (.tup ys) from ⟨hz, its, r', IsTup.new _ _⟩⟩
    have n := I1.hok.fresh (a := h'.objs.size) (Nat.le_refl _)
    exact ⟨.ref h'.objs.size, _, I2, rfl, q _ _ n (same_upd n) ⟨_, rfl, rfl, upd_same⟩⟩
  · obtain ⟨its, r', pl, hz⟩ := I.tuple hq
    exact call_tuple_same pl ⟨.ref p, H, I, rfl, q⟩
/-- a tuple display -/
def tTupZ (t : TA) : TE := fun σ H Q => t σ H fun xs H1 => xs.length ≤ 1000 ∧ ∀ p H', H1 p = none → Same H1 H' → TupZ H' p xs → Q (.ref p) H'
theorem pe_tupZ {es : List Expr} {t : TA} {pos : Pos} {k} (ha : PA X es t) : PE X (.Tuple es k pos) (tTupZ t) := by
  constructor
  intro pins s σ H Q I h
  refine wpAny_Tuple_spliced (thn (ha.run pos pins s σ H _ I h) fun us s1 ⟨xs, H1, I1, r, z, q⟩ => ?_)
  have z' := Nat.le_of_lt (small1000 z)
  have n : H1 s1.heap.objs.size = none := I1.fresh
  refine ⟨by rw [← r.length]; exact z', .ref s1.heap.objs.size, _, I1.laid (t' := s1.toks) (o := .frz { cls := .type "tuple", data := .seq us.toArray } (.tup xs)) (fun b u e => Heap.get?_push_of_some _ e) (Nat.le_refl _) ?_, rfl, q _ _ n (same_upd n) ⟨_, rfl, rfl, upd_same⟩⟩
  exact ⟨Heap.get?_push_size _ rfl, z', us, r, IsTup.new _ _⟩
/-- o.m(e, ..) of such a tuple -/
def tBMZ (r : V → List V → Hp → VK → Prop) (to : TE) (t : TA) : TE := fun σ H Q => to σ H fun x H1 => (∃ p xs, x = .ref p ∧ TupZ H1 p xs) ∧ t σ H1 fun xs H2 => r x xs H2 Q
variable {o e : Expr} {es : List Expr} {to : TE} {t : TA} {name : Str} {apos cpos : Pos} {id : String} {r : V → List V → Hp → VK → Prop}
theorem pe_bmZ (slot : Slot "tuple" name id) (hty : typeOf (.builtin id) = pure (.type "method_descriptor")) (pa : PlainAttrs "tuple") (hm : MtR X id r) (ho : PE X o to) (ha : PA X (e :: es) t)
    (hbase : attributeBase o name X.env (eval o X.env) = eval o X.env := by rfl)
    (hfew : ((backTo cpos (starEach (e :: es) X.env)).all (fun x => !x.1) && (backToKw cpos (keywordEach [] X.env)).all (fun x => x.1.isSome)
      && decide ((e :: es).length + ([] : List Keyword).length + (if ([] : List Keyword).isEmpty then 0 else 1) < 30)) = true := by rfl)
    (hline : (apos.endLine == cpos.line) = true := by rfl) (hs : starEach (e :: es) X.env = (false, eval e X.env) :: starEach es X.env := by rfl) (hplain : (backTo cpos (starEach es X.env)).any (·.1) = false := by rfl) :
    PE X (.Call (.Attribute o name apos) (e :: es) [] cpos) (tBMZ r to t) := by
  refine ⟨fun pins s σ H Q I h => ?_⟩
  refine wpAny_Call_method_late hbase hfew hline rfl (thn (ho.run pins s σ H _ I h) fun v s1 ⟨x, H1, I1, r1, ⟨p, ys, ex, ob, hc, hd, hp⟩, q1⟩ => ?_)
  subst ex
  obtain rfl : v = Value.ref p := r1
  obtain ⟨hg, _⟩ := (show s1.heap.get? p = some ob ∧ ObjOk X.prog X.w H1 s1.heap p (.tup ys) from I1.hok p _ hp)
  refine ⟨"tuple", id, pa, slot, hty, ⟨ob, hg, hc⟩, (fun a e => by cases e; exact ⟨ob, hg, hd⟩), ?_⟩
  have hA := ha.run cpos pins s1 σ H1 _ I1 q1
  rw [hs] at hA ⊢
  refine Calls.callWith_builtin (by show (false || (backTo cpos (starEach es X.env)).any (·.1)) = false; rw [hplain] <;> rfl) (Calls.evalArgs_plain ?_)
  exact thn hA fun us s2 ⟨vs, H2, I2, r2, q2⟩ => hm pins s2 σ H2 (.ref p) vs (.ref p) us Q I2 rfl r2 q2
end
end L2.Jk

set_option Elab.async false
set_option linter.all false
set_option maxRecDepth 100000
set_option maxHeartbeats 4000000
namespace L2.K07
open PySem PySem.W PySem.Spec PySem.Calls PyProof.Rows L2.Jk
section
variable {P : Program} {w : World} {K : Frag} {mg : Str → Option Value} {base : Heap} {f : Addr} {fd : FuncData}

/-- a field class: its name, its attributes -/
structure C0 (K : Frag) (mg : Str → Option Value) (x : Str) (fs : List Str) : Prop where
  mgC : mg x = some (.ref (He.ga K x))
  cl : Cls K (He.ga K x)
  no : ∀ f ∈ fs, NoAttr K (He.ga K x) f

def fWord (s l m : V) : List (Str × V) := (putF "most" m (putF "least" l (putF "signs" s [])))
theorem lWord_signs {s l m : V} : (fWord s l m).lookup ("signs" : Str) = some s := by unfold fWord; rw [lookup_putF, if_neg (by decide +kernel)]; rw [lookup_putF, if_neg (by decide +kernel)]; rw [lookup_putF, if_pos rfl]
theorem lWord_least {s l m : V} : (fWord s l m).lookup ("least" : Str) = some l := by unfold fWord; rw [lookup_putF, if_neg (by decide +kernel)]; rw [lookup_putF, if_pos rfl]
theorem lWord_most {s l m : V} : (fWord s l m).lookup ("most" : Str) = some m := by unfold fWord; rw [lookup_putF, if_pos rfl]
theorem lWord_hs {s l m : V} : (fWord s l m).lookup ("has_sign" : Str) = none := by unfold fWord; rw [lookup_putF, if_neg (by decide +kernel)]; rw [lookup_putF, if_neg (by decide +kernel)]; rw [lookup_putF, if_neg (by decide +kernel)]; rfl
def fNumber (l m : V) : List (Str × V) := (putF "most" m (putF "least" l []))
theorem lNumber_least {l m : V} : (fNumber l m).lookup ("least" : Str) = some l := by unfold fNumber; rw [lookup_putF, if_neg (by decide +kernel)]; rw [lookup_putF, if_pos rfl]
theorem lNumber_most {l m : V} : (fNumber l m).lookup ("most" : Str) = some m := by unfold fNumber; rw [lookup_putF, if_pos rfl]
theorem lNumber_hs {l m : V} : (fNumber l m).lookup ("has_sign" : Str) = none := by unfold fNumber; rw [lookup_putF, if_neg (by decide +kernel)]; rw [lookup_putF, if_neg (by decide +kernel)]; rfl
def fFixed (w : V) : List (Str × V) := (putF "width" w [])
theorem lFixed_width {w : V} : (fFixed w).lookup ("width" : Str) = some w := by unfold fFixed; rw [lookup_putF, if_pos rfl]
theorem lFixed_hs {w : V} : (fFixed w).lookup ("has_sign" : Str) = none := by unfold fFixed; rw [lookup_putF, if_neg (by decide +kernel)]; rfl
def fListed (x : V) : List (Str × V) := (putF "texts" x [])
theorem lListed_texts {x : V} : (fListed x).lookup ("texts" : Str) = some x := by unfold fListed; rw [lookup_putF, if_pos rfl]
theorem lListed_hs {x : V} : (fListed x).lookup ("has_sign" : Str) = none := by unfold fListed; rw [lookup_putF, if_neg (by decide +kernel)]; rfl
def fEnded (s e l m : V) : List (Str × V) := (putF "most" m (putF "least" l (putF "sign" e (putF "signs" s []))))
theorem lEnded_signs {s e l m : V} : (fEnded s e l m).lookup ("signs" : Str) = some s := by unfold fEnded; rw [lookup_putF, if_neg (by decide +kernel)]; rw [lookup_putF, if_neg (by decide +kernel)]; rw [lookup_putF, if_neg (by decide +kernel)]; rw [lookup_putF, if_pos rfl]
theorem lEnded_sign {s e l m : V} : (fEnded s e l m).lookup ("sign" : Str) = some e := by unfold fEnded; rw [lookup_putF, if_neg (by decide +kernel)]; rw [lookup_putF, if_neg (by decide +kernel)]; rw [lookup_putF, if_pos rfl]
theorem lEnded_least {s e l m : V} : (fEnded s e l m).lookup ("least" : Str) = some l := by unfold fEnded; rw [lookup_putF, if_neg (by decide +kernel)]; rw [lookup_putF, if_pos rfl]
theorem lEnded_most {s e l m : V} : (fEnded s e l m).lookup ("most" : Str) = some m := by unfold fEnded; rw [lookup_putF, if_pos rfl]
theorem lEnded_hs {s e l m : V} : (fEnded s e l m).lookup ("has_sign" : Str) = none := by unfold fEnded; rw [lookup_putF, if_neg (by decide +kernel)]; rw [lookup_putF, if_neg (by decide +kernel)]; rw [lookup_putF, if_neg (by decide +kernel)]; rw [lookup_putF, if_neg (by decide +kernel)]; rfl
def fMarked (n k y : V) : List (Str × V) := (putF "field" y (putF "mark" k (putF "none" n [])))
theorem lMarked_none {n k y : V} : (fMarked n k y).lookup ("none" : Str) = some n := by unfold fMarked; rw [lookup_putF, if_neg (by decide +kernel)]; rw [lookup_putF, if_neg (by decide +kernel)]; rw [lookup_putF, if_pos rfl]
theorem lMarked_mark {n k y : V} : (fMarked n k y).lookup ("mark" : Str) = some k := by unfold fMarked; rw [lookup_putF, if_neg (by decide +kernel)]; rw [lookup_putF, if_pos rfl]
theorem lMarked_field {n k y : V} : (fMarked n k y).lookup ("field" : Str) = some y := by unfold fMarked; rw [lookup_putF, if_pos rfl]
theorem lMarked_hs {n k y : V} : (fMarked n k y).lookup ("has_sign" : Str) = none := by unfold fMarked; rw [lookup_putF, if_neg (by decide +kernel)]; rw [lookup_putF, if_neg (by decide +kernel)]; rw [lookup_putF, if_neg (by decide +kernel)]; rfl

/-- the field d stands at a -/
def FieldAt (K : Frag) (H : Hp) (a : Addr) : PD → Prop
  | .word s l m => ∃ dx, H a = some (.ins (He.ga K "Word") dx (fWord s l m))
  | .number l m => ∃ dx, H a = some (.ins (He.ga K "Number") dx (fNumber l m))
  | .fixed w => ∃ dx, H a = some (.ins (He.ga K "Fixed") dx (fFixed w))
  | .listed x => ∃ dx t, H a = some (.ins (He.ga K "Listed") dx (fListed (.ref t))) ∧ TupZ H t x.els
  | .ended s e l m => ∃ dx, H a = some (.ins (He.ga K "Ended") dx (fEnded s e l m))
theorem FieldAt.same {H H' : Hp} {a : Addr} (S : Same H H') : ∀ {d : PD}, FieldAt K H a d → FieldAt K H' a d
  | .word .., ⟨dx, h⟩ => ⟨dx, S _ _ h⟩
  | .number .., ⟨dx, h⟩ => ⟨dx, S _ _ h⟩
  | .fixed _, ⟨dx, h⟩ => ⟨dx, S _ _ h⟩
  | .listed _, ⟨dx, t, h, k⟩ => ⟨dx, t, S _ _ h, k.same S⟩
  | .ended .., ⟨dx, h⟩ => ⟨dx, S _ _ h⟩
/-- of values that are taken -/
structure G3 (P : Program) (w : World) (K : Frag) (mg : Str → Option Value) (base : Heap) : Prop extends G2 P w K mg base where
  check_signs : FnAt P w K mg base (L2.CX P w) 3 "check_signs" ["signs"] (spChkS K)
  check_span : FnAt P w K mg base (L2.CX P w) 3 "check_span" ["least", "most"] (spChkB K)
  has_words_with : FnAt P w K mg base CX0 1 "has_words_with" ["field", "sign"] (spHww K)
  cWord : C0 K mg "Word" ["signs", "least", "most"]
  cNumber : C0 K mg "Number" ["least", "most"]
  cFixed : C0 K mg "Fixed" ["width"]
  cListed : C0 K mg "Listed" ["texts"]
  cEnded : C0 K mg "Ended" ["signs", "sign", "least", "most"]
  cMarked : C0 K mg "Marked" ["none", "mark", "field"]

def spWord (K : Frag) : Sp := fun vs H Q E => ∃ (a dx : Addr) (s l m : V), vs = [.ref a, s, l, m] ∧ H a = some (.ins (He.ga K "Word") dx []) ∧ s ∈ sM ∧ l ∈ nM ∧ m ∈ nM ∧ (oDue s l m = none → Q .non (upd H a (.ins (He.ga K "Word") dx (fWord s l m)))) ∧
  ∀ z, oDue s l m = some z → RaiseE (BF K) "what" (.str z) H E

abbrev s_Word_init : Stmt := inClass (top 20) 0
theorem sc_Word_init : FnScope ["self", "signs", "least", "most"] ["self", "signs", "least", "most"] (defScope s_Word_init) := ⟨rfl, rfl, rfl, by decide +kernel, rfl, by decide +kernel, by decide +kernel⟩

theorem ok_Word_init (F : FunD K "__init__" "Word.__init__" (defArgs s_Word_init) (defBody s_Word_init) (defScope s_Word_init) [] [] f fd) (G : G3 P w K mg base) : FnOk P w K mg base (L2.CX P w) 4 f fd ["self", "signs", "least", "most"] (spWord K) := by
  refine F.ok (CX := (L2.CX P w)) sc_Word_init (fun vs H Q E h => ?_) (fun cdv A outer s H vs Q E hr h => ?_)
  · obtain ⟨a, dx, s, l, m, rfl, _⟩ := h
    rfl
  · have hr3 : Room 3 _ := hr
    refine ⟨_, (pss_cons (ps_expr (pe_fnS G.check_signs hr3 (fun σ => passAt (takes_of rfl rfl rfl rfl) σ) (by rfl) (pa_cons (pv 1) pa_nil)))
    (pss_cons (ps_expr (pe_fnS G.check_span hr3 (fun σ => passAt (takes_of rfl rfl rfl rfl) σ) (by rfl) (pa_cons (pv 2) (pa_cons (pv 3) pa_nil))))
    (pss_cons (ps_fld (pv 0) (pv 1) rfl)
    (pss_cons (ps_fld (pv 0) (pv 2) rfl)
    (pss_one (ps_fld (pv 0) (pv 3) rfl)))))), ?_⟩
    obtain ⟨a, dx, s, l, m, rfl, ha, hs, hl, hm, q1, q2⟩ := h
    refine ⟨_, rfl, s, rfl, hs, fun e1 => ?_, fun e1 => q2 _ (by unfold oDue; rw [if_pos e1])⟩
    have e0 : oDue s l m = bDue l m := by unfold oDue; rw [e1]; rfl
    rw [e0] at q1 q2
    refine ⟨_, rfl, _, rfl, l, m, rfl, nM_flat l (nh hl), nM_flat m (nh hm), fun e2 => ?_, fun z e2 => q2 z e2⟩
    refine ⟨_, rfl, _, rfl, a, _, dx, _, rfl, ha, G.cWord.cl, G.cWord.no _ (by decide +kernel), (by show 0 < 1000; decide), _, rfl, _, rfl, a, _, dx, _, rfl, upd_same, G.cWord.cl, G.cWord.no _ (by decide +kernel), (by show 1 < 1000; decide), _, rfl, _, rfl, a, _, dx, _, rfl, upd_same, G.cWord.cl, G.cWord.no _ (by decide +kernel), (by show 2 < 1000; decide), ?_⟩
    have z := q1 e2
    show Q .non _
    rw [upd_upd, upd_upd]
    exact z

theorem pi_or {X : Cx} {tg e : Expr} {t1 t2 : TI} (h1 : PI X tg e t1) (h2 : PI X tg e t2) : PI X tg e (fun σ H R => t1 σ H R ∨ t2 σ H R) :=
  ⟨fun pins s σ H R I h => h.elim (h1.run pins s σ H R I) (h2.run pins s σ H R I)⟩
def spNumber (K : Frag) : Sp := fun vs H Q E => ∃ (a dx : Addr) (l m : V), vs = [.ref a, l, m] ∧ H a = some (.ins (He.ga K "Number") dx []) ∧ l ∈ nM ∧ m ∈ hM ∧ (bDue l m = none → Q .non (upd H a (.ins (He.ga K "Number") dx (fNumber l m)))) ∧
  ∀ z, bDue l m = some z → RaiseE (BF K) "what" (.str z) H E

abbrev s_Number_init : Stmt := inClass (top 21) 0
theorem sc_Number_init : FnScope ["self", "least", "most"] ["self", "least", "most"] (defScope s_Number_init) := ⟨rfl, rfl, rfl, by decide +kernel, rfl, by decide +kernel, by decide +kernel⟩

theorem ok_Number_init (F : FunD K "__init__" "Number.__init__" (defArgs s_Number_init) (defBody s_Number_init) (defScope s_Number_init) [] [] f fd) (G : G3 P w K mg base) : FnOk P w K mg base (L2.CX P w) 4 f fd ["self", "least", "most"] (spNumber K) := by
  refine F.ok (CX := (L2.CX P w)) sc_Number_init (fun vs H Q E h => ?_) (fun cdv A outer s H vs Q E hr h => ?_)
  · obtain ⟨a, dx, l, m, rfl, _⟩ := h
    rfl
  · have hr3 : Room 3 _ := hr
    refine ⟨_, (pss_cons (ps_expr (pe_fnS G.check_span hr3 (fun σ => passAt (takes_of rfl rfl rfl rfl) σ) (by rfl) (pa_cons (pv 1) (pa_cons (pv 2) pa_nil))))
    (pss_cons (ps_fld (pv 0) (pv 1) rfl)
    (pss_one (ps_fld (pv 0) (pv 2) rfl)))), ?_⟩
    obtain ⟨a, dx, l, m, rfl, ha, hl, hm, q1, q2⟩ := h
    refine ⟨_, rfl, _, rfl, l, m, rfl, nM_flat l (nh hl), nM_flat m hm, fun e2 => ?_, fun z e2 => q2 z e2⟩
    refine ⟨_, rfl, _, rfl, a, _, dx, _, rfl, ha, G.cNumber.cl, G.cNumber.no _ (by decide +kernel), (by show 0 < 1000; decide), _, rfl, _, rfl, a, _, dx, _, rfl, upd_same, G.cNumber.cl, G.cNumber.no _ (by decide +kernel), (by show 1 < 1000; decide), ?_⟩
    have z := q1 e2
    show Q .non _
    rw [upd_upd]
    exact z

def spFixed (K : Frag) : Sp := fun vs H Q E => ∃ (a dx : Addr) (v : V), vs = [.ref a, v] ∧ H a = some (.ins (He.ga K "Fixed") dx []) ∧ v ∈ wM ∧ (wDue v = none → Q .non (upd H a (.ins (He.ga K "Fixed") dx (fFixed v)))) ∧
  ∀ z, wDue v = some z → RaiseE (BF K) "what" (.str z) H E

abbrev s_Fixed_init : Stmt := inClass (top 22) 0
theorem sc_Fixed_init : FnScope ["self", "width"] ["self", "width"] (defScope s_Fixed_init) := ⟨rfl, rfl, rfl, by decide +kernel, rfl, by decide +kernel, by decide +kernel⟩

theorem ok_Fixed_init (F : FunD K "__init__" "Fixed.__init__" (defArgs s_Fixed_init) (defBody s_Fixed_init) (defScope s_Fixed_init) [] [] f fd) (G : G3 P w K mg base) : FnOk P w K mg base (L2.CX P w) 4 f fd ["self", "width"] (spFixed K) := by
  refine F.ok (CX := (L2.CX P w)) sc_Fixed_init (fun vs H Q E h => ?_) (fun cdv A outer s H vs Q E hr h => ?_)
  · obtain ⟨a, dx, v, rfl, _⟩ := h
    rfl
  · have hr3 : Room 3 _ := hr
    have hr2 : Room 2 _ := hr.mono (by decide)
    refine ⟨_, (pss_cons (ps_if (PW.pt (pw_or (pt_not (pt_val (pe_fn G.is_number (hr2.mono (by decide)) pass0 (by rfl) (pa_cons (pv 1) pa_nil)))) (pw_or1 (pt_cmpR op_lt (pv 1) pe_int (nomark _)))))
      (pss_one (ps_raise rfl (takes_of rfl rfl rfl rfl) (pmk_1 G.bf hr2 (by rfl) (pa_cons pe_str pa_nil))))
      pss_nil)
    (pss_one (ps_fld (pv 0) (pv 1) rfl))), ?_⟩
    obtain ⟨a, dx, v, rfl, ha, hv, q1, q2⟩ := h
    refine ⟨_, rfl, v, rfl, wM_flat v hv, _, rfl, ?_⟩
    show if (!numB v) = true then _ else _
    refine ite2 (fun h1 => mkO_1 (q2 _ (by show (if (!numB v || _) = true then _ else _) = _; rw [h1]; rfl))) (fun h1 => ?_)
    cases v with
    | int i =>
      refine ⟨_, rfl, _, _, rfl, rfl, _, rfl, ?_⟩
      refine ite2 (fun h2 => mkO_1 (q2 _ (by show (if (_ || decide (i < 1)) = true then _ else _) = _; rw [h2]; rfl))) (fun h2 => ?_)
      refine ⟨_, rfl, _, rfl, a, _, dx, _, rfl, ha, G.cFixed.cl, G.cFixed.no _ (by decide +kernel), (by show 0 < 1000; decide), q1 ?_⟩
      show (if (!true || decide (i < 1)) = true then _ else _) = _
      rw [Bool.eq_false_iff.mpr h2]
      rfl
    | _ => exact absurd rfl h1

/-- what is handed in as texts -/
def LXAt (H : Hp) (v : V) : LX → Prop
  | .lst xs => ∃ b, v = .ref b ∧ H b = some (.lst xs)
  | .tup xs => ∃ b, v = .ref b ∧ TupZ H b xs
  | .val u => v = u
theorem LXAt.same {H H' : Hp} {v : V} (S : Same H H') : ∀ {x : LX}, LXAt H v x → LXAt H' v x
  | .lst _, ⟨b, e, h⟩ => ⟨b, e, S _ _ h⟩
  | .tup _, ⟨b, e, h⟩ => ⟨b, e, h.same S⟩
  | .val _, e => e
theorem all_str : ∀ xs : List V, xs.all areB = true → (xs.map strV).map V.str = xs
  | [], _ => rfl
  | v :: xs, h => by
    obtain ⟨h1, h2⟩ := Bool.and_eq_true_iff.mp (show (areB v && xs.all areB) = true from h)
    have e : V.str (strV v) = v := by cases v <;> first | rfl | cases h1
    show V.str (strV v) :: (xs.map strV).map V.str = v :: xs
    rw [e, all_str xs h2]
theorem raise_mono {C : Addr} {g : Str} {v : V} {H H1 : Hp} {E : XK} (S : Same H H1) (h : RaiseE C g v H E) : RaiseE C g v H1 E := fun d H2 hd S2 e => by
  refine h d H2 ?_ (S.trans S2) e
  cases q : H d with
  | none => rfl
  | some o => rw [S d o q] at hd; cases hd
def spListed (K : Frag) : Sp := fun vs H Q E => ∃ (a dx : Addr) (v : V) (x : LX), vs = [.ref a, v] ∧ H a = some (.ins (He.ga K "Listed") dx []) ∧ x ∈ lM ∧ LXAt H v x ∧
  (lxDue x = none → ∀ t H2, Same H H2 → TupZ H2 t x.els → Q .non (upd H2 a (.ins (He.ga K "Listed") dx (fListed (.ref t))))) ∧ ∀ z, lxDue x = some z → RaiseE (BF K) "what" (.str z) H E
theorem kit_LT (K : Frag) : kitAny K (.type "list") [.type "list", .type "tuple"] = some true ∧ kitAny K (.type "tuple") [.type "list", .type "tuple"] = some true ∧ kitAny K (.type "str") [.type "list", .type "tuple"] = some false ∧ kitAny K (.type "NoneType") [.type "list", .type "tuple"] = some false := by
  have k : ∀ {S T : String} {b : Bool}, kitB S T = some b → kitOne K (.type S) (.type T) = some b := fun h => kit_ty h
  refine ⟨?_, ?_, ?_, ?_⟩
  · exact kitAny_cons (b := true) (k (by decide +kernel)) (fun z => nomatch z) (fun _ => rfl)
  · exact kitAny_cons (b := false) (k (by decide +kernel)) (fun _ => kitAny_cons (b := true) (k (by decide +kernel)) (fun z => nomatch z) (fun _ => rfl)) (fun z => nomatch z)
  · exact kitAny_cons (b := false) (k (by decide +kernel)) (fun _ => kitAny_cons (b := false) (k (by decide +kernel)) (fun _ => kitAny_nil) (fun z => nomatch z)) (fun z => nomatch z)
  · exact kitAny_cons (b := false) (k (by decide +kernel)) (fun _ => kitAny_cons (b := false) (k (by decide +kernel)) (fun _ => kitAny_nil) (fun z => nomatch z)) (fun z => nomatch z)
theorem take_succ_map {α β : Type} (g : α → β) {xs : List α} {i : Nat} {x : α} (h : xs[i]? = some x) : (xs.take (i + 1)).map g = (xs.take i).map g ++ [g x] := by
  rw [List.take_add_one, h, List.map_append]
  rfl

abbrev s_Listed_init : Stmt := inClass (top 23) 0
theorem sc_Listed_init : FnScope ["self", "texts", "text"] ["self", "texts"] (defScope s_Listed_init) := ⟨rfl, rfl, rfl, by decide +kernel, rfl, by decide +kernel, by decide +kernel⟩

theorem ok_Listed_init (F : FunD K "__init__" "Listed.__init__" (defArgs s_Listed_init) (defBody s_Listed_init) (defScope s_Listed_init) [] [] f fd) (G : G3 P w K mg base) : FnOk P w K mg base (L2.CX P w) 4 f fd ["self", "texts"] (spListed K) := by
  refine F.ok (CX := (L2.CX P w)) sc_Listed_init (fun vs H Q E h => ?_) (fun cdv A outer s H vs Q E hr h => ?_)
  · obtain ⟨a, dx, v, x, rfl, _⟩ := h
    rfl
  · have hr3 : Room 3 _ := hr
    have hr2 : Room 2 _ := hr.mono (by decide)
    refine ⟨_, (pss_cons (ps_if (PW.pt (pw_or (pt_not (pt_val (pe_callB call_ieT (by rfl) G.isinstance (by decide +kernel) (pa_cons (pv 1) (pa_cons (pe_tupS (pa_cons (pe_bty (n := "list") (by rfl) G.list (by decide +kernel)) (pa_cons (pe_bty (n := "tuple") (by rfl) G.tuple (by decide +kernel)) pa_nil))) pa_nil))))) (pw_or1 (pt_cmpR op_eq (pe_callB call_len_seq (by rfl) G.len (by decide +kernel) (pa_cons (pv 1) pa_nil)) pe_int (nomark _)))))
      (pss_one (ps_raise rfl (takes_of rfl rfl rfl rfl) (pmk_1 G.bf hr2 (by rfl) (pa_cons pe_str pa_nil))))
      pss_nil)
    (pss_cons (ps_if (PW.pt (pw_or (pt_not (pt_val (pe_callB (cr_all rfl) (by rfl) G.all (by decide +kernel) (pa_cons (pe_lc (own := [("text", 2)]) (g := gName 2) (tt := tYes) rfl sc_Listed_init.nd (pi_or (pi_list (pv 1)) (pi_tup (pv 1))) (blkOk_by (N := ["self", "texts", "text"]) (sc := defScope s_Listed_init) (by decide +kernel)) (fun _ _ _ _ _ => pg_name (i := 2) sc_Listed_init.nd rfl (Or.inl rfl)) (fun _ _ _ _ _ => pts_nil) (fun _ _ _ _ _ => (pe_fn G.are_signs hr2 pass0 (by rfl) (pa_cons (pv 2) pa_nil)))) pa_nil)))) (pw_or1 (pt_cmpR op_lt (pe_lenSetSeq rfl (by rfl) G.len (by rfl) G.set (pv 1)) (pe_callB call_len_seq (by rfl) G.len (by decide +kernel) (pa_cons (pv 1) pa_nil)) (nomark _)))))
      (pss_one (ps_raise rfl (takes_of rfl rfl rfl rfl) (pmk_1 G.bf hr2 (by rfl) (pa_cons pe_str pa_nil))))
      pss_nil)
    (pss_one (ps_fld (pv 0) (pe_callTy call_tupleZ (by rfl) G.tuple (by decide +kernel) (pa_cons (pv 1) pa_nil)) rfl)))), ?_⟩
    obtain ⟨a, dx, v, x, rfl, ha, hx, hL, q1, q2⟩ := h
    obtain ⟨hv, hz⟩ := lM_vM x hx
    rcases lM_val x hx with e | e | e
    · subst e
      obtain rfl : v = .str "ab" := hL
      refine ⟨_, rfl, by show 2 ≤ 1000; decide, fun p0 H0 hp0 S0 e0 => ⟨_, p0, _, _, _, false, rfl, e0, .cons (.ty _) (.cons (.ty _) Paired.nil), .x (.base (.str _)), (kit_LT K).2.2.1, _, rfl, iteT (mkO_1 (raise_mono S0 (q2 _ rfl)))⟩⟩
    · subst e
      obtain rfl : v = .non := hL
      refine ⟨_, rfl, by show 2 ≤ 1000; decide, fun p0 H0 hp0 S0 e0 => ⟨_, p0, _, _, _, false, rfl, e0, .cons (.ty _) (.cons (.ty _) Paired.nil), .x (.base .non), (kit_LT K).2.2.2, _, rfl, iteT (mkO_1 (raise_mono S0 (q2 _ rfl)))⟩⟩
    · cases x with
      | val u => rcases e with e | e <;> cases e
      | lst xs =>
      obtain ⟨b, rfl, hb⟩ := hL
      have hz' : xs.length ≤ 20 := hz
      refine ⟨_, rfl, by show 2 ≤ 1000; decide, fun p0 H0 hp0 S0 e0 => ⟨_, p0, _, _, _, true, rfl, e0, .cons (.ty _) (.cons (.ty _) Paired.nil), .x (.base (.lst (S0 _ _ hb))), (kit_LT K).1, _, rfl, iteF ?_⟩⟩
      refine ⟨_, rfl, b, _, rfl, .inl (SqL.of (S0 _ _ hb)), rfl, _, rfl, ?_⟩
      refine ite2 (fun h1 => mkO_1 (raise_mono S0 (q2 _ (by show (if (decide (xs.length = 0) || _) = true then _ else _) = _; rw [show decide (xs.length = 0) = true from decide_eq_true (by have := of_decide_eq_true h1; simpa using this)]; rfl)))) (fun h1 => ?_)
      have n0 : decide (xs.length = 0) = false := decide_eq_false (fun z => h1 (decide_eq_true (by rw [z]; rfl)))
      have eD : lxDue (.lst xs) = if xsBad xs = true then (some "texts" : Option Str) else none := by
        show (if (decide (xs.length = 0) || xsBad xs) = true then _ else _) = _
        rw [n0]
        rfl
      rw [eD] at q1 q2
      refine .inl ⟨_, rfl, b, rfl, ⟨_, SqL.of (S0 _ _ hb)⟩, fun D hD => ?_⟩
      refine lc_list (K := K) (a := b) (xs := xs) (LcP H0 D fun n => (xs.take n).map fun v => V.bl (areB v)) (LcP.start hD rfl) (fun i J hi p => SqL.of (p.1 _ _ (S0 _ _ hb))) ?_ ?_
      · intro i v J hx p
        refine ⟨rfl, _, rfl, v, rfl, hv v (List.mem_of_getElem? hx), p.put (Same.refl _) (take_succ_map _ hx) ?_⟩
        have := (List.getElem?_eq_some_iff.mp hx).1
        omega
      · rintro J ⟨S1, _, eJ, _⟩
        have eJ2 : J D = some (.lst ((xs.map areB).map V.bl)) := by rw [eJ]; show some (HO.lst ((xs.take xs.length).map fun v => V.bl (areB v))) = _; rw [List.take_length, List.map_map]; rfl
        refine ⟨D, xs.map areB, rfl, SqL.of eJ2, _, rfl, ?_⟩
        have ea : (xs.map areB).all id = xs.all areB := by rw [List.all_map]; rfl
        rw [ea]
        show if (!xs.all areB) = true then _ else _
        have S2 : Same H J := S0.trans S1
        refine ite2 (fun h2 => mkO_1 (raise_mono S2 (q2 _ (by unfold xsBad; rw [h2]; rfl)))) (fun h2 => ?_)
        have h2' : xs.all areB = true := by cases z : xs.all areB with | true => rfl | false => exact absurd (by rw [z]; rfl) h2
        refine ⟨_, rfl, b, xs.map strV, rfl, .inl (by rw [all_str xs h2']; exact SqL.of (S2 _ _ hb)), by rw [List.length_map]; omega, _, rfl, b, _, rfl, .inl (SqL.of (S2 _ _ hb)), _, _, rfl, rfl, _, rfl, ?_⟩
        refine ite2 (fun h3 => mkO_1 (raise_mono S2 (q2 _ ?_))) (fun h3 => ?_)
        · unfold xsBad
          rw [show decide ((newS (fun i => (xs.map strV).getD i Str.empty) (xs.map strV).length : Nat) < xs.length) = true from decide_eq_true (by have := of_decide_eq_true h3; omega), Bool.or_true]
          rfl
        · have q1' := q1 (by unfold xsBad; rw [h2', show decide ((newS (fun i => (xs.map strV).getD i Str.empty) (xs.map strV).length : Nat) < xs.length) = false from decide_eq_false (fun z => h3 (decide_eq_true (by omega)))]; rfl)
          refine ⟨_, rfl, b, xs, rfl, .inl ⟨SqL.of (S2 _ _ hb), fun t H3 ht S3 tz => ?_⟩⟩
          refine ⟨_, rfl, a, _, dx, _, rfl, S3 _ _ (S2 _ _ ha), G.cListed.cl, G.cListed.no _ (by decide +kernel), (by show 0 < 1000; decide), ?_⟩
          exact q1' t _ (S2.trans S3) tz
      | tup xs =>
      obtain ⟨b, rfl, hb⟩ := hL
      have hz' : xs.length ≤ 20 := hz
      refine ⟨_, rfl, by show 2 ≤ 1000; decide, fun p0 H0 hp0 S0 e0 => ⟨_, p0, _, _, _, true, rfl, e0, .cons (.ty _) (.cons (.ty _) Paired.nil), .x (.fTuple (hb.same S0).choose_spec.2.2), (kit_LT K).2.1, _, rfl, iteF ?_⟩⟩
      refine ⟨_, rfl, b, _, rfl, .inr ((hb.same S0).sq), rfl, _, rfl, ?_⟩
      refine ite2 (fun h1 => mkO_1 (raise_mono S0 (q2 _ (by show (if (decide (xs.length = 0) || _) = true then _ else _) = _; rw [show decide (xs.length = 0) = true from decide_eq_true (by have := of_decide_eq_true h1; simpa using this)]; rfl)))) (fun h1 => ?_)
      have n0 : decide (xs.length = 0) = false := decide_eq_false (fun z => h1 (decide_eq_true (by rw [z]; rfl)))
      have eD : lxDue (.tup xs) = if xsBad xs = true then (some "texts" : Option Str) else none := by
        show (if (decide (xs.length = 0) || xsBad xs) = true then _ else _) = _
        rw [n0]
        rfl
      rw [eD] at q1 q2
      refine .inr ⟨_, rfl, b, rfl, ⟨_, (hb.same S0).sq⟩, fun D hD => ?_⟩
      refine lc_tup (K := K) (a := b) (xs := xs) (LcP H0 D fun n => (xs.take n).map fun v => V.bl (areB v)) (LcP.start hD rfl) (fun i J hi p => ((hb.same S0).same p.1).sq) ?_ ?_
      · intro i v J hx p
        refine ⟨rfl, _, rfl, v, rfl, hv v (List.mem_of_getElem? hx), p.put (Same.refl _) (take_succ_map _ hx) ?_⟩
        have := (List.getElem?_eq_some_iff.mp hx).1
        omega
      · rintro J ⟨S1, _, eJ, _⟩
        have eJ2 : J D = some (.lst ((xs.map areB).map V.bl)) := by rw [eJ]; show some (HO.lst ((xs.take xs.length).map fun v => V.bl (areB v))) = _; rw [List.take_length, List.map_map]; rfl
        refine ⟨D, xs.map areB, rfl, SqL.of eJ2, _, rfl, ?_⟩
        have ea : (xs.map areB).all id = xs.all areB := by rw [List.all_map]; rfl
        rw [ea]
        show if (!xs.all areB) = true then _ else _
        have S2 : Same H J := S0.trans S1
        refine ite2 (fun h2 => mkO_1 (raise_mono S2 (q2 _ (by unfold xsBad; rw [h2]; rfl)))) (fun h2 => ?_)
        have h2' : xs.all areB = true := by cases z : xs.all areB with | true => rfl | false => exact absurd (by rw [z]; rfl) h2
        refine ⟨_, rfl, b, xs.map strV, rfl, .inr (by rw [all_str xs h2']; exact (hb.same S2).sq), by rw [List.length_map]; omega, _, rfl, b, _, rfl, .inr ((hb.same S2).sq), _, _, rfl, rfl, _, rfl, ?_⟩
        refine ite2 (fun h3 => mkO_1 (raise_mono S2 (q2 _ ?_))) (fun h3 => ?_)
        · unfold xsBad
          rw [show decide ((newS (fun i => (xs.map strV).getD i Str.empty) (xs.map strV).length : Nat) < xs.length) = true from decide_eq_true (by have := of_decide_eq_true h3; omega), Bool.or_true]
          rfl
        · have q1' := q1 (by unfold xsBad; rw [h2', show decide ((newS (fun i => (xs.map strV).getD i Str.empty) (xs.map strV).length : Nat) < xs.length) = false from decide_eq_false (fun z => h3 (decide_eq_true (by omega)))]; rfl)
          refine ⟨_, rfl, b, xs, rfl, .inr ⟨(hb.same S2).sq, ?_⟩⟩
          refine ⟨_, rfl, a, _, dx, _, rfl, S2 _ _ ha, G.cListed.cl, G.cListed.no _ (by decide +kernel), (by show 0 < 1000; decide), ?_⟩
          exact q1' b _ S2 (hb.same S2)


def spEnded (K : Frag) : Sp := fun vs H Q E => ∃ (a dx : Addr) (s e l m : V), vs = [.ref a, s, e, l, m] ∧ H a = some (.ins (He.ga K "Ended") dx []) ∧ s ∈ sM ∧ e ∈ eM ∧ l ∈ nM ∧ m ∈ nM ∧ (eDue s e l m = none → Q .non (upd H a (.ins (He.ga K "Ended") dx (fEnded s e l m)))) ∧
  ∀ z, eDue s e l m = some z → RaiseE (BF K) "what" (.str z) H E

abbrev s_Ended_init : Stmt := inClass (top 24) 0
theorem sc_Ended_init : FnScope ["self", "signs", "sign", "least", "most"] ["self", "signs", "sign", "least", "most"] (defScope s_Ended_init) := ⟨rfl, rfl, rfl, by decide +kernel, rfl, by decide +kernel, by decide +kernel⟩

theorem ok_Ended_init (F : FunD K "__init__" "Ended.__init__" (defArgs s_Ended_init) (defBody s_Ended_init) (defScope s_Ended_init) [] [] f fd) (G : G3 P w K mg base) : FnOk P w K mg base (L2.CX P w) 4 f fd ["self", "signs", "sign", "least", "most"] (spEnded K) := by
  refine F.ok (CX := (L2.CX P w)) sc_Ended_init (fun vs H Q E h => ?_) (fun cdv A outer s H vs Q E hr h => ?_)
  · obtain ⟨a, dx, s, e, l, m, rfl, _⟩ := h
    rfl
  · have hr3 : Room 3 _ := hr
    have hr2 : Room 2 _ := hr.mono (by decide)
    refine ⟨_, (pss_cons (ps_expr (pe_fnS G.check_signs hr3 (fun σ => passAt (takes_of rfl rfl rfl rfl) σ) (by rfl) (pa_cons (pv 1) pa_nil)))
    (pss_cons (ps_if (PW.pt (pw_or (pt_not (pt_val (pe_fn G.is_sign (hr2.mono (by decide)) pass0 (by rfl) (pa_cons (pv 2) pa_nil)))) (pw_or1 (pt_cmpR op_in_sign (pv 2) (pv 1) (by rfl)))))
      (pss_one (ps_raise rfl (takes_of rfl rfl rfl rfl) (pmk_1 G.bf hr2 (by rfl) (pa_cons pe_str pa_nil))))
      pss_nil)
    (pss_cons (ps_expr (pe_fnS G.check_span hr3 (fun σ => passAt (takes_of rfl rfl rfl rfl) σ) (by rfl) (pa_cons (pv 3) (pa_cons (pv 4) pa_nil))))
    (pss_cons (ps_fld (pv 0) (pv 1) rfl)
    (pss_cons (ps_fld (pv 0) (pv 2) rfl)
    (pss_cons (ps_fld (pv 0) (pv 3) rfl)
    (pss_one (ps_fld (pv 0) (pv 4) rfl)))))))), ?_⟩
    obtain ⟨a, dx, s, e, l, m, rfl, ha, hs, he, hl, hm, q1, q2⟩ := h
    refine ⟨_, rfl, s, rfl, hs, fun e1 => ?_, fun e1 => q2 _ (by unfold eDue; rw [if_pos e1])⟩
    have e0 : eDue s e l m = if (!isSignB e || inB (strV e) (strV s)) = true then (some "sign" : Option Str) else bDue l m := by unfold eDue; rw [e1]; rfl
    rw [e0] at q1 q2
    refine ⟨_, rfl, e, rfl, eM_vM he, _, rfl, ?_⟩
    show if (!isSignB e) = true then _ else _
    refine ite2 (fun h1 => mkO_1 (q2 _ (by rw [h1]; rfl))) (fun h1 => ?_)
    have h1' : isSignB e = true := by cases z : isSignB e with | true => rfl | false => exact absurd (by rw [z]; rfl) h1
    refine ⟨_, rfl, _, rfl, _, strV s, eM_one e he h1', sM_str s hs e1, _, rfl, ?_⟩
    show if inB (strV e) (strV s) = true then _ else _
    refine ite2 (fun h2 => mkO_1 (q2 _ (by rw [h2, Bool.or_true]; rfl))) (fun h2 => ?_)
    have h2' : inB (strV e) (strV s) = false := Bool.eq_false_iff.mpr h2
    rw [h1', h2'] at q1 q2
    refine ⟨_, rfl, _, rfl, l, m, rfl, nM_flat l (nh hl), nM_flat m (nh hm), fun e2 => ?_, fun z e2 => q2 z e2⟩
    refine ⟨_, rfl, _, rfl, a, _, dx, _, rfl, ha, G.cEnded.cl, G.cEnded.no _ (by decide +kernel), (by show 0 < 1000; decide), _, rfl, _, rfl, a, _, dx, _, rfl, upd_same, G.cEnded.cl, G.cEnded.no _ (by decide +kernel), (by show 1 < 1000; decide), _, rfl, _, rfl, a, _, dx, _, rfl, upd_same, G.cEnded.cl, G.cEnded.no _ (by decide +kernel), (by show 2 < 1000; decide), _, rfl, _, rfl, a, _, dx, _, rfl, upd_same, G.cEnded.cl, G.cEnded.no _ (by decide +kernel), (by show 3 < 1000; decide), ?_⟩
    have z := q1 e2
    show Q .non _
    rw [upd_upd, upd_upd, upd_upd]
    exact z

def spHasWord (K : Frag) : Sp := fun vs H Q _ => ∃ (a : Addr) (c : Nat) (s l m : V), vs = [.ref a, .str ⟨#[c]⟩] ∧ FieldAt K H a (.word s l m) ∧ PD.In (.word s l m) ∧ PD.due (.word s l m) = none ∧ ∀ H', Same H H' → Q (.bl (PD.has ⟨#[c]⟩ (.word s l m))) H'

def spHasNumber (K : Frag) : Sp := fun vs H Q _ => ∃ (a : Addr) (c : Nat) (l m : V), vs = [.ref a, .str ⟨#[c]⟩] ∧ FieldAt K H a (.number l m) ∧ PD.In (.number l m) ∧ PD.due (.number l m) = none ∧ ∀ H', Same H H' → Q (.bl (PD.has ⟨#[c]⟩ (.number l m))) H'

def spHasFixed (K : Frag) : Sp := fun vs H Q _ => ∃ (a : Addr) (c : Nat) (v : V), vs = [.ref a, .str ⟨#[c]⟩] ∧ FieldAt K H a (.fixed v) ∧ PD.In (.fixed v) ∧ PD.due (.fixed v) = none ∧ ∀ H', Same H H' → Q (.bl (PD.has ⟨#[c]⟩ (.fixed v))) H'

def spHasListed (K : Frag) : Sp := fun vs H Q _ => ∃ (a : Addr) (c : Nat) (x : LX), vs = [.ref a, .str ⟨#[c]⟩] ∧ FieldAt K H a (.listed x) ∧ PD.In (.listed x) ∧ PD.due (.listed x) = none ∧ ∀ H', Same H H' → Q (.bl (PD.has ⟨#[c]⟩ (.listed x))) H'

def spHasEnded (K : Frag) : Sp := fun vs H Q _ => ∃ (a : Addr) (c : Nat) (s e l m : V), vs = [.ref a, .str ⟨#[c]⟩] ∧ FieldAt K H a (.ended s e l m) ∧ PD.In (.ended s e l m) ∧ PD.due (.ended s e l m) = none ∧ ∀ H', Same H H' → Q (.bl (PD.has ⟨#[c]⟩ (.ended s e l m))) H'

abbrev s_Word_has : Stmt := inClass (top 20) 7
theorem sc_Word_has : FnScope ["self", "sign"] ["self", "sign"] (defScope s_Word_has) := ⟨rfl, rfl, rfl, by decide +kernel, rfl, by decide +kernel, by decide +kernel⟩

theorem ok_Word_has (F : FunD K "has_sign" "Word.has_sign" (defArgs s_Word_has) (defBody s_Word_has) (defScope s_Word_has) [] [] f fd) (G : G3 P w K mg base) : FnOk P w K mg base CX0 2 f fd ["self", "sign"] (spHasWord K) := by
  refine F.ok (CX := CX0) sc_Word_has (fun vs H Q E h => ?_) (fun cdv A outer s H vs Q E hr h => ?_)
  · obtain ⟨a, c, s, l, m, rfl, _⟩ := h
    rfl
  · refine ⟨_, PSs.nox (pss_one (ps_ret (pe_fn G.has_words_with hr pass0 (by rfl) (pa_cons (pv 0) (pa_cons (pv 1) pa_nil))))), ?_⟩
    obtain ⟨a, c, s, l, m, rfl, ⟨dx, ha⟩, ⟨hs, hl, hm⟩, hd, q⟩ := h
    obtain ⟨es, sc, _⟩ := word_due s hs l hl m hm hd
    rw [es] at ha q
    exact ⟨_, rfl, _, rfl, a, _, dx, _, c, strV s, m, rfl, ha, G.cWord.cl, G.cWord.no _ (by decide +kernel), G.cWord.no _ (by decide +kernel), lWord_signs, lWord_most, sc, q _ (Same.refl _)⟩

abbrev s_Fixed_has : Stmt := inClass (top 22) 7
theorem sc_Fixed_has : FnScope ["self", "sign"] ["self", "sign"] (defScope s_Fixed_has) := ⟨rfl, rfl, rfl, by decide +kernel, rfl, by decide +kernel, by decide +kernel⟩

theorem ok_Fixed_has (F : FunD K "has_sign" "Fixed.has_sign" (defArgs s_Fixed_has) (defBody s_Fixed_has) (defScope s_Fixed_has) [] [] f fd) (G : G3 P w K mg base) : FnOk P w K mg base CX0 2 f fd ["self", "sign"] (spHasFixed K) := by
  refine F.ok (CX := CX0) sc_Fixed_has (fun vs H Q E h => ?_) (fun cdv A outer s H vs Q E hr h => ?_)
  · obtain ⟨a, c, v, rfl, _⟩ := h
    rfl
  · refine ⟨_, PSs.nox (pss_one (ps_ret (pe_cmpR op_in_sign (pv 1) (pe_sg G.dgs) (by rfl)))), ?_⟩
    obtain ⟨a, c, v, rfl, hf, _, _, q⟩ := h
    exact ⟨_, rfl, c, DG, rfl, rfl, q _ (Same.refl _)⟩

abbrev s_Ended_has : Stmt := inClass (top 24) 7
theorem sc_Ended_has : FnScope ["self", "sign"] ["self", "sign"] (defScope s_Ended_has) := ⟨rfl, rfl, rfl, by decide +kernel, rfl, by decide +kernel, by decide +kernel⟩

theorem ok_Ended_has (F : FunD K "has_sign" "Ended.has_sign" (defArgs s_Ended_has) (defBody s_Ended_has) (defScope s_Ended_has) [] [] f fd) (G : G3 P w K mg base) : FnOk P w K mg base CX0 2 f fd ["self", "sign"] (spHasEnded K) := by
  refine F.ok (CX := CX0) sc_Ended_has (fun vs H Q E h => ?_) (fun cdv A outer s H vs Q E hr h => ?_)
  · obtain ⟨a, c, s, e, l, m, rfl, _⟩ := h
    rfl
  · refine ⟨_, PSs.nox (pss_one (ps_ret (pe_or (pe_cmpR op_eq (pv 1) (pe_fld (pv 0) rfl) (nomark _)) (pe_one (pe_fn G.has_words_with hr pass0 (by rfl) (pa_cons (pv 0) (pa_cons (pv 1) pa_nil))))))), ?_⟩
    obtain ⟨a, c, s, e, l, m, rfl, ⟨dx, ha⟩, ⟨hs, he, hl, hm⟩, hd, q⟩ := h
    obtain ⟨es, ee, sc, _⟩ := end_due s hs e he l hl m hm hd
    have q0 := q _ (Same.refl _)
    refine ⟨_, rfl, _, rfl, a, _, dx, _, _, rfl, ha, G.cEnded.cl, G.cEnded.no _ (by decide +kernel), lEnded_sign, (by rw [ee]; rfl), _, rfl, ?_⟩
    refine ite2 (fun h1 => ?_) (fun h1 => ?_)
    · have r : PD.has ⟨#[c]⟩ (.ended s e l m) = true := by show (decide (V.str ⟨#[c]⟩ = e) || _) = true; rw [h1]; rfl
      rw [r] at q0
      exact q0
    · have r : PD.has ⟨#[c]⟩ (.ended s e l m) = wwB s m ⟨#[c]⟩ := by show (decide (V.str ⟨#[c]⟩ = e) || _) = _; rw [Bool.eq_false_iff.mpr h1]; rfl
      rw [r] at q0
      rw [es] at ha q0
      exact ⟨_, rfl, _, rfl, a, _, dx, _, c, strV s, m, rfl, ha, G.cEnded.cl, G.cEnded.no _ (by decide +kernel), G.cEnded.no _ (by decide +kernel), lEnded_signs, lEnded_most, sc, q0⟩

abbrev s_Listed_has : Stmt := inClass (top 23) 7
theorem sc_Listed_has : FnScope ["self", "sign", "text"] ["self", "sign"] (defScope s_Listed_has) := ⟨rfl, rfl, rfl, by decide +kernel, rfl, by decide +kernel, by decide +kernel⟩

theorem ok_Listed_has (F : FunD K "has_sign" "Listed.has_sign" (defArgs s_Listed_has) (defBody s_Listed_has) (defScope s_Listed_has) [] [] f fd) (G : G3 P w K mg base) : FnOk P w K mg base CX0 2 f fd ["self", "sign"] (spHasListed K) := by
  refine F.ok (CX := CX0) sc_Listed_has (fun vs H Q E h => ?_) (fun cdv A outer s H vs Q E hr h => ?_)
  · obtain ⟨a, c, x, rfl, _⟩ := h
    rfl
  · refine ⟨_, PSs.nox (pss_one (ps_ret (pe_callB (cr_any rfl) (by rfl) G.any (by decide +kernel) (pa_cons (pe_lc (own := [("text", 2)]) (g := gName 2) (tt := tYes) rfl sc_Listed_has.nd (pi_tup (pe_fld (pv 0) rfl)) (blkOk_by (N := ["self", "sign", "text"]) (sc := defScope s_Listed_has) (by decide +kernel)) (fun _ _ _ _ _ => pg_name (i := 2) sc_Listed_has.nd rfl (Or.inl rfl)) (fun _ _ _ _ _ => pts_nil) (fun _ _ _ _ _ => (pe_cmpR op_in_sign (pv 1) (pv 2) (by rfl)))) pa_nil)))), ?_⟩
    obtain ⟨a, c, x, rfl, ⟨dx, t, ha, ht⟩, hx, hd, q⟩ := h
    obtain ⟨hs, hz, _⟩ := lst_due x hx hd
    refine ⟨_, rfl, a, _, dx, _, _, rfl, ha, G.cListed.cl, G.cListed.no _ (by decide +kernel), lListed_texts, t, rfl, ⟨_, ht.sq⟩, fun D hD => ?_⟩
    refine lc_tup (K := K) (a := t) (xs := x.els) (LcP H D fun n => (x.els.take n).map fun v => V.bl (inB ⟨#[c]⟩ (strV v))) (LcP.start hD rfl) (fun i J hi p => (ht.same p.1).sq) ?_ ?_
    · intro i v J hv p
      have ev := hs v (List.mem_of_getElem? hv)
      have := (List.getElem?_eq_some_iff.mp hv).1
      exact ⟨rfl, _, rfl, _, rfl, c, strV v, rfl, ev, p.put (Same.refl _) (take_succ_map _ hv) (by omega)⟩
    · rintro J ⟨S1, _, eJ, _⟩
      have eJ2 : J D = some (.lst ((x.els.map fun v => inB ⟨#[c]⟩ (strV v)).map V.bl)) := by rw [eJ]; show some (HO.lst ((x.els.take x.els.length).map fun v => V.bl (inB ⟨#[c]⟩ (strV v)))) = _; rw [List.take_length, List.map_map]; rfl
      refine ⟨D, _, rfl, SqL.of eJ2, ?_⟩
      rw [List.any_map]
      exact q _ S1

abbrev s_Number_has : Stmt := inClass (top 21) 7
theorem sc_Number_has : FnScope ["self", "sign", "number"] ["self", "sign"] (defScope s_Number_has) := ⟨rfl, rfl, rfl, by decide +kernel, rfl, by decide +kernel, by decide +kernel⟩

theorem ok_Number_has (F : FunD K "has_sign" "Number.has_sign" (defArgs s_Number_has) (defBody s_Number_has) (defScope s_Number_has) [] [] f fd) (G : G3 P w K mg base) : FnOk P w K mg base CX0 2 f fd ["self", "sign"] (spHasNumber K) := by
  refine F.ok (CX := CX0) sc_Number_has (fun vs H Q E h => ?_) (fun cdv A outer s H vs Q E hr h => ?_)
  · obtain ⟨a, c, l, m, rfl, _⟩ := h
    rfl
  · refine ⟨_, PSs.nox (pss_cons (ps_if (PW.pt (pw_or (pt_cmpR op_isN (pe_fld (pv 0) rfl) pe_non (nomark _)) (pw_or1 (pt_cmpR op_ge (pe_op op_sub (pe_fld (pv 0) rfl) (pe_fld (pv 0) rfl)) pe_int (nomark _)))))
      (pss_one (ps_ret (pe_cmpR op_in_sign (pv 1) (pe_sg G.dgs) (by rfl))))
      pss_nil)
    (pss_one (ps_ret (pe_callB (cr_any rfl) (by rfl) G.any (by decide +kernel) (pa_cons (pe_lc (own := [("number", 2)]) (g := gName 2) (tt := tYes) rfl sc_Number_has.nd (pi_range2 (by rfl) G.range (pa_cons (pe_fld (pv 0) rfl) (pa_cons (pe_op op_add (pe_fld (pv 0) rfl) pe_int) pa_nil))) (blkOk_by (N := ["self", "sign", "number"]) (sc := defScope s_Number_has) (by decide +kernel)) (fun _ _ _ _ _ => pg_name (i := 2) sc_Number_has.nd rfl (Or.inl rfl)) (fun _ _ _ _ _ => pts_nil) (fun _ _ _ _ _ => (pe_cmpR op_in_sign (pv 1) (pe_fn G.digits_of hr pass0 (by rfl) (pa_cons (pv 2) pa_nil)) (by rfl)))) pa_nil))))), ?_⟩
    obtain ⟨a, c, l, m, rfl, ⟨dx, ha⟩, ⟨hl, hm⟩, hd, q⟩ := h
    obtain ⟨el, em, hl0, hl1, hm0, hm1, _⟩ := num_due l hl m hm hd
    refine ⟨_, rfl, a, _, dx, _, _, rfl, ha, G.cNumber.cl, G.cNumber.no _ (by decide +kernel), lNumber_most, rfl, _, rfl, ?_⟩
    refine ite2 (fun h1 => ?_) (fun h1 => ?_)
    · have r : PD.has ⟨#[c]⟩ (.number l m) = inB ⟨#[c]⟩ DG := by show (if (decide (m = .non) || _) = true then _ else _) = _; rw [h1]; rfl
      have q0 := q _ (Same.refl _)
      rw [r] at q0
      exact ⟨_, rfl, c, DG, rfl, rfl, q0⟩
    rcases em with em | em
    · exact absurd (decide_eq_true em) h1
    refine ⟨_, rfl, a, _, dx, _, _, rfl, ha, G.cNumber.cl, G.cNumber.no _ (by decide +kernel), lNumber_most, _, rfl, a, _, dx, _, _, rfl, ha, G.cNumber.cl, G.cNumber.no _ (by decide +kernel), lNumber_least, intV m, intV l, em, el, _, _, rfl, rfl, _, rfl, ?_⟩
    refine ite2 (fun h2 => ?_) (fun h2 => ?_)
    · have r : PD.has ⟨#[c]⟩ (.number l m) = inB ⟨#[c]⟩ DG := by show (if (_ || decide (9 ≤ intV m - intV l)) = true then _ else _) = _; rw [h2, Bool.or_true]; rfl
      have q0 := q _ (Same.refl _)
      rw [r] at q0
      exact ⟨_, rfl, c, DG, rfl, rfl, q0⟩
    have h9 : ¬ 9 ≤ intV m - intV l := fun z => h2 (decide_eq_true z)
    have r : PD.has ⟨#[c]⟩ (.number l m) = (List.range (intV m + 1 - intV l).toNat).any fun (i : Nat) => inB ⟨#[c]⟩ (dg (intV l + i)) := by
      show (if (decide (m = .non) || decide (9 ≤ intV m - intV l)) = true then _ else _) = _
      rw [Bool.eq_false_iff.mpr h1, Bool.eq_false_iff.mpr h2]
      rfl
    rw [r] at q
    refine ⟨_, rfl, a, _, dx, _, _, rfl, ha, G.cNumber.cl, G.cNumber.no _ (by decide +kernel), lNumber_least, _, rfl, a, _, dx, _, _, rfl, ha, G.cNumber.cl, G.cNumber.no _ (by decide +kernel), lNumber_most, intV m, 1, em, rfl, intV l, intV m + 1, by rw [el]; rfl, ⟨by omega, by omega, by omega, by omega⟩, fun D hD => ?_⟩
    refine lc_range (lo := intV l) (n := (intV m + 1 - intV l).toNat) (LcP H D fun n => (List.range n).map fun (i : Nat) => V.bl (inB ⟨#[c]⟩ (dg (intV l + i)))) (LcP.start hD rfl) ?_ ?_
    · intro i J hi p
      refine ⟨rfl, _, rfl, _, rfl, _, rfl, by omega, by omega, fun J' S' => ⟨c, _, rfl, rfl, p.put S' (by rw [List.range_succ, List.map_append]; rfl) (by omega)⟩⟩
    · rintro J ⟨S1, _, eJ, _⟩
      have eJ2 : J D = some (.lst (((List.range (intV m + 1 - intV l).toNat).map fun (i : Nat) => inB ⟨#[c]⟩ (dg (intV l + i))).map V.bl)) := by rw [eJ, List.map_map]; rfl
      refine ⟨D, _, rfl, SqL.of eJ2, ?_⟩
      rw [List.any_map]
      exact q _ S1

end
end L2.K07

set_option Elab.async false
set_option linter.all false
set_option maxRecDepth 100000
set_option maxHeartbeats 4000000
namespace L2.K07
open PySem PySem.W PySem.Spec PySem.Calls PyProof.Rows L2.Jk
def PD.ci : PD → Nat
  | .word .. => 0
  | .number .. => 1
  | .fixed _ => 2
  | .listed _ => 3
  | .ended .. => 4
theorem PD.ci_lt (d : PD) : d.ci < 5 := by cases d <;> simp [PD.ci]
/-- what the head says of a field class beyond C0 -/
structure KC (K : Frag) (C : Addr) : Prop where
  kk : findIn K (.ref C) "__class__" = some (some (.builtin "object.__class__"))
  km : mroIn K C (.type "object") = some true
  nf : notFirst K C (.type "tuple") = true
  eq : EqcC K C
  ke : keepIn K (.ref (He.ma K C "__eq__")) = true
structure G4 (P : Program) (w : World) (K : Frag) (mg : Str → Option Value) (base : Heap) : Prop extends G3 P w K mg base where
  kc : ∀ i, i < 6 → KC K (ca K i)
  kn : specialIn K (.builtin "object.__class__") "__get__" = some (some (.builtin "getset_descriptor.__get__"))
  kt : takesIn K (.builtin "object.__class__") = some true
  kit : ∀ i j, i < 6 → j < 6 → kitOne K (.ref (ca K i)) (.ref (ca K j)) = some (decide (i = j))
  kitN : ∀ j, j < 6 → kitOne K (.type "NoneType") (.ref (ca K j)) = some false
  kitS : ∀ j, j < 6 → kitOne K (.type "str") (.ref (ca K j)) = some false
section
variable {P : Program} {w : World} {K : Frag} {mg : Str → Option Value} {base : Heap} {f : Addr} {fd : FuncData}
theorem FieldAt.ins {H : Hp} {y : Addr} : ∀ {d : PD}, FieldAt K H y d → ∃ dx fs, H y = some (.ins (ca K d.ci) dx fs) ∧ fs.lookup ("has_sign" : Str) = none
  | .word .., ⟨dx, h⟩ => ⟨dx, _, h, lWord_hs⟩
  | .number .., ⟨dx, h⟩ => ⟨dx, _, h, lNumber_hs⟩
  | .fixed _, ⟨dx, h⟩ => ⟨dx, _, h, lFixed_hs⟩
  | .listed _, ⟨dx, t, h, k⟩ => ⟨dx, _, h, lListed_hs⟩
  | .ended .., ⟨dx, h⟩ => ⟨dx, _, h, lEnded_hs⟩
theorem G4.cl (G : G4 P w K mg base) : ∀ i, i < 6 → Cls K (ca K i)
  | 0, _ => G.cWord.cl
  | 1, _ => G.cNumber.cl
  | 2, _ => G.cFixed.cl
  | 3, _ => G.cListed.cl
  | 4, _ => G.cEnded.cl
  | 5, _ => G.cMarked.cl
  | n + 6, h => absurd h (by omega)
theorem G4.ty (G : G4 P w K mg base) {H : Hp} {y dx : Addr} {fs : List (Str × V)} {i : Nat} (hi : i < 6) (h : H y = some (.ins (ca K i) dx fs)) : TyE K H (.ref y) (.ref (ca K i)) :=
  .x (.base (.ins h (G.cl i hi) (G.kc i hi).kk G.kn G.kt (G.kc i hi).km))
theorem dp_flat {H : Hp} : ∀ {v : V}, flatV v = true → Dp K H v (dV v)
  | .non, _ => .non
  | .bl b, _ => .bl b
  | .int i, _ => .int i
  | .str z, _ => .str z
theorem dpAll_flat {H : Hp} : ∀ {xs : List V}, xs.all flatV = true → DpAll K H xs (xs.map dV)
  | [], _ => .nil
  | v :: xs, h => by
    obtain ⟨h1, h2⟩ := Bool.and_eq_true_iff.mp (show (flatV v && xs.all flatV) = true from h)
    exact .cons (dp_flat h1) (dpAll_flat h2)

def spEqWord (K : Frag) : Sp := fun vs H Q _ => ∃ (a : Addr) (u : V) (s l m : V), vs = [.ref a, u] ∧ FieldAt K H a (.word s l m) ∧ PD.In (.word s l m) ∧ PD.due (.word s l m) = none ∧
  ((∃ b, u = .ref b ∧ FieldAt K H b (.word s l m) ∧ Q (.bl true) H) ∨ (∃ b xs, u = .ref b ∧ H b = some (.tup xs) ∧ Q (.bl false) H))

def spEqNumber (K : Frag) : Sp := fun vs H Q _ => ∃ (a : Addr) (u : V) (l m : V), vs = [.ref a, u] ∧ FieldAt K H a (.number l m) ∧ PD.In (.number l m) ∧ PD.due (.number l m) = none ∧
  ((∃ b, u = .ref b ∧ FieldAt K H b (.number l m) ∧ Q (.bl true) H) ∨ (∃ b xs, u = .ref b ∧ H b = some (.tup xs) ∧ Q (.bl false) H))

def spEqFixed (K : Frag) : Sp := fun vs H Q _ => ∃ (a : Addr) (u : V) (v : V), vs = [.ref a, u] ∧ FieldAt K H a (.fixed v) ∧ PD.In (.fixed v) ∧ PD.due (.fixed v) = none ∧
  ((∃ b, u = .ref b ∧ FieldAt K H b (.fixed v) ∧ Q (.bl true) H) ∨ (∃ b xs, u = .ref b ∧ H b = some (.tup xs) ∧ Q (.bl false) H))

def spEqListed (K : Frag) : Sp := fun vs H Q _ => ∃ (a : Addr) (u : V) (x : LX), vs = [.ref a, u] ∧ FieldAt K H a (.listed x) ∧ PD.In (.listed x) ∧ PD.due (.listed x) = none ∧
  ((∃ b, u = .ref b ∧ FieldAt K H b (.listed x) ∧ Q (.bl true) H) ∨ (∃ b xs, u = .ref b ∧ H b = some (.tup xs) ∧ Q (.bl false) H))

def spEqEnded (K : Frag) : Sp := fun vs H Q _ => ∃ (a : Addr) (u : V) (s e l m : V), vs = [.ref a, u] ∧ FieldAt K H a (.ended s e l m) ∧ PD.In (.ended s e l m) ∧ PD.due (.ended s e l m) = none ∧
  ((∃ b, u = .ref b ∧ FieldAt K H b (.ended s e l m) ∧ Q (.bl true) H) ∨ (∃ b xs, u = .ref b ∧ H b = some (.tup xs) ∧ Q (.bl false) H))

abbrev s_Word_eq : Stmt := inClass (top 20) 1
theorem sc_Word_eq : FnScope ["self", "other"] ["self", "other"] (defScope s_Word_eq) := ⟨rfl, rfl, rfl, by decide +kernel, rfl, by decide +kernel, by decide +kernel⟩

theorem ok_Word_eq (F : FunD K "__eq__" "Word.__eq__" (defArgs s_Word_eq) (defBody s_Word_eq) (defScope s_Word_eq) [] [] f fd) (G : G4 P w K mg base) : FnOk P w K mg base CX0 1 f fd ["self", "other"] (spEqWord K) := by
  refine F.ok (CX := CX0) sc_Word_eq (fun vs H Q E h => ?_) (fun cdv A outer s H vs Q E hr h => ?_)
  · obtain ⟨a, u, s, l, m, rfl, _⟩ := h
    rfl
  · refine ⟨_, PSs.nox (pss_one (ps_ret (pe_and (pe_cmpR op_isA (pe_callTy call_tyA (by rfl) G.type (by decide +kernel) (pa_cons (pv 0) pa_nil)) (pe_callTy call_tyA (by rfl) G.type (by decide +kernel) (pa_cons (pv 1) pa_nil)) (nomark _)) (pe_and (pe_cmpR op_eq (pe_fld (pv 0) rfl) (pe_fld (pv 1) rfl) (nomark _)) (pe_and (pe_cmpR op_eq (pe_fld (pv 0) rfl) (pe_fld (pv 1) rfl) (nomark _)) (pe_one (pe_cmpR op_eq (pe_fld (pv 0) rfl) (pe_fld (pv 1) rfl) (nomark _)))))))), ?_⟩
    obtain ⟨a, u, s, l, m, rfl, ⟨dx, ha⟩, hin, hd, h⟩ := h
    obtain ⟨hs, hl, hm⟩ := hin
    obtain ⟨_, _, z⟩ := word_due s hs l hl m hm hd
    obtain ⟨k0, z⟩ := Bool.and_eq_true_iff.mp z
    obtain ⟨k1, k2⟩ := Bool.and_eq_true_iff.mp z

    rcases h with ⟨b, rfl, ⟨dy, hb⟩, q⟩ | ⟨b, xs, rfl, hb, q⟩
    · refine ⟨_, rfl, _, rfl, .inl ⟨a, _, dx, _, rfl, ha, _, rfl, _, rfl, .inl ⟨b, _, dy, _, rfl, hb, _, rfl, .inl ⟨_, rfl, .inl rfl, _, rfl, ?_⟩⟩⟩⟩
      refine ite2 (fun _ => ?_) (fun h => absurd (decide_eq_true rfl) h)
      refine ⟨_, rfl, a, _, dx, _, _, rfl, ha, G.cWord.cl, G.cWord.no _ (by decide +kernel), lWord_signs, _, rfl, b, _, dy, _, _, rfl, hb, G.cWord.cl, G.cWord.no _ (by decide +kernel), lWord_signs, k0, _, rfl, ?_⟩
      refine ite2 (fun _ => ?_) (fun h => absurd (decide_eq_true rfl) h)
      refine ⟨_, rfl, a, _, dx, _, _, rfl, ha, G.cWord.cl, G.cWord.no _ (by decide +kernel), lWord_least, _, rfl, b, _, dy, _, _, rfl, hb, G.cWord.cl, G.cWord.no _ (by decide +kernel), lWord_least, k1, _, rfl, ?_⟩
      refine ite2 (fun _ => ?_) (fun h => absurd (decide_eq_true rfl) h)
      refine ⟨_, rfl, a, _, dx, _, _, rfl, ha, G.cWord.cl, G.cWord.no _ (by decide +kernel), lWord_most, _, rfl, b, _, dy, _, _, rfl, hb, G.cWord.cl, G.cWord.no _ (by decide +kernel), lWord_most, k2, ?_⟩
      rw [decide_eq_true rfl]
      exact q
    · exact ⟨_, rfl, _, rfl, .inl ⟨a, _, dx, _, rfl, ha, _, rfl, _, rfl, .inr ⟨_, .tup hb, _, rfl, .inr ⟨_, rfl, _, rfl, iteF q⟩⟩⟩⟩


abbrev s_Number_eq : Stmt := inClass (top 21) 1
theorem sc_Number_eq : FnScope ["self", "other"] ["self", "other"] (defScope s_Number_eq) := ⟨rfl, rfl, rfl, by decide +kernel, rfl, by decide +kernel, by decide +kernel⟩

theorem ok_Number_eq (F : FunD K "__eq__" "Number.__eq__" (defArgs s_Number_eq) (defBody s_Number_eq) (defScope s_Number_eq) [] [] f fd) (G : G4 P w K mg base) : FnOk P w K mg base CX0 1 f fd ["self", "other"] (spEqNumber K) := by
  refine F.ok (CX := CX0) sc_Number_eq (fun vs H Q E h => ?_) (fun cdv A outer s H vs Q E hr h => ?_)
  · obtain ⟨a, u, l, m, rfl, _⟩ := h
    rfl
  · refine ⟨_, PSs.nox (pss_one (ps_ret (pe_and (pe_cmpR op_isA (pe_callTy call_tyA (by rfl) G.type (by decide +kernel) (pa_cons (pv 0) pa_nil)) (pe_callTy call_tyA (by rfl) G.type (by decide +kernel) (pa_cons (pv 1) pa_nil)) (nomark _)) (pe_and (pe_cmpR op_eq (pe_fld (pv 0) rfl) (pe_fld (pv 1) rfl) (nomark _)) (pe_one (pe_cmpR op_eq (pe_fld (pv 0) rfl) (pe_fld (pv 1) rfl) (nomark _))))))), ?_⟩
    obtain ⟨a, u, l, m, rfl, ⟨dx, ha⟩, hin, hd, h⟩ := h
    obtain ⟨hl, hm⟩ := hin
    obtain ⟨_, _, _, _, _, _, z⟩ := num_due l hl m hm hd
    obtain ⟨k0, k1⟩ := Bool.and_eq_true_iff.mp z

    rcases h with ⟨b, rfl, ⟨dy, hb⟩, q⟩ | ⟨b, xs, rfl, hb, q⟩
    · refine ⟨_, rfl, _, rfl, .inl ⟨a, _, dx, _, rfl, ha, _, rfl, _, rfl, .inl ⟨b, _, dy, _, rfl, hb, _, rfl, .inl ⟨_, rfl, .inl rfl, _, rfl, ?_⟩⟩⟩⟩
      refine ite2 (fun _ => ?_) (fun h => absurd (decide_eq_true rfl) h)
      refine ⟨_, rfl, a, _, dx, _, _, rfl, ha, G.cNumber.cl, G.cNumber.no _ (by decide +kernel), lNumber_least, _, rfl, b, _, dy, _, _, rfl, hb, G.cNumber.cl, G.cNumber.no _ (by decide +kernel), lNumber_least, k0, _, rfl, ?_⟩
      refine ite2 (fun _ => ?_) (fun h => absurd (decide_eq_true rfl) h)
      refine ⟨_, rfl, a, _, dx, _, _, rfl, ha, G.cNumber.cl, G.cNumber.no _ (by decide +kernel), lNumber_most, _, rfl, b, _, dy, _, _, rfl, hb, G.cNumber.cl, G.cNumber.no _ (by decide +kernel), lNumber_most, k1, ?_⟩
      rw [decide_eq_true rfl]
      exact q
    · exact ⟨_, rfl, _, rfl, .inl ⟨a, _, dx, _, rfl, ha, _, rfl, _, rfl, .inr ⟨_, .tup hb, _, rfl, .inr ⟨_, rfl, _, rfl, iteF q⟩⟩⟩⟩


abbrev s_Fixed_eq : Stmt := inClass (top 22) 1
theorem sc_Fixed_eq : FnScope ["self", "other"] ["self", "other"] (defScope s_Fixed_eq) := ⟨rfl, rfl, rfl, by decide +kernel, rfl, by decide +kernel, by decide +kernel⟩

theorem ok_Fixed_eq (F : FunD K "__eq__" "Fixed.__eq__" (defArgs s_Fixed_eq) (defBody s_Fixed_eq) (defScope s_Fixed_eq) [] [] f fd) (G : G4 P w K mg base) : FnOk P w K mg base CX0 1 f fd ["self", "other"] (spEqFixed K) := by
  refine F.ok (CX := CX0) sc_Fixed_eq (fun vs H Q E h => ?_) (fun cdv A outer s H vs Q E hr h => ?_)
  · obtain ⟨a, u, v, rfl, _⟩ := h
    rfl
  · refine ⟨_, PSs.nox (pss_one (ps_ret (pe_and (pe_cmpR op_isA (pe_callTy call_tyA (by rfl) G.type (by decide +kernel) (pa_cons (pv 0) pa_nil)) (pe_callTy call_tyA (by rfl) G.type (by decide +kernel) (pa_cons (pv 1) pa_nil)) (nomark _)) (pe_one (pe_cmpR op_eq (pe_fld (pv 0) rfl) (pe_fld (pv 1) rfl) (nomark _)))))), ?_⟩
    obtain ⟨a, u, v, rfl, ⟨dx, ha⟩, hin, hd, h⟩ := h
    have k0 := fix_due v hin hd

    rcases h with ⟨b, rfl, ⟨dy, hb⟩, q⟩ | ⟨b, xs, rfl, hb, q⟩
    · refine ⟨_, rfl, _, rfl, .inl ⟨a, _, dx, _, rfl, ha, _, rfl, _, rfl, .inl ⟨b, _, dy, _, rfl, hb, _, rfl, .inl ⟨_, rfl, .inl rfl, _, rfl, ?_⟩⟩⟩⟩
      refine ite2 (fun _ => ?_) (fun h => absurd (decide_eq_true rfl) h)
      refine ⟨_, rfl, a, _, dx, _, _, rfl, ha, G.cFixed.cl, G.cFixed.no _ (by decide +kernel), lFixed_width, _, rfl, b, _, dy, _, _, rfl, hb, G.cFixed.cl, G.cFixed.no _ (by decide +kernel), lFixed_width, k0, ?_⟩
      rw [decide_eq_true rfl]
      exact q
    · exact ⟨_, rfl, _, rfl, .inl ⟨a, _, dx, _, rfl, ha, _, rfl, _, rfl, .inr ⟨_, .tup hb, _, rfl, .inr ⟨_, rfl, _, rfl, iteF q⟩⟩⟩⟩


abbrev s_Ended_eq : Stmt := inClass (top 24) 1
theorem sc_Ended_eq : FnScope ["self", "other"] ["self", "other"] (defScope s_Ended_eq) := ⟨rfl, rfl, rfl, by decide +kernel, rfl, by decide +kernel, by decide +kernel⟩

theorem ok_Ended_eq (F : FunD K "__eq__" "Ended.__eq__" (defArgs s_Ended_eq) (defBody s_Ended_eq) (defScope s_Ended_eq) [] [] f fd) (G : G4 P w K mg base) : FnOk P w K mg base CX0 1 f fd ["self", "other"] (spEqEnded K) := by
  refine F.ok (CX := CX0) sc_Ended_eq (fun vs H Q E h => ?_) (fun cdv A outer s H vs Q E hr h => ?_)
  · obtain ⟨a, u, s, e, l, m, rfl, _⟩ := h
    rfl
  · refine ⟨_, PSs.nox (pss_one (ps_ret (pe_and (pe_cmpR op_isA (pe_callTy call_tyA (by rfl) G.type (by decide +kernel) (pa_cons (pv 0) pa_nil)) (pe_callTy call_tyA (by rfl) G.type (by decide +kernel) (pa_cons (pv 1) pa_nil)) (nomark _)) (pe_and (pe_cmpR op_eq (pe_fld (pv 0) rfl) (pe_fld (pv 1) rfl) (nomark _)) (pe_and (pe_cmpR op_eq (pe_fld (pv 0) rfl) (pe_fld (pv 1) rfl) (nomark _)) (pe_and (pe_cmpR op_eq (pe_fld (pv 0) rfl) (pe_fld (pv 1) rfl) (nomark _)) (pe_one (pe_cmpR op_eq (pe_fld (pv 0) rfl) (pe_fld (pv 1) rfl) (nomark _))))))))), ?_⟩
    obtain ⟨a, u, s, e, l, m, rfl, ⟨dx, ha⟩, hin, hd, h⟩ := h
    obtain ⟨hs, he, hl, hm⟩ := hin
    obtain ⟨_, _, _, z⟩ := end_due s hs e he l hl m hm hd
    obtain ⟨k0, z⟩ := Bool.and_eq_true_iff.mp z
    obtain ⟨k1, z⟩ := Bool.and_eq_true_iff.mp z
    obtain ⟨k2, k3⟩ := Bool.and_eq_true_iff.mp z

    rcases h with ⟨b, rfl, ⟨dy, hb⟩, q⟩ | ⟨b, xs, rfl, hb, q⟩
    · refine ⟨_, rfl, _, rfl, .inl ⟨a, _, dx, _, rfl, ha, _, rfl, _, rfl, .inl ⟨b, _, dy, _, rfl, hb, _, rfl, .inl ⟨_, rfl, .inl rfl, _, rfl, ?_⟩⟩⟩⟩
      refine ite2 (fun _ => ?_) (fun h => absurd (decide_eq_true rfl) h)
      refine ⟨_, rfl, a, _, dx, _, _, rfl, ha, G.cEnded.cl, G.cEnded.no _ (by decide +kernel), lEnded_signs, _, rfl, b, _, dy, _, _, rfl, hb, G.cEnded.cl, G.cEnded.no _ (by decide +kernel), lEnded_signs, k0, _, rfl, ?_⟩
      refine ite2 (fun _ => ?_) (fun h => absurd (decide_eq_true rfl) h)
      refine ⟨_, rfl, a, _, dx, _, _, rfl, ha, G.cEnded.cl, G.cEnded.no _ (by decide +kernel), lEnded_sign, _, rfl, b, _, dy, _, _, rfl, hb, G.cEnded.cl, G.cEnded.no _ (by decide +kernel), lEnded_sign, k1, _, rfl, ?_⟩
      refine ite2 (fun _ => ?_) (fun h => absurd (decide_eq_true rfl) h)
      refine ⟨_, rfl, a, _, dx, _, _, rfl, ha, G.cEnded.cl, G.cEnded.no _ (by decide +kernel), lEnded_least, _, rfl, b, _, dy, _, _, rfl, hb, G.cEnded.cl, G.cEnded.no _ (by decide +kernel), lEnded_least, k2, _, rfl, ?_⟩
      refine ite2 (fun _ => ?_) (fun h => absurd (decide_eq_true rfl) h)
      refine ⟨_, rfl, a, _, dx, _, _, rfl, ha, G.cEnded.cl, G.cEnded.no _ (by decide +kernel), lEnded_most, _, rfl, b, _, dy, _, _, rfl, hb, G.cEnded.cl, G.cEnded.no _ (by decide +kernel), lEnded_most, k3, ?_⟩
      rw [decide_eq_true rfl]
      exact q
    · exact ⟨_, rfl, _, rfl, .inl ⟨a, _, dx, _, rfl, ha, _, rfl, _, rfl, .inr ⟨_, .tup hb, _, rfl, .inr ⟨_, rfl, _, rfl, iteF q⟩⟩⟩⟩


abbrev s_Listed_eq : Stmt := inClass (top 23) 1
theorem sc_Listed_eq : FnScope ["self", "other"] ["self", "other"] (defScope s_Listed_eq) := ⟨rfl, rfl, rfl, by decide +kernel, rfl, by decide +kernel, by decide +kernel⟩

theorem ok_Listed_eq (F : FunD K "__eq__" "Listed.__eq__" (defArgs s_Listed_eq) (defBody s_Listed_eq) (defScope s_Listed_eq) [] [] f fd) (G : G4 P w K mg base) : FnOk P w K mg base CX0 1 f fd ["self", "other"] (spEqListed K) := by
  refine F.ok (CX := CX0) sc_Listed_eq (fun vs H Q E h => ?_) (fun cdv A outer s H vs Q E hr h => ?_)
  · obtain ⟨a, u, x, rfl, _⟩ := h
    rfl
  · refine ⟨_, PSs.nox (pss_one (ps_ret (pe_and (pe_cmpR op_isA (pe_callTy call_tyA (by rfl) G.type (by decide +kernel) (pa_cons (pv 0) pa_nil)) (pe_callTy call_tyA (by rfl) G.type (by decide +kernel) (pa_cons (pv 1) pa_nil)) (nomark _)) (pe_one (pe_cmpR (op_eqD hr.units) (pe_fld (pv 0) rfl) (pe_fld (pv 1) rfl) (nomark _)))))), ?_⟩
    obtain ⟨a, u, x, rfl, ⟨dx, t, ha, ht⟩, hin, hd, h⟩ := h
    obtain ⟨hf, hsh⟩ := lM_shaped x hin hd
    rcases h with ⟨b, rfl, ⟨dy, t2, hb, ht2⟩, q⟩ | ⟨b, xs, rfl, hb, q⟩
    · refine ⟨_, rfl, _, rfl, .inl ⟨a, _, dx, _, rfl, ha, _, rfl, _, rfl, .inl ⟨b, _, dy, _, rfl, hb, _, rfl, .inl ⟨_, rfl, .inl rfl, _, rfl, ?_⟩⟩⟩⟩
      refine ite2 (fun _ => ?_) (fun h => absurd (decide_eq_true rfl) h)
      refine ⟨_, rfl, a, _, dx, _, _, rfl, ha, G.cListed.cl, G.cListed.no _ (by decide +kernel), lListed_texts, _, rfl, b, _, dy, _, _, rfl, hb, G.cListed.cl, G.cListed.no _ (by decide +kernel), lListed_texts, _, _, .tup ht.sq (dpAll_flat hf), .tup ht2.sq (dpAll_flat hf), hsh, hsh, ?_⟩
      rw [eqv_same hsh]
      exact q
    · exact ⟨_, rfl, _, rfl, .inl ⟨a, _, dx, _, rfl, ha, _, rfl, _, rfl, .inr ⟨_, .tup hb, _, rfl, .inr ⟨_, rfl, _, rfl, iteF q⟩⟩⟩⟩


/-- has_sign and == of each class -/
structure HM (P : Program) (w : World) (K : Frag) (mg : Str → Option Value) (base : Heap) (k : Nat) (C : Addr) (m : Str) (ps : List Str) (sp : Sp) : Prop where
  me : Meth K C m (He.ma K C m)
  ok : ∃ fd, FnOk P w K mg base CX0 k (He.ma K C m) fd ps sp ∧ Binds K fd ps []
structure EQ (P : Program) (w : World) (K : Frag) (mg : Str → Option Value) (base : Heap) (C : Addr) (sp : Sp) : Prop where
  ok : ∃ fd, FnOk P w K mg base CX0 1 (He.ma K C "__eq__") fd ["self", "other"] sp ∧ Binds K fd ["self", "other"] []
structure G5 (P : Program) (w : World) (K : Frag) (mg : Str → Option Value) (base : Heap) : Prop extends G4 P w K mg base where
  hWord : HM P w K mg base 2 (ca K 0) "has_sign" ["self", "sign"] (spHasWord K)
  eWord : EQ P w K mg base (ca K 0) (spEqWord K)
  hNumber : HM P w K mg base 2 (ca K 1) "has_sign" ["self", "sign"] (spHasNumber K)
  eNumber : EQ P w K mg base (ca K 1) (spEqNumber K)
  hFixed : HM P w K mg base 2 (ca K 2) "has_sign" ["self", "sign"] (spHasFixed K)
  eFixed : EQ P w K mg base (ca K 2) (spEqFixed K)
  hListed : HM P w K mg base 2 (ca K 3) "has_sign" ["self", "sign"] (spHasListed K)
  eListed : EQ P w K mg base (ca K 3) (spEqListed K)
  hEnded : HM P w K mg base 2 (ca K 4) "has_sign" ["self", "sign"] (spHasEnded K)
  eEnded : EQ P w K mg base (ca K 4) (spEqEnded K)
theorem G5.has (G : G5 P w K mg base) {H : Hp} {y : Addr} : ∀ {d : PD}, FieldAt K H y d → d.In → d.due = none → ∃ sp, HM P w K mg base 2 (ca K d.ci) "has_sign" ["self", "sign"] sp ∧
    ∀ c Q E, (∀ H', Same H H' → Q (.bl (d.has ⟨#[c]⟩)) H') → sp [.ref y, .str ⟨#[c]⟩] H Q E
  | .word s l m, h, i, u => ⟨_, G.hWord, fun c Q E q => ⟨y, c, s, l, m, rfl, h, i, u, q⟩⟩
  | .number l m, h, i, u => ⟨_, G.hNumber, fun c Q E q => ⟨y, c, l, m, rfl, h, i, u, q⟩⟩
  | .fixed v, h, i, u => ⟨_, G.hFixed, fun c Q E q => ⟨y, c, v, rfl, h, i, u, q⟩⟩
  | .listed x, h, i, u => ⟨_, G.hListed, fun c Q E q => ⟨y, c, x, rfl, h, i, u, q⟩⟩
  | .ended s e l m, h, i, u => ⟨_, G.hEnded, fun c Q E q => ⟨y, c, s, e, l, m, rfl, h, i, u, q⟩⟩
theorem G5.eqs (G : G5 P w K mg base) {H : Hp} {y : Addr} : ∀ {d : PD}, FieldAt K H y d → d.In → d.due = none → ∃ sp, EQ P w K mg base (ca K d.ci) sp ∧
    ∀ u Q E, ((∃ b, u = .ref b ∧ FieldAt K H b d ∧ Q (.bl true) H) ∨ (∃ b xs, u = .ref b ∧ H b = some (.tup xs) ∧ Q (.bl false) H)) → sp [.ref y, u] H Q E
  | .word s l m, h, i, u => ⟨_, G.eWord, fun v Q E q => ⟨y, v, s, l, m, rfl, h, i, u, q⟩⟩
  | .number l m, h, i, u => ⟨_, G.eNumber, fun v Q E q => ⟨y, v, l, m, rfl, h, i, u, q⟩⟩
  | .fixed z, h, i, u => ⟨_, G.eFixed, fun v Q E q => ⟨y, v, z, rfl, h, i, u, q⟩⟩
  | .listed x, h, i, u => ⟨_, G.eListed, fun v Q E q => ⟨y, v, x, rfl, h, i, u, q⟩⟩
  | .ended s e l m, h, i, u => ⟨_, G.eEnded, fun v Q E q => ⟨y, v, s, e, l, m, rfl, h, i, u, q⟩⟩
/-- what is handed in as the field of a marked one -/
def IVAt (K : Frag) (H : Hp) (fv : V) : OD → Prop
  | .val u => fv = u ∧ (u = .non ∨ u = .str "word")
  | .pl d => ∃ y, fv = .ref y ∧ FieldAt K H y d ∧ d.In ∧ d.due = none
  | .mk .. => ∃ y dx fs, fv = .ref y ∧ H y = some (.ins (ca K 5) dx fs)
theorem kit5 (G : G4 P w K mg base) : ∀ i, i < 6 → kitAny K (.ref (ca K i)) [.ref (ca K 0), .ref (ca K 1), .ref (ca K 2), .ref (ca K 3), .ref (ca K 4)] = some (decide (i < 5))
  | 0, h => by
    have k := fun j (hj : j < 6) => G.kit 0 j h hj
    exact kitAny_cons (b := true) (k 0 (by decide)) (fun z => nomatch z) (fun _ => rfl)
  | 1, h => by
    have k := fun j (hj : j < 6) => G.kit 1 j h hj
    exact kitAny_cons (b := false) (k 0 (by decide)) (fun _ => kitAny_cons (b := true) (k 1 (by decide)) (fun z => nomatch z) (fun _ => rfl)) (fun z => nomatch z)
  | 2, h => by
    have k := fun j (hj : j < 6) => G.kit 2 j h hj
    exact kitAny_cons (b := false) (k 0 (by decide)) (fun _ => kitAny_cons (b := false) (k 1 (by decide)) (fun _ => kitAny_cons (b := true) (k 2 (by decide)) (fun z => nomatch z) (fun _ => rfl)) (fun z => nomatch z)) (fun z => nomatch z)
  | 3, h => by
    have k := fun j (hj : j < 6) => G.kit 3 j h hj
    exact kitAny_cons (b := false) (k 0 (by decide)) (fun _ => kitAny_cons (b := false) (k 1 (by decide)) (fun _ => kitAny_cons (b := false) (k 2 (by decide)) (fun _ => kitAny_cons (b := true) (k 3 (by decide)) (fun z => nomatch z) (fun _ => rfl)) (fun z => nomatch z)) (fun z => nomatch z)) (fun z => nomatch z)
  | 4, h => by
    have k := fun j (hj : j < 6) => G.kit 4 j h hj
    exact kitAny_cons (b := false) (k 0 (by decide)) (fun _ => kitAny_cons (b := false) (k 1 (by decide)) (fun _ => kitAny_cons (b := false) (k 2 (by decide)) (fun _ => kitAny_cons (b := false) (k 3 (by decide)) (fun _ => kitAny_cons (b := true) (k 4 (by decide)) (fun z => nomatch z) (fun _ => rfl)) (fun z => nomatch z)) (fun z => nomatch z)) (fun z => nomatch z)) (fun z => nomatch z)
  | 5, h => by
    have k := fun j (hj : j < 6) => G.kit 5 j h hj
    exact kitAny_cons (b := false) (k 0 (by decide)) (fun _ => kitAny_cons (b := false) (k 1 (by decide)) (fun _ => kitAny_cons (b := false) (k 2 (by decide)) (fun _ => kitAny_cons (b := false) (k 3 (by decide)) (fun _ => kitAny_cons (b := false) (k 4 (by decide)) (fun _ => kitAny_nil) (fun z => nomatch z)) (fun z => nomatch z)) (fun z => nomatch z)) (fun z => nomatch z)) (fun z => nomatch z)
  | n + 6, h => absurd h (by omega)
theorem kit5N (G : G4 P w K mg base) : kitAny K (.type "NoneType") [.ref (ca K 0), .ref (ca K 1), .ref (ca K 2), .ref (ca K 3), .ref (ca K 4)] = some false := by
  have k := G.kitN
  exact kitAny_cons (b := false) (k 0 (by decide)) (fun _ => kitAny_cons (b := false) (k 1 (by decide)) (fun _ => kitAny_cons (b := false) (k 2 (by decide)) (fun _ => kitAny_cons (b := false) (k 3 (by decide)) (fun _ => kitAny_cons (b := false) (k 4 (by decide)) (fun _ => kitAny_nil) (fun z => nomatch z)) (fun z => nomatch z)) (fun z => nomatch z)) (fun z => nomatch z)) (fun z => nomatch z)
theorem kit5S (G : G4 P w K mg base) : kitAny K (.type "str") [.ref (ca K 0), .ref (ca K 1), .ref (ca K 2), .ref (ca K 3), .ref (ca K 4)] = some false := by
  have k := G.kitS
  exact kitAny_cons (b := false) (k 0 (by decide)) (fun _ => kitAny_cons (b := false) (k 1 (by decide)) (fun _ => kitAny_cons (b := false) (k 2 (by decide)) (fun _ => kitAny_cons (b := false) (k 3 (by decide)) (fun _ => kitAny_cons (b := false) (k 4 (by decide)) (fun _ => kitAny_nil) (fun z => nomatch z)) (fun z => nomatch z)) (fun z => nomatch z)) (fun z => nomatch z)) (fun z => nomatch z)
def spMarked (K : Frag) : Sp := fun vs H Q E => ∃ (a dx : Addr) (n m fv : V) (i : OD), vs = [.ref a, n, m, fv] ∧ H a = some (.ins (ca K 5) dx []) ∧ n ∈ mQ ∧ m ∈ mQ ∧ IVAt K H fv i ∧
  (OD.due (.mk n m i) = none → ∀ H2, Same H H2 → Q .non (upd H2 a (.ins (ca K 5) dx (fMarked n m fv)))) ∧ ∀ z, OD.due (.mk n m i) = some z → RaiseE (BF K) "what" (.str z) H E

abbrev s_Marked_init : Stmt := inClass (top 25) 0
theorem sc_Marked_init : FnScope ["self", "none", "mark", "field"] ["self", "none", "mark", "field"] (defScope s_Marked_init) := ⟨rfl, rfl, rfl, by decide +kernel, rfl, by decide +kernel, by decide +kernel⟩

theorem ok_Marked_init (F : FunD K "__init__" "Marked.__init__" (defArgs s_Marked_init) (defBody s_Marked_init) (defScope s_Marked_init) [] [] f fd) (G : G5 P w K mg base) : FnOk P w K mg base (L2.CX P w) 4 f fd ["self", "none", "mark", "field"] (spMarked K) := by
  refine F.ok (CX := (L2.CX P w)) sc_Marked_init (fun vs H Q E h => ?_) (fun cdv A outer s H vs Q E hr h => ?_)
  · obtain ⟨a, dx, n, m, fv, i, rfl, _⟩ := h
    rfl
  · have hr3 : Room 3 _ := hr
    have hr2 : Room 2 _ := hr.mono (by decide)
    refine ⟨_, (pss_cons (ps_if (pt_not (pt_val (pe_fn G.is_sign (hr2.mono (by decide)) pass0 (by rfl) (pa_cons (pv 1) pa_nil))))
      (pss_one (ps_raise rfl (takes_of rfl rfl rfl rfl) (pmk_1 G.bf hr2 (by rfl) (pa_cons pe_str pa_nil))))
      pss_nil)
    (pss_cons (ps_if (PW.pt (pw_or (pt_not (pt_val (pe_fn G.is_sign (hr2.mono (by decide)) pass0 (by rfl) (pa_cons (pv 2) pa_nil)))) (pw_or1 (pt_cmpR op_eq (pv 2) (pv 1) (nomark _)))))
      (pss_one (ps_raise rfl (takes_of rfl rfl rfl rfl) (pmk_1 G.bf hr2 (by rfl) (pa_cons pe_str pa_nil))))
      pss_nil)
    (pss_cons (ps_if (pt_not (pt_val (pe_callB call_ieT (by rfl) G.isinstance (by decide +kernel) (pa_cons (pv 3) (pa_cons (pe_tupS (pa_cons (pe_gref (by rfl) G.cWord.mgC) (pa_cons (pe_gref (by rfl) G.cNumber.mgC) (pa_cons (pe_gref (by rfl) G.cFixed.mgC) (pa_cons (pe_gref (by rfl) G.cListed.mgC) (pa_cons (pe_gref (by rfl) G.cEnded.mgC) pa_nil)))))) pa_nil)))))
      (pss_one (ps_raise rfl (takes_of rfl rfl rfl rfl) (pmk_1 G.bf hr2 (by rfl) (pa_cons pe_str pa_nil))))
      pss_nil)
    (pss_cons (ps_if (PW.pt (pw_or (pt_val (pe_methD (CX := CX0) (pv 3) pass0 (pa_cons (pv 1) pa_nil))) (pw_or1 (pt_val (pe_methD (CX := CX0) (pv 3) pass0 (pa_cons (pv 2) pa_nil))))))
      (pss_one (ps_raise rfl (takes_of rfl rfl rfl rfl) (pmk_1 G.bf hr2 (by rfl) (pa_cons pe_str pa_nil))))
      pss_nil)
    (pss_cons (ps_fld (pv 0) (pv 1) rfl)
    (pss_cons (ps_fld (pv 0) (pv 2) rfl)
    (pss_one (ps_fld (pv 0) (pv 3) rfl)))))))), ?_⟩
    obtain ⟨a, dx, n, m, fv, i, rfl, ha, hn, hm, hI, q1, q2⟩ := h
    refine ⟨_, rfl, n, rfl, mQ_vM hn, _, rfl, ?_⟩
    show if (!isSignB n) = true then _ else _
    refine ite2 (fun h1 => mkO_1 (q2 _ (by show (if (!isSignB n) = true then _ else _) = _; rw [if_pos h1]))) (fun h1 => ?_)
    have e1 : OD.due (.mk n m i) = if (!isSignB m || decide (m = n)) = true then (some "mark" : Option Str) else iDue n m i := by show (if (!isSignB n) = true then _ else _) = _; rw [if_neg h1]
    rw [e1] at q1 q2
    have h1' : isSignB n = true := by cases z : isSignB n with | true => rfl | false => exact absurd (by rw [z]; rfl) h1
    obtain ⟨en, cn⟩ := mQ_one n hn h1'
    refine ⟨_, rfl, m, rfl, mQ_vM hm, _, rfl, ?_⟩
    show if (!isSignB m) = true then _ else _
    refine ite2 (fun h2 => mkO_1 (q2 _ (by rw [h2]; rfl))) (fun h2 => ?_)
    have h2' : isSignB m = true := by cases z : isSignB m with | true => rfl | false => exact absurd (by rw [z]; rfl) h2
    obtain ⟨em, cm⟩ := mQ_one m hm h2'
    refine ⟨_, rfl, _, rfl, (by rw [en, em]; rfl), _, rfl, ?_⟩
    refine ite2 (fun h3 => mkO_1 (q2 _ (by rw [h3, Bool.or_true]; rfl))) (fun h3 => ?_)
    rw [h2', Bool.eq_false_iff.mpr h3] at q1 q2
    replace q1 : iDue n m i = none → ∀ H2, Same H H2 → Q .non (upd H2 a (.ins (ca K 5) dx (fMarked n m fv))) := q1
    replace q2 : ∀ z, iDue n m i = some z → RaiseE (BF K) "what" (.str z) H E := q2
    clear e1
    cases i with
    | val u =>
      obtain ⟨rfl, rfl | rfl⟩ := hI
      · refine ⟨_, rfl, by show 5 ≤ 1000; decide, fun p0 H0 hp0 S0 e0 => ⟨_, p0, _, _, _, false, rfl, e0, .cons (.own _) (.cons (.own _) (.cons (.own _) (.cons (.own _) (.cons (.own _) Paired.nil)))), .x (.base .non), (kit5N G.toG4), _, rfl, iteT (mkO_1 (raise_mono S0 (q2 _ rfl)))⟩⟩
      · refine ⟨_, rfl, by show 5 ≤ 1000; decide, fun p0 H0 hp0 S0 e0 => ⟨_, p0, _, _, _, false, rfl, e0, .cons (.own _) (.cons (.own _) (.cons (.own _) (.cons (.own _) (.cons (.own _) Paired.nil)))), .x (.base (.str _)), (kit5S G.toG4), _, rfl, iteT (mkO_1 (raise_mono S0 (q2 _ rfl)))⟩⟩
    | mk n2 m2 i2 =>
      obtain ⟨y, dy, fs, rfl, hy⟩ := hI
      refine ⟨_, rfl, by show 5 ≤ 1000; decide, fun p0 H0 hp0 S0 e0 => ⟨_, p0, _, _, _, false, rfl, e0, .cons (.own _) (.cons (.own _) (.cons (.own _) (.cons (.own _) (.cons (.own _) Paired.nil)))), G.ty (i := 5) (by decide) (S0 _ _ hy), (kit5 G.toG4 5 (by decide)), _, rfl, iteT (mkO_1 (raise_mono S0 (q2 _ rfl)))⟩⟩
    | pl d =>
      obtain ⟨y, rfl, hy, hin, hd⟩ := hI
      have eD : iDue n m (.pl d) = if (d.has ⟨#[(strV n).cps.getD 0 0]⟩ || d.has ⟨#[(strV m).cps.getD 0 0]⟩) = true then (some "field" : Option Str) else none := by
        have e1 : strV n = ⟨#[(strV n).cps.getD 0 0]⟩ := congrArg strV en
        have e2 : strV m = ⟨#[(strV m).cps.getD 0 0]⟩ := congrArg strV em
        rw [← e1, ← e2]
        rfl
      rw [eD] at q1 q2
      obtain ⟨dy, fs, hi, lf⟩ := hy.ins
      refine ⟨_, rfl, by show 5 ≤ 1000; decide, fun p0 H0 hp0 S0 e0 => ⟨_, p0, _, _, _, true, rfl, e0, .cons (.own _) (.cons (.own _) (.cons (.own _) (.cons (.own _) (.cons (.own _) Paired.nil)))), G.ty (Nat.lt_of_lt_of_le d.ci_lt (by decide)) (S0 _ _ hi), ((kit5 G.toG4 d.ci (Nat.lt_of_lt_of_le d.ci_lt (by decide))).trans (congrArg some (decide_eq_true d.ci_lt))), _, rfl, iteF ?_⟩⟩
      obtain ⟨sp, M, Hs⟩ := G.has (hy.same S0) hin hd
      obtain ⟨fdh, Fh, Bh⟩ := M.ok
      refine ⟨_, rfl, y, _, dy, _, fs, 2, fdh, _, sp, rfl, S0 _ _ hi, lf, G.cl _ (Nat.lt_of_lt_of_le d.ci_lt (by decide)), M.me, Fh, hr2, Bh, _, rfl, ?_⟩
      show sp [.ref y, n] H0 _ _
      rw [en]
      refine Hs _ _ _ fun H1 S1 => ⟨_, rfl, ?_⟩
      have S1' := S0.trans S1
      refine ite2 (fun h4 => mkO_1 (raise_mono S1' (q2 _ (by rw [h4]; rfl)))) (fun h4 => ?_)
      obtain ⟨sp2, M2, Hs2⟩ := G.has (hy.same S1') hin hd
      obtain ⟨fdh2, Fh2, Bh2⟩ := M2.ok
      refine ⟨_, rfl, y, _, dy, _, fs, 2, fdh2, _, sp2, rfl, S1' _ _ hi, lf, G.cl _ (Nat.lt_of_lt_of_le d.ci_lt (by decide)), M2.me, Fh2, hr2, Bh2, _, rfl, ?_⟩
      show sp2 [.ref y, m] H1 _ _
      rw [em]
      refine Hs2 _ _ _ fun H2 S2 => ⟨_, rfl, ?_⟩
      have S2' := S1'.trans S2
      refine ite2 (fun h5 => mkO_1 (raise_mono S2' (q2 _ (by rw [h5, Bool.or_true]; rfl)))) (fun h5 => ?_)
      have z := q1 (by rw [Bool.eq_false_iff.mpr h4, Bool.eq_false_iff.mpr h5]; rfl) H2 S2'
      rw [← en, ← em]
      have ha := S2' _ _ ha
      refine ⟨_, rfl, _, rfl, a, _, dx, _, rfl, ha, G.cMarked.cl, G.cMarked.no _ (by decide +kernel), (by show 0 < 1000; decide), _, rfl, _, rfl, a, _, dx, _, rfl, upd_same, G.cMarked.cl, G.cMarked.no _ (by decide +kernel), (by show 1 < 1000; decide), _, rfl, _, rfl, a, _, dx, _, rfl, upd_same, G.cMarked.cl, G.cMarked.no _ (by decide +kernel), (by show 2 < 1000; decide), ?_⟩
      show Q .non _
      rw [upd_upd, upd_upd]
      exact z

/-- a marked field -/
def MkAt (K : Frag) (H : Hp) (a : Addr) (n m : V) (d : PD) : Prop := ∃ dx y, H a = some (.ins (ca K 5) dx (fMarked n m (.ref y))) ∧ FieldAt K H y d
def spEqMarked (K : Frag) : Sp := fun vs H Q _ => ∃ (a : Addr) (u n m : V) (d : PD), vs = [.ref a, u] ∧ MkAt K H a n m d ∧ d.In ∧ d.due = none ∧ scal n n = true ∧ scal m m = true ∧
  ((∃ b, u = .ref b ∧ MkAt K H b n m d ∧ Q (.bl true) H) ∨ (∃ b xs, u = .ref b ∧ H b = some (.tup xs) ∧ Q (.bl false) H))

abbrev s_Marked_eq : Stmt := inClass (top 25) 1
theorem sc_Marked_eq : FnScope ["self", "other"] ["self", "other"] (defScope s_Marked_eq) := ⟨rfl, rfl, rfl, by decide +kernel, rfl, by decide +kernel, by decide +kernel⟩

theorem ok_Marked_eq (F : FunD K "__eq__" "Marked.__eq__" (defArgs s_Marked_eq) (defBody s_Marked_eq) (defScope s_Marked_eq) [] [] f fd) (G : G5 P w K mg base) : FnOk P w K mg base CX0 2 f fd ["self", "other"] (spEqMarked K) := by
  refine F.ok (CX := CX0) sc_Marked_eq (fun vs H Q E h => ?_) (fun cdv A outer s H vs Q E hr h => ?_)
  · obtain ⟨a, u, n, m, d, rfl, _⟩ := h
    rfl
  · refine ⟨_, PSs.nox (pss_one (ps_ret (pe_and (pe_cmpR op_isA (pe_callTy call_tyA (by rfl) G.type (by decide +kernel) (pa_cons (pv 0) pa_nil)) (pe_callTy call_tyA (by rfl) G.type (by decide +kernel) (pa_cons (pv 1) pa_nil)) (nomark _)) (pe_and (pe_cmpR op_eq (pe_fld (pv 0) rfl) (pe_fld (pv 1) rfl) (nomark _)) (pe_and (pe_cmpR op_eq (pe_fld (pv 0) rfl) (pe_fld (pv 1) rfl) (nomark _)) (pe_one (pe_cmpR (op_eqO (CX := CX0) pass0) (pe_fld (pv 0) rfl) (pe_fld (pv 1) rfl) (nomark _)))))))), ?_⟩
    obtain ⟨a, u, n, m, d, rfl, ⟨dx, y, ha, hy⟩, hin, hd, k0, k1, h⟩ := h
    rcases h with ⟨b, rfl, ⟨dy, y2, hb, hy2⟩, q⟩ | ⟨b, xs, rfl, hb, q⟩
    · refine ⟨_, rfl, _, rfl, .inl ⟨a, _, dx, _, rfl, ha, _, rfl, _, rfl, .inl ⟨b, _, dy, _, rfl, hb, _, rfl, .inl ⟨_, rfl, .inl rfl, _, rfl, ?_⟩⟩⟩⟩
      refine ite2 (fun _ => ?_) (fun h => absurd (decide_eq_true rfl) h)
      refine ⟨_, rfl, a, _, dx, _, _, rfl, ha, G.cMarked.cl, G.cMarked.no _ (by decide +kernel), lMarked_none, _, rfl, b, _, dy, _, _, rfl, hb, G.cMarked.cl, G.cMarked.no _ (by decide +kernel), lMarked_none, k0, _, rfl, ?_⟩
      refine ite2 (fun _ => ?_) (fun h => absurd (decide_eq_true rfl) h)
      refine ⟨_, rfl, a, _, dx, _, _, rfl, ha, G.cMarked.cl, G.cMarked.no _ (by decide +kernel), lMarked_mark, _, rfl, b, _, dy, _, _, rfl, hb, G.cMarked.cl, G.cMarked.no _ (by decide +kernel), lMarked_mark, k1, _, rfl, ?_⟩
      refine ite2 (fun _ => ?_) (fun h => absurd (decide_eq_true rfl) h)
      obtain ⟨ey, fs, hi, _⟩ := hy.ins
      obtain ⟨ey2, fs2, hi2, _⟩ := hy2.ins
      have h6 := Nat.lt_of_lt_of_le d.ci_lt (by decide : 5 ≤ 6)
      obtain ⟨sp, M, Hs⟩ := G.eqs hy hin hd
      obtain ⟨fde, Fe, Be⟩ := M.ok
      refine ⟨_, rfl, a, _, dx, _, _, rfl, ha, G.cMarked.cl, G.cMarked.no _ (by decide +kernel), lMarked_field, _, rfl, b, _, dy, _, _, rfl, hb, G.cMarked.cl, G.cMarked.no _ (by decide +kernel), lMarked_field, y, ca K d.ci, ey, fs, .ref (ca K d.ci), rfl, hi, (G.kc _ h6).eq, G.ty h6 hi2, ?_, 1, fde, _, sp, (G.kc _ h6).ke, Fe, hr, Be, Hs _ _ _ (.inl ⟨y2, rfl, hy2, true, rfl, q⟩)⟩
      unfold notFirst
      rw [beq_self_eq_true]
      rfl
    · exact ⟨_, rfl, _, rfl, .inl ⟨a, _, dx, _, rfl, ha, _, rfl, _, rfl, .inr ⟨_, .tup hb, _, rfl, .inr ⟨_, rfl, _, rfl, iteF q⟩⟩⟩⟩


end
end L2.K07

set_option Elab.async false
set_option linter.all false
set_option maxRecDepth 100000
set_option maxHeartbeats 4000000
/-! Comparisons with instances in them: lists by !=, tuples of unlike lengths by ==, an instance != anything that is no subclass' instance. -/
namespace L2.Jk
open PySem PySem.W PySem.Spec PySem.Calls PyProof.Rows PySem.SeqAt
open AutoSeq1 (wpAny_loadPart')
open MeetsSeq MeetsSeq2 MeetsSeq3 SeqRoads2
section
variable {prog : Program} {w : World} {A : Around} {R : Result → Shared → Prop} {E : Value → Shared → Prop} {s : Shared}
/-- the two lists, read anew each turn, have N items each, and the next two are equal -/
def LsI (prog : Program) (w : World) (A : Around) (E : Value → Shared → Prop) (a b : Addr) (N : Nat) (J : Nat → Shared → Prop) : Prop :=
  ∀ i s, J i s → ∃ (its jts : Array Value) (n m : Nat), s.heap.get? a = some { cls := .type "list", data := .seq its n } ∧ s.heap.get? b = some { cls := .type "list", data := .seq jts m } ∧ its.size = N ∧ jts.size = N ∧
    ∀ (h1 : i < its.size) (h2 : i < jts.size), wpAny (model prog w) A.in1 (eqBool its[i] jts[i]) (fun r s' => r = true ∧ J (i + 1) s') E s
theorem ne_turns (a b : Addr) (N : Nat) (J : Nat → Shared → Prop) (hJ : LsI prog w A (fun e s' => R (.error e) s') a b N J) (fin : ∀ s, J N s → R (.ok (.ret (.bool false))) s) (m : Nat) :
    ∀ i : Nat, N - i = m → i ≤ N → ∀ s, J i s → wpAny (model prog w) A.in1 (Builtin.«list.__eq__.loop» ⟨[.ref a, .ref b, rawInt i, rawInt 3], []⟩) (GQ.FinOf prog w A R) (fun e s' => R (.error e) s') s := by
  induction m with
  | zero =>
    intro i hm hi s h
    obtain ⟨its, jts, n, m, ea, eb, sa, sb, _⟩ := hJ _ _ h
    obtain rfl : i = N := by omega
    have done : R (.ok (.ret (.bool false))) s := fin s h
    obtain ⟨hp, g, d, tk, os⟩ := s
    wp_walk using wpAny_loadPart' ea, wpAny_loadPart' eb
    rw [show its[((i : Nat) : Int).toNat]? = none by simp; omega, show jts[((i : Nat) : Int).toNat]? = none by simp; omega]
    wp_walk using wpAny_loadPart' ea, wpAny_loadPart' eb
    show R (.ok (.ret (.bool (its.size != jts.size)))) _
    rw [sa, sb]
    simpa using done
  | succ m ih =>
    intro i hm hi s h
    obtain ⟨its, jts, n, k, ea, eb, sa, sb, turn⟩ := hJ _ _ h
    have l1 : i < its.size := by omega
    have l2 : i < jts.size := by omega
    have one := turn l1 l2
    obtain ⟨hp, g, d, tk, os⟩ := s
    wp_walk using wpAny_loadPart' ea, wpAny_loadPart' eb
    rw [show its[((i : Nat) : Int).toNat]? = some its[i] by simp [l1], show jts[((i : Nat) : Int).toNat]? = some jts[i] by simp [l2]]
    refine wpAny_bind (wpAny_mono one (fun r s2 q2 => ?_) fun _ _ x => x)
    obtain ⟨rfl, q2⟩ := q2
    have next := ih (i + 1) (by omega) (by omega) s2 q2
    obtain ⟨hp2, g2, d2, tk2, os2⟩ := s2
    wp_walk
    rw [show ((i : Int) + 1) = ((i + 1 : Nat) : Int) by omega]
    refine ⟨plainId_quiet plain_eq_loop _, codeAny_builtin entry_eq_loop ?_⟩
    rw [Around.under_plainId plain_eq_loop _]
    exact next
theorem list_ne_same (a b : Addr) (N : Nat) (J : Nat → Shared → Prop) (hJ : LsI prog w A (fun e s' => R (.error e) s') a b N J) (fin : ∀ s, J N s → R (.ok (.ret (.bool false))) s) (h : J 0 s) :
    wpAny (model prog w) A.in1 (Builtin.«list.__ne__» ⟨[.ref a, .ref b], []⟩) (GQ.FinOf prog w A R) (fun e s' => R (.error e) s') s := by
  obtain ⟨its, jts, n, m, ea, eb, sa, sb, _⟩ := hJ _ _ h
  have all := ne_turns (A := A) (R := R) a b N J hJ fin _ 0 rfl (Nat.zero_le _) s h
  obtain ⟨hp, g, d, tk, os⟩ := s
  have f3 := AutoSeq1.sub_list_list
  have same : ¬ (its.size != jts.size) = true := by simp [sa, sb]
  wp_walk using wpAny_loadPart' ea, wpAny_loadPart' eb
  refine ⟨plainId_quiet plain_eq_loop _, codeAny_builtin entry_eq_loop ?_⟩
  rw [Around.under_plainId plain_eq_loop _]
  exact all
/-- == of tuples of unlike lengths whose items are equal as far as both go -/
theorem tup_eq_pre (l b : Addr) (its jts : Array Value) (n n2 : Nat) (dd dd2 : Option Addr) (sl sl2 : Array (Option Value)) (hsz : jts.size < its.size) (J : Nat → Shared → Prop)
    (turn : ∀ i (h1 : i < its.size) (h2 : i < jts.size) s, J i s → wpAny (model prog w) A.in1 (eqBool its[i] jts[i]) (fun r s' => r = true ∧ J (i + 1) s') (fun e s' => R (.error e) s') s)
    (fin : ∀ s, J jts.size s → R (.ok (.ret (.bool false))) s) (hl : s.heap.get? l = some { cls := .type "tuple", dict := dd, data := .seq its n, slots := sl }) (hb : s.heap.get? b = some { cls := .type "tuple", dict := dd2, data := .seq jts n2, slots := sl2 })
    (h : J 0 s) : wpAny (model prog w) A.in1 (Builtin.«tuple.__eq__» ⟨[.ref l, .ref b], []⟩) (GQ.FinOf prog w A R) (fun e s' => R (.error e) s') s := by
  have f2 := AutoSeq1.sub_tuple_tuple
  have len : (its.toList.zip jts.toList).length = jts.size := by simp; omega
  have h0 := h
  obtain ⟨hp, g, d, tk, os⟩ := s
  wp_walk using wpAny_loadPart' hl, wpAny_loadPart' hb, wpAny_forIn_list _ (fun rest b s' => b.1 = none ∧ ∃ i, rest = (its.toList.zip jts.toList).drop i ∧ i ≤ jts.size ∧ J i s') _
  case turn =>
    rintro ⟨y, x⟩ rest b s' ⟨hb', i, hz, hi, hJ⟩
    have lt : i < (its.toList.zip jts.toList).length := by
      refine Nat.lt_of_not_le fun z => ?_
      rw [List.drop_of_length_le z] at hz
      cases hz
    have h2 : i < jts.size := len ▸ lt
    have h1 : i < its.size := by omega
    rw [List.drop_eq_getElem_cons lt] at hz
    obtain ⟨e1, e2⟩ := List.cons.inj hz
    obtain rfl : y = its[i] := by simpa using congrArg Prod.fst e1
    obtain rfl : x = jts[i] := by simpa using congrArg Prod.snd e1
    refine wpAny_bind (wpAny_mono (turn i h1 h2 s' hJ) (fun r s2 q2 => ?_) fun _ _ x => x)
    obtain ⟨rfl, q2⟩ := q2
    wp_walk
    exact ⟨rfl, i + 1, e2, h2, q2⟩
  case fin =>
    rintro ⟨b1, b2⟩ s' ⟨hb', i, hz, hi, hJ⟩
    dsimp only at hb'
    subst hb'
    have ge : jts.size ≤ i := by
      refine Nat.le_of_not_lt fun z => ?_
      rw [List.drop_eq_getElem_cons (by rw [len]; exact z)] at hz
      cases hz
    obtain rfl : i = jts.size := by omega
    have hR := fin s' hJ
    have ns : (its.size == jts.size) = false := beq_eq_false_iff_ne.mpr (by omega)
    wp_walk
    simpa [Builtin.Tuple.tupleCompareSizes, ns] using hR
  case h => exact ⟨rfl, 0, rfl, Nat.zero_le _, h0⟩
end
section
variable {X : Cx} {n : Nat} {D : Eqv}
/-- xs != ys of two lists whose items D says to be equal -/
def rNeL (D : Eqv) : R2 := fun x y H Q => DList D x y H ∧ ∀ H', Same H H' → Q (.bl false) H'
theorem op_neL (hD : Mon D) (h : EqG X n D) (hr : Room (n + 1) X.A) : OpR X (compareOp .NotEq) (rNeL D) := by
  intro pins s σ H x y v u Q I rx ry hq
  obtain ⟨⟨a, b, xs, ys, rfl, rfl, ha, hb, p⟩, q⟩ := hq
  cases rx
  cases ry
  obtain ⟨_, its, n1, r, e⟩ := I.hok a _ ha
  obtain ⟨_, jts, n2, r2, e2⟩ := I.hok b _ hb
  show wpAny (model X.prog X.w) X.A (richCompare .NotEq (.ref a) (.ref b)) (EP X pins σ Q) X.xe s
  refine wpAny_richCompare_same_room (op := .NotEq) ⟨_, e, rfl⟩ ⟨_, e2, rfl⟩ PySem.F.slot_list_ne (GQ.call_here PySem.F.slot_list_ne ⟨_, e, rfl⟩ PySem.F.entry_list_ne (PySem.F.args_list_ne_2 _ _) ?_) hr.units0
  refine list_ne_same (R := wants (fun v s' => v ≠ .notImplemented ∧ EP X pins σ Q v s') X.xe) a b xs.length (fun _ s' => LoopI X pins σ H s') (fun i s' q => ?_) (fun s' k => ⟨(fun x => nomatch x), ?_⟩) ⟨H, I, Ext.rfl'⟩
  · obtain ⟨H1, I1, e1⟩ := id q
    obtain ⟨z, its, k, r, e⟩ := I1.hok a _ (e1 _ _ ha)
    obtain ⟨z2, its2, k2, r2, e2⟩ := I1.hok b _ (e1 _ _ hb)
    refine ⟨its.toArray, its2.toArray, k, k2, e, e2, by rw [List.size_toArray, ← r.length], by rw [List.size_toArray, ← r2.length, ← p.1], fun h1 h2 => ?_⟩
    exact turnG hD h ⟨hr, rfl⟩ p r r2 i h1 h2 s' q
  · obtain ⟨H', I', x⟩ := k
    exact ⟨.bl false, H', I', rfl, q H' x⟩
/-- t == u of two tuples, the second one shorter, whose items D says to be equal as far as it goes -/
def rEqP (X : Cx) (D : Eqv) : R2 := fun x y H Q => ∃ a b xs ys, x = .ref a ∧ y = .ref b ∧ SqT X.K H a xs ∧ SqT X.K H b ys ∧ ys.length < xs.length ∧ Prs D (xs.take ys.length) ys H ∧ ∀ H', Same H H' → Q (.bl false) H'
theorem op_eqP (hD : Mon D) (h : EqG X n D) (hr : Room (n + 1) X.A) : OpR X (compareOp .Eq) (rEqP X D) := by
  intro pins s σ H x y v u Q I rx ry hq
  obtain ⟨a, b, xs, ys, rfl, rfl, ha, hb, hlt, p, q⟩ := hq
  cases rx
  cases ry
  obtain ⟨its, r, e, z⟩ := I.tuple ha
  obtain ⟨jts, r2, e2, z2⟩ := I.tuple hb
  have hsz : jts.toArray.size < its.toArray.size := by rw [List.size_toArray, List.size_toArray, ← r.length, ← r2.length]; exact hlt
  obtain ⟨⟨c1, d1, t1, s1⟩, g1, k1, n1, e1⟩ := id e
  obtain ⟨⟨c2, d2, t2, s2⟩, g2, k2, n2, e22⟩ := id e2
  dsimp only at k1 e1 k2 e22
  subst k1 e1 k2 e22
  show wpAny (model X.prog X.w) X.A (richCompare .Eq (.ref a) (.ref b)) (EP X pins σ Q) X.xe s
  refine wpAny_richCompare_same_room (op := .Eq) ⟨_, g1, rfl⟩ ⟨_, g2, rfl⟩ PySem.F.slot_tuple_eq (GQ.call_here PySem.F.slot_tuple_eq ⟨_, g1, rfl⟩ PySem.F.entry_tuple_eq (PySem.F.args_tuple_eq_2 _ _) ?_) hr.units0
  refine tup_eq_pre (R := wants (fun v s' => v ≠ .notImplemented ∧ EP X pins σ Q v s') X.xe) a b its.toArray jts.toArray n1 n2 d1 d2 s1 s2 hsz (fun _ s' => LoopI X pins σ H s') (fun i h1 h2 s' k => ?_) (fun s' k => ⟨(fun x => nomatch x), ?_⟩) g1 g2 ⟨H, I, Ext.rfl'⟩
  · have h1' : i < (its.take ys.length).toArray.size := by
      rw [List.size_toArray, List.length_take, ← r.length]
      rw [List.size_toArray, ← r2.length] at h2
      omega
    have t := turnG hD h ⟨hr, rfl⟩ p (Vals.take ys.length r) r2 i h1' h2 s' k
    have et : (its.take ys.length).toArray[i] = its.toArray[i] := by simp
    rw [et] at t
    exact t
  · obtain ⟨H', I', x⟩ := k
    exact ⟨.bl false, H', I', rfl, q H' x⟩
end
section
variable {X : Cx} {CX : CXT} {E : XK}
/-- x != y, x an instance with an own __eq__ and no __ne__, y a reference whose class does not come first -/
def rNeA (X : Cx) (CX : CXT) (E : XK) : R2 := fun x y H Q => ∃ (a b C dx : Addr) (fs : List (Str × V)) (t : Value), x = .ref a ∧ y = .ref b ∧ H a = some (.ins C dx fs) ∧ EqcC X.K C ∧ TyE X.K H y t ∧ notFirst X.K C t = true ∧
  ∃ (k : Nat) (fd : FuncData) (ps : List Str) (sp : Sp), keepIn X.K (.ref (He.ma X.K C "__eq__")) = true ∧ FnOk X.prog X.w X.K X.mg X.base CX k (He.ma X.K C "__eq__") fd ps sp ∧ Room (k + 1) X.A ∧ Binds X.K fd ps [] ∧ sp [x, y] H (fun v H' => ∃ b, v = .bl b ∧ Q (.bl !b) H') E
theorem op_neA (hx : Passes CX X E) : OpR X (compareOp .NotEq) (rNeA X CX E) := by
  intro pins s σ H x y v u Q I rx ry h
  obtain ⟨a, b, C, dx, fs, t, rfl, rfl, ha, T, ty, nf, k, fd, ps, sp, kp, G, hr, hb, q⟩ := h
  cases rx
  obtain ⟨mA, J, _⟩ := ins_get I.hok ha
  obtain ⟨od, J, _⟩ := J.look
  obtain ⟨P, Z, p, _⟩ := kit_ofE I ry ty
  cases ry
  have hty : Looks (model X.prog X.w) s.heap (typeOf (.ref b)) t := Z.ty _ _ I.kIn p
  obtain ⟨nm, qn, N, bs, hdct, sn, sub, ab, col, dd, k0, k1, k2, k3, k5, nid, hC, ok, ne1, ne2⟩ := T.cls
  have hn : s.heap.Ns N (s.heap.nsMap N) := .of_isNs (isNs_of_in I.kIn ok)
  obtain ⟨of, hof, hcl⟩ := Option.map_eq_some_iff.mp (show (X.K.lookup (He.ma X.K C "__eq__")).map (·.cls) = some (.type "function") from beq_iff_eq.mp T.fn)
  have own : s.heap.OwnEqNoNe a C (He.ma X.K C "__eq__") "object" [.type "object"] := ⟨_, of, nm, qn, N, bs, hdct, sn, sub, ab, col, dd, k0, k1, k2, k3, k5, nid, _, _, J.at_, rfl, I.kIn _ _ hC, hn, ns_at_of I.kIn hn ne1,
    I.kIn _ _ hof, hcl, F.cmp_object.mro, F.cmp_object.eq.lookup, ns_none_of I.kIn hn ne2⟩
  have kin := I.kIn
  have fin : wpAny (model X.prog X.w) X.A (tryCompare (.ref a) "__ne__" (.ref b)) (fun r s' => ∃ v, r = some v ∧ EP X pins σ Q v s') X.xe s := by
    have c := run_in1 (us := [.ref a, .ref b]) (vs := [.ref a, .ref b]) G hr.in1 hb hx I (.cons rfl (.cons rfl .nil)) q
    obtain ⟨hp, g, d, tk, os⟩ := s
    refine tryCompare_ne_ownEq F.cmp_object own (by have := hr.units; omega) (wpAny_mono c (fun z s' hz => ?_) fun _ _ e => e)
    obtain ⟨v', H', I', r', b', rfl, q'⟩ := hz
    obtain rfl : z = Value.bool b' := r'
    exact ⟨b', rfl, _, rfl, .bl !b', H', I', rfl, q'⟩
  show wpAny (model X.prog X.w) X.A (richCompare .NotEq (.ref a) (.ref b)) (EP X pins σ Q) X.xe s
  unfold richCompare
  simp only [oneThing_ref]
  refine wpAny_holding (wpAny_bind (wpAny_cRoomFor (by have := hr.units; omega) ?_))
  rw [cmpInfo_NotEq]
  dsimp only
  refine wpAny_bind (J.type.here (wpAny_bind (hty.here ?_)))
  have last : wpAny (model X.prog X.w) X.A (tryCompare (.ref a) "__ne__" (.ref b)) (fun r s' => ∃ v, r = some v ∧ EP X pins σ Q v s') X.xe s := fin
  split
  · rename_i z
    have e : subIn X.K t (.ref C) = some false := by
      rcases Bool.or_eq_true_iff.mp nf with e | e
      · rw [beq_iff_eq.mp e] at z
        simp at z
      · exact beq_iff_eq.mp e
    refine wpAny_bind ((looks_subIn kin e).here ?_)
    simp only [Bool.false_eq_true, if_false]
    refine wpAny_bind (wpAny_mono last (fun r s' z => ?_) fun _ _ e => e)
    obtain ⟨v, rfl, hq⟩ := z
    exact wpAny_pure hq
  · refine wpAny_bind (wpAny_pure ?_)
    simp only [Bool.false_eq_true, if_false]
    refine wpAny_bind (wpAny_mono last (fun r s' z => ?_) fun _ _ e => e)
    obtain ⟨v, rfl, hq⟩ := z
    exact wpAny_pure hq
end
end L2.Jk

set_option Elab.async false
set_option linter.all false
set_option maxRecDepth 100000
set_option maxHeartbeats 4000000
/-! == inside tuples, whatever it answers: instances with an own __eq__ among the items. -/
namespace L2.Jk
open PySem PySem.W PySem.Spec PySem.Calls PyProof.Rows PySem.SeqAt
open AutoSeq1 (wpAny_loadPart')
open MeetsSeq MeetsSeq2 MeetsSeq3 SeqRoads2
/-- how the items answer, up to the first No -/
def allE (e : Nat → Bool) (n : Nat) : Bool := (List.range n).all e
theorem allE_of {e : Nat → Bool} {n : Nat} (h : ∀ i, i < n → e i = true) : allE e n = true := List.all_eq_true.mpr fun i hi => h i (List.mem_range.mp hi)
theorem allE_no {e : Nat → Bool} {n i : Nat} (hi : i < n) (h : e i = false) : allE e n = false := by
  cases z : allE e n with
  | false => rfl
  | true => rw [List.all_eq_true.mp z i (List.mem_range.mpr hi)] at h; cases h
section
variable {prog : Program} {w : World} {A : Around} {R : Result → Shared → Prop} {E : Value → Shared → Prop} {s : Shared}
theorem tup_eq_any (l b : Addr) (its jts : Array Value) (n n2 : Nat) (dd dd2 : Option Addr) (sl sl2 : Array (Option Value)) (e : Nat → Bool) (J : Nat → Shared → Prop)
    (turn : ∀ i (h1 : i < its.size) (h2 : i < jts.size) s, J i s → wpAny (model prog w) A.in1 (eqBool its[i] jts[i]) (fun r s' => r = e i ∧ J (i + 1) s') (fun e s' => R (.error e) s') s)
    (fin : ∀ i s, J i s → R (.ok (.ret (.bool (allE e (min its.size jts.size) && (its.size == jts.size))))) s) (hl : s.heap.get? l = some { cls := .type "tuple", dict := dd, data := .seq its n, slots := sl }) (hb : s.heap.get? b = some { cls := .type "tuple", dict := dd2, data := .seq jts n2, slots := sl2 })
    (h : J 0 s) : wpAny (model prog w) A.in1 (Builtin.«tuple.__eq__» ⟨[.ref l, .ref b], []⟩) (GQ.FinOf prog w A R) (fun e s' => R (.error e) s') s := by
  have f2 := AutoSeq1.sub_tuple_tuple
  have len : (its.toList.zip jts.toList).length = min its.size jts.size := by simp
  have h0 := h
  obtain ⟨hp, g, d, tk, os⟩ := s
  wp_walk using wpAny_loadPart' hl, wpAny_loadPart' hb, wpAny_forIn_list _ (fun rest b s' => b.1 = none ∧ ∃ i, rest = (its.toList.zip jts.toList).drop i ∧ i ≤ min its.size jts.size ∧ (∀ k, k < i → e k = true) ∧ J i s') _
  case turn =>
    rintro ⟨y, x⟩ rest b s' ⟨hb', i, hz, hi, he, hJ⟩
    have lt : i < (its.toList.zip jts.toList).length := by
      refine Nat.lt_of_not_le fun z => ?_
      rw [List.drop_of_length_le z] at hz
      cases hz
    have h1 : i < its.size := by omega
    have h2 : i < jts.size := by omega
    rw [List.drop_eq_getElem_cons lt] at hz
    obtain ⟨e1, e2⟩ := List.cons.inj hz
    obtain rfl : y = its[i] := by simpa using congrArg Prod.fst e1
    obtain rfl : x = jts[i] := by simpa using congrArg Prod.snd e1
    refine wpAny_bind (wpAny_mono (turn i h1 h2 s' hJ) (fun r s2 q2 => ?_) fun _ _ x => x)
    obtain ⟨rfl, q2⟩ := q2
    cases ez : e i with
    | true =>
      wp_walk
      exact ⟨rfl, i + 1, e2, by omega, fun k hk => if h : k = i then h ▸ ez else he k (by omega), q2⟩
    | false =>
      have hR := fin (i + 1) s2 q2
      rw [allE_no (show i < min its.size jts.size by omega) ez, Bool.false_and] at hR
      wp_walk
      exact hR
  case fin =>
    rintro ⟨b1, b2⟩ s' ⟨hb', i, hz, hi, he, hJ⟩
    dsimp only at hb'
    subst hb'
    have ge : min its.size jts.size ≤ i := by
      refine Nat.le_of_not_lt fun z => ?_
      rw [List.drop_eq_getElem_cons (by rw [len]; exact z)] at hz
      cases hz
    have hR := fin i s' hJ
    rw [allE_of (fun k hk => he k (by omega)), Bool.true_and] at hR
    wp_walk
    simpa [Builtin.Tuple.tupleCompareSizes] using hR
  case h => exact ⟨rfl, 0, rfl, Nat.zero_le _, (fun k hk => absurd hk (Nat.not_lt_zero _)), h0⟩
end
/-- how two values are seen to answer, by the abstract heap -/
abbrev EqvB := V → V → Bool → Hp → Prop
def MonB (D : EqvB) : Prop := ∀ x y b H H', Ext H H' → D x y b H → D x y b H'
def EqGB (X : Cx) (n : Nat) (D : EqvB) : Prop := ∀ (A : Around) (pins : List (Addr × Obj)) (s : Shared) (σ : St) (H : Hp) (x y : V) (u v : Value) (b : Bool), Sub X n A → Inv X pins σ H s → RelV x u → RelV y v → D x y b H →
  wpAny (model X.prog X.w) A (eqBool u v) (fun r s' => r = b ∧ ∃ H', Inv X pins σ H' s' ∧ Ext H H') X.xe s
section
variable {X : Cx} {n : Nat} {D : EqvB}
theorem EqGB.mono {m : Nat} (h : EqGB X n D) (hn : n ≤ m) : EqGB X m D := fun A pins s σ H x y u v b sb => h A pins s σ H x y u v b (sb.mono hn)
theorem EqGB.or {D' : EqvB} (h : EqGB X n D) (h' : EqGB X n D') : EqGB X n (fun x y b H => D x y b H ∨ D' x y b H) := fun A pins s σ H x y u v b sb I rx ry d => by
  rcases d with d | d
  · exact h A pins s σ H x y u v b sb I rx ry d
  · exact h' A pins s σ H x y u v b sb I rx ry d
/-- instances of the class at C with the text's own ==: what it answers -/
def DInB (C : Addr) (R : Addr → Addr → Bool → Hp → Prop) : EqvB := fun x y c H => ∃ a b dx dy fs gs, x = .ref a ∧ y = .ref b ∧ H a = some (.ins C dx fs) ∧ H b = some (.ins C dy gs) ∧ R a b c H ∧ (a = b → c = true)
def spEqB (R : Addr → Addr → Bool → Hp → Prop) : Sp := fun vs H Q _ => ∃ a b c, vs = [.ref a, .ref b] ∧ R a b c H ∧ ∀ H', Ext H H' → Q (.bl c) H'
theorem monB_in {C : Addr} {R : Addr → Addr → Bool → Hp → Prop} (hR : ∀ a b c H H', Ext H H' → R a b c H → R a b c H') : MonB (DInB C R) := fun x y c H H' e d => by
  obtain ⟨a, b, dx, dy, fs, gs, hx, hy, h1, h2, r, z⟩ := d
  exact ⟨a, b, dx, dy, fs, gs, hx, hy, e _ _ h1, e _ _ h2, hR a b c H H' e r, z⟩
theorem eqGB_in {CX : CXT} {C f : Addr} {fd : FuncData} {ps : List Str} {R : Addr → Addr → Bool → Hp → Prop} {E : XK} (F : FnOk X.prog X.w X.K X.mg X.base CX n f fd ps (spEqB R))
    (hs : PySem.W.findIn X.K (.ref C) "__eq__" = some (some (.ref f))) (hf : PySem.W.isFn X.K (.ref f) = true) (hb : Binds X.K fd ps []) (hx : Passes CX X E) : EqGB X n (DInB C R) := by
  intro A pins s σ H x y u v c sb I rx ry d
  obtain ⟨a, b, dx, dy, fs, gs, rfl, rfl, ha, hb', hr, hsame⟩ := d
  cases rx
  cases ry
  by_cases hab : a = b
  · subst hab
    rw [hsame rfl]
    exact SeqAt.EqAt.same (A := A) (s := s) (.ref a) X.prog X.w X.xe _ ⟨rfl, H, I, Ext.rfl'⟩
  refine GQ.eqBool_refG hab ?_
  obtain ⟨mA, J, _⟩ := ins_get I.hok ha
  obtain ⟨mB, J', _⟩ := ins_get I.hok hb'
  obtain ⟨od, J, _⟩ := J.look
  obtain ⟨od', J', _⟩ := J'.look
  obtain ⟨m, hF⟩ := I.fr
  refine cmp_K (op := .Eq) (tb := .ref C) sb.room.units0 hF I.ok.mod.kin J J'.type (by simp [notFirst]) hs hf ?_
  have sp : spEqB R [.ref a, .ref b] H (fun v H' => v = .bl c ∧ Ext H H') E := ⟨a, b, c, rfl, hr, fun H' e => ⟨rfl, e⟩⟩
  have e0 : Env0 X.prog X.w X.K X.mg X.base A X.stack s H := by
    have e := I.env0
    exact ⟨(by rw [sb.fr]; exact e.frames), e.mod, e.bs, e.bsz, e.funs, e.frf, e.hok, e.bare⟩
  have hl := F.len _ _ _ _ sp
  have rv : Vals [V.ref a, V.ref b] [Value.ref a, Value.ref b] := .cons rfl (.cons rfl .nil)
  have bt := hb s [.ref a, .ref b] I.kIn (by simpa using hl)
  refine wpAny_call (codeAny_mono (F.run A X.stack s H ⟨[.ref a, .ref b], []⟩ [.ref a, .ref b] [.ref a, .ref b] _ E sb.room e0 (by simpa using bt) rv sp) fun r s' hq => ?_)
  cases r with
  | error e => exact hx pins σ H s e s' I hq
  | ok fl =>
    cases fl with
    | ret w =>
      obtain ⟨z, H', I', rz, ez, ex⟩ := I.after hq
      subst ez
      cases rz
      exact ⟨c, rfl, rfl, H', I', ex⟩
    | next => exact False.elim hq
    | brk => exact False.elim hq
    | cont => exact False.elim hq
/-- t == u of tuples whose items answer as D says -/
def rEqTB (K : Frag) (D : EqvB) : R2 := fun x y H Q => ∃ (a b : Addr) (xs ys : List V) (e : Nat → Bool), x = .ref a ∧ y = .ref b ∧ SqT K H a xs ∧ SqT K H b ys ∧ (∀ (i : Nat) x y, xs[i]? = some x → ys[i]? = some y → D x y (e i) H) ∧
  ∀ H', Same H H' → Q (.bl (allE e (min xs.length ys.length) && (xs.length == ys.length))) H'
theorem op_eqTB (hD : MonB D) (h : EqGB X n D) (hr : Room (n + 1) X.A) : OpR X (compareOp .Eq) (rEqTB X.K D) := by
  intro pins s σ H x y v u Q I rx ry hq
  obtain ⟨a, b, xs, ys, e, rfl, rfl, ha, hb, p, q⟩ := hq
  cases rx
  cases ry
  obtain ⟨its, r, ea, z⟩ := I.tuple ha
  obtain ⟨jts, r2, eb, z2⟩ := I.tuple hb
  obtain ⟨⟨c1, d1, t1, s1⟩, g1, k1, n1, e1⟩ := id ea
  obtain ⟨⟨c2, d2, t2, s2⟩, g2, k2, n2, e2⟩ := id eb
  dsimp only at k1 e1 k2 e2
  subst k1 e1 k2 e2
  have sz1 : its.toArray.size = xs.length := by rw [List.size_toArray, ← r.length]
  have sz2 : jts.toArray.size = ys.length := by rw [List.size_toArray, ← r2.length]
  show wpAny (model X.prog X.w) X.A (richCompare .Eq (.ref a) (.ref b)) (EP X pins σ Q) X.xe s
  refine wpAny_richCompare_same_room (op := .Eq) ⟨_, g1, rfl⟩ ⟨_, g2, rfl⟩ PySem.F.slot_tuple_eq (GQ.call_here PySem.F.slot_tuple_eq ⟨_, g1, rfl⟩ PySem.F.entry_tuple_eq (PySem.F.args_tuple_eq_2 _ _) ?_) hr.units0
  refine tup_eq_any (R := wants (fun v s' => v ≠ .notImplemented ∧ EP X pins σ Q v s') X.xe) a b its.toArray jts.toArray n1 n2 d1 d2 s1 s2 e (fun _ s' => LoopI X pins σ H s') (fun i h1 h2 s' k => ?_) (fun i s' k => ⟨(fun x => nomatch x), ?_⟩) g1 g2 ⟨H, I, Ext.rfl'⟩
  · obtain ⟨H1, I1, x1⟩ := k
    have i1 : i < xs.length := by rw [← sz1]; exact h1
    have i2 : i < ys.length := by rw [← sz2]; exact h2
    obtain ⟨u', hu, ru⟩ := r.get (List.getElem?_eq_getElem i1)
    obtain ⟨v', hv, rv⟩ := r2.get (List.getElem?_eq_getElem i2)
    have g1' : its[i]? = some its.toArray[i] := by
      have h1' : i < its.length := by simpa using h1
      rw [List.getElem?_eq_getElem h1'] <;> simp
    have g2' : jts[i]? = some jts.toArray[i] := by
      have h2' : i < jts.length := by simpa using h2
      rw [List.getElem?_eq_getElem h2'] <;> simp
    rw [g1'] at hu
    rw [g2'] at hv
    rw [Option.some.inj hu, Option.some.inj hv]
    refine wpAny_mono (h X.A.in1 pins s' σ H1 _ _ u' v' (e i) (Sub.in1 ⟨hr, rfl⟩) I1 ru rv (hD _ _ _ _ _ x1 (p i _ _ (List.getElem?_eq_getElem i1) (List.getElem?_eq_getElem i2)))) (fun r s2 q => ?_) fun _ _ x => x
    obtain ⟨hr', H2, I2, e2⟩ := q
    exact ⟨hr', H2, I2, x1.trans e2⟩
  · obtain ⟨H', I', x⟩ := k
    rw [sz1, sz2]
    exact ⟨.bl _, H', I', rfl, q H' x⟩
end
end L2.Jk

set_option Elab.async false
set_option linter.all false
set_option maxRecDepth 100000
set_option maxHeartbeats 4000000
/-! What is no list stays; as_tuples; pairs, wishes, stretches, mends, layouts are made. -/
namespace L2.K07
open PySem PySem.W PySem.Spec PySem.Calls PyProof.Rows L2.Jk

/-! ### what is no list stays -/
def NL : HO → Prop
  | .lst _ => False
  | _ => True
def Kp (H H' : Hp) : Prop := ∀ c o, NL o → H c = some o → H' c = some o
theorem Kp.refl (H : Hp) : Kp H H := fun _ _ _ h => h
theorem Kp.trans {H H1 H2 : Hp} (a : Kp H H1) (b : Kp H1 H2) : Kp H H2 := fun c o n h => b c o n (a c o n h)
theorem Kp.of {H H' : Hp} (s : Same H H') : Kp H H' := fun c o _ h => s c o h
theorem Kp.but {a : Addr} {xs : List V} {H H' : Hp} (h : H a = some (.lst xs)) (b : But a H H') : Kp H H' := fun c o n e => b c o (fun z => by
  subst z
  rw [h] at e
  cases e
  exact n) e
theorem Kp.updL {p : Addr} {xs : List V} {o : HO} {H : Hp} (h : H p = some (.lst xs)) : Kp H (L2.upd H p o) := Kp.but h (but_upd H p o)
theorem Kp.new {p : Addr} {o : HO} {H : Hp} (h : H p = none) : Kp H (L2.upd H p o) := Kp.of (same_upd h)
theorem nl_tup (xs : List V) : NL (.tup xs) := trivial
theorem nl_ins (C dx : Addr) (fs : List (Str × V)) : NL (.ins C dx fs) := trivial

/-- a class: its name, its attributes -/
structure D0 (K : Frag) (mg : Str → Option Value) (x : Str) (fs : List Str) : Prop where
  mgC : mg x = some (.ref (CA K x))
  cl : Cls K (CA K x)
  no : ∀ f ∈ fs, NoAttr K (CA K x) f
  kk : findIn K (.ref (CA K x)) "__class__" = some (some (.builtin "object.__class__"))
  km : mroIn K (CA K x) (.type "object") = some true
  eq : EqcC K (CA K x)
  kp : keepIn K (.ref (He.ma K (CA K x) "__eq__")) = true
  mkr : Mk K (CA K x) (He.ma K (CA K x) "__init__")
  nt : notFirst K (CA K x) (.type "tuple") = true
  ni : notFirst K (CA K x) (.type "int") = true
  kl : kitOne K (.ref (CA K x)) (.type "list") = some false
  kt : kitOne K (.ref (CA K x)) (.type "tuple") = some false

structure H0 (P : Program) (w : World) (K : Frag) (mg : Str → Option Value) (base : Heap) : Prop extends G5 P w K mg base where
  cPair : D0 K mg "Pair" ["one", "other"]
  cWish : D0 K mg "Wish" ["order", "scans"]
  cStretch : D0 K mg "Stretch" ["kind", "first", "last", "pair"]
  cMend : D0 K mg "Mend" ["joints", "stretches"]
  cLayout : D0 K mg "Layout" ["fields", "joints"]
  dWord : D0 K mg "Word" ["signs", "least", "most"]
  dNumber : D0 K mg "Number" ["least", "most"]
  dFixed : D0 K mg "Fixed" ["width"]
  dListed : D0 K mg "Listed" ["texts"]
  dEnded : D0 K mg "Ended" ["signs", "sign", "least", "most"]
  dMarked : D0 K mg "Marked" ["none", "mark", "field"]
  low : ∃ t, mg "LOW" = some (.str "!" t)
  high : ∃ t, mg "HIGH" = some (.str "~" t)
  nf : ∀ i j, i < 11 → j < 11 → notFirst K (ca K i) (.ref (ca K j)) = true
  ne : ∀ i j, i < 11 → j < 11 → (ca K i = ca K j ↔ i = j)
  kMarked : ClsAt P w K mg base (L2.CX P w) 4 "Marked" (ca K 5) ["self", "none", "mark", "field"] (spMarked K)
  enumerate : mg "enumerate" = none
theorem D0.ty {P : Program} {w : World} {K : Frag} {mg : Str → Option Value} {base : Heap} {x : Str} {fs : List Str} (c : D0 K mg x fs) (G : H0 P w K mg base) {H : Hp} {a dx : Addr} {gs : List (Str × V)} (h : H a = some (.ins (CA K x) dx gs)) : TyE K H (.ref a) (.ref (CA K x)) :=
  .x (.base (.ins h c.cl c.kk G.kn G.kt c.km))

def fPair (v0 v1 : V) : List (Str × V) := (putF "other" v1 (putF "one" v0 []))
theorem lPair_one {v0 v1 : V} : (fPair v0 v1).lookup ("one" : Str) = some v0 := by unfold fPair; rw [lookup_putF, if_neg (by decide +kernel)]; rw [lookup_putF, if_pos rfl]
theorem lPair_other {v0 v1 : V} : (fPair v0 v1).lookup ("other" : Str) = some v1 := by unfold fPair; rw [lookup_putF, if_pos rfl]
def fWish (v0 v1 : V) : List (Str × V) := (putF "scans" v1 (putF "order" v0 []))
theorem lWish_order {v0 v1 : V} : (fWish v0 v1).lookup ("order" : Str) = some v0 := by unfold fWish; rw [lookup_putF, if_neg (by decide +kernel)]; rw [lookup_putF, if_pos rfl]
theorem lWish_scans {v0 v1 : V} : (fWish v0 v1).lookup ("scans" : Str) = some v1 := by unfold fWish; rw [lookup_putF, if_pos rfl]
def fStretch (v0 v1 v2 v3 : V) : List (Str × V) := (putF "pair" v3 (putF "last" v2 (putF "first" v1 (putF "kind" v0 []))))
theorem lStretch_kind {v0 v1 v2 v3 : V} : (fStretch v0 v1 v2 v3).lookup ("kind" : Str) = some v0 := by unfold fStretch; rw [lookup_putF, if_neg (by decide +kernel)]; rw [lookup_putF, if_neg (by decide +kernel)]; rw [lookup_putF, if_neg (by decide +kernel)]; rw [lookup_putF, if_pos rfl]
theorem lStretch_first {v0 v1 v2 v3 : V} : (fStretch v0 v1 v2 v3).lookup ("first" : Str) = some v1 := by unfold fStretch; rw [lookup_putF, if_neg (by decide +kernel)]; rw [lookup_putF, if_neg (by decide +kernel)]; rw [lookup_putF, if_pos rfl]
theorem lStretch_last {v0 v1 v2 v3 : V} : (fStretch v0 v1 v2 v3).lookup ("last" : Str) = some v2 := by unfold fStretch; rw [lookup_putF, if_neg (by decide +kernel)]; rw [lookup_putF, if_pos rfl]
theorem lStretch_pair {v0 v1 v2 v3 : V} : (fStretch v0 v1 v2 v3).lookup ("pair" : Str) = some v3 := by unfold fStretch; rw [lookup_putF, if_pos rfl]
def fMend (v0 v1 : V) : List (Str × V) := (putF "stretches" v1 (putF "joints" v0 []))
theorem lMend_joints {v0 v1 : V} : (fMend v0 v1).lookup ("joints" : Str) = some v0 := by unfold fMend; rw [lookup_putF, if_neg (by decide +kernel)]; rw [lookup_putF, if_pos rfl]
theorem lMend_stretches {v0 v1 : V} : (fMend v0 v1).lookup ("stretches" : Str) = some v1 := by unfold fMend; rw [lookup_putF, if_pos rfl]
def fLayout (v0 v1 : V) : List (Str × V) := (putF "joints" v1 (putF "fields" v0 []))
theorem lLayout_fields {v0 v1 : V} : (fLayout v0 v1).lookup ("fields" : Str) = some v0 := by unfold fLayout; rw [lookup_putF, if_neg (by decide +kernel)]; rw [lookup_putF, if_pos rfl]
theorem lLayout_joints {v0 v1 : V} : (fLayout v0 v1).lookup ("joints" : Str) = some v1 := by unfold fLayout; rw [lookup_putF, if_pos rfl]
/-- no list, no tuple -/
inductive NSq (K : Frag) (H : Hp) : V → Prop
  | flat {v : V} (h : flatV v = true) : NSq K H v
  | pair {a dx : Addr} {fs : List (Str × V)} (h : H a = some (.ins (CA K "Pair") dx fs)) : NSq K H (.ref a)
  | str {a dx : Addr} {fs : List (Str × V)} (h : H a = some (.ins (CA K "Stretch") dx fs)) : NSq K H (.ref a)
theorem NSq.same {K : Frag} {H H' : Hp} {v : V} (S : Same H H') : NSq K H v → NSq K H' v
  | .flat h => .flat h
  | .pair h => .pair (S _ _ h)
  | .str h => .str (S _ _ h)
/-- a list or a tuple -/
def IsQ (H : Hp) (p : Addr) (xs : List V) : Prop := H p = some (.lst xs) ∨ H p = some (.tup xs)
theorem IsQ.same {H H' : Hp} {p : Addr} {xs : List V} (S : Same H H') : IsQ H p xs → IsQ H' p xs
  | .inl h => .inl (S _ _ h)
  | .inr h => .inr (S _ _ h)
def spIs (K : Frag) : Sp := fun vs H Q _ => ∃ v : V, vs = [v] ∧ ((NSq K H v ∧ ∀ H', Same H H' → Q (.bl false) H') ∨ ∃ p xs, v = .ref p ∧ IsQ H p xs ∧ ∀ H', Same H H' → Q (.bl true) H')
def spAT (K : Frag) (n : Nat) : Sp := fun vs H Q _ => ∃ v : V, vs = [v] ∧ ((1 ≤ n ∧ NSq K H v ∧ ∀ H', Same H H' → Q v H') ∨
  (2 ≤ n ∧ ∃ p xs, v = .ref p ∧ IsQ H p xs ∧ xs.length ≤ 1000 ∧ (∀ x ∈ xs, NSq K H x) ∧ ∀ t H', H t = none → Same H H' → H' t = some (.tup xs) → Q (.ref t) H'))
structure H1 (P : Program) (w : World) (K : Frag) (mg : Str → Option Value) (base : Heap) : Prop extends H0 P w K mg base where
  is_sequence : FnAt P w K mg base CX0 1 "is_sequence" ["thing"] (spIs K)
theorem none_of {H H' : Hp} {p : Addr} (S : Same H H') (h : H' p = none) : H p = none := by
  cases e : H p with
  | none => rfl
  | some o => rw [S _ _ e] at h; cases h
theorem kit2 {K : Frag} {t : Value} {b : Bool} (h1 : kitOne K t (.type "list") = some false) (h2 : kitOne K t (.type "tuple") = some b) : kitAny K t [.type "list", .type "tuple"] = some b :=
  kitAny_cons (b := false) h1 (fun _ => kitAny_cons h2 (fun e => by rw [e]; exact kitAny_nil) (fun e => e)) (fun z => nomatch z)
theorem kit_lt {K : Frag} (T : String) (h1 : kitB T "list" = some false) (h2 : kitB T "tuple" = some false) : kitAny K (.type T) [.type "list", .type "tuple"] = some false := kit2 (kit_ty h1) (kit_ty h2)
theorem flat_lt {K : Frag} {v : V} (h : flatV v = true) : kitAny K (.type (tyN v)) [.type "list", .type "tuple"] = some false := by
  cases v with
  | non => exact kit_lt "NoneType" (by decide +kernel) (by decide +kernel)
  | bl b => exact kit_lt "bool" (by decide +kernel) (by decide +kernel)
  | int i => exact kit_lt "int" (by decide +kernel) (by decide +kernel)
  | str z => exact kit_lt "str" (by decide +kernel) (by decide +kernel)
  | _ => cases h
section
variable {P : Program} {w : World} {K : Frag} {mg : Str → Option Value} {base : Heap} {f : Addr} {fd : FuncData}

abbrev s_is_sequence : Stmt := top 27
theorem sc_is_sequence : FnScope ["thing"] ["thing"] (defScope s_is_sequence) := ⟨rfl, rfl, rfl, by decide +kernel, rfl, by decide +kernel, by decide +kernel⟩

theorem ok_is_sequence (F : FunD K "is_sequence" "is_sequence" (defArgs s_is_sequence) (defBody s_is_sequence) (defScope s_is_sequence) [] [] f fd) (G : H0 P w K mg base) : FnOk P w K mg base CX0 1 f fd ["thing"] (spIs K) := by
  refine F.ok (CX := CX0) sc_is_sequence (fun vs H Q E h => ?_) (fun cdv A outer s H vs Q E hr h => ?_)
  · obtain ⟨v, rfl, _⟩ := h
    rfl
  · refine ⟨_, PSs.nox (pss_one (ps_ret (pe_callB call_ieT (by rfl) G.isinstance (by decide +kernel) (pa_cons (pv 0) (pa_cons (pe_tupS (pa_cons (pe_bty (n := "list") (by rfl) G.list (by decide +kernel)) (pa_cons (pe_bty (n := "tuple") (by rfl) G.tuple (by decide +kernel)) pa_nil))) pa_nil))))), ?_⟩
    obtain ⟨v, rfl, h⟩ := h
    refine ⟨_, rfl, by show 2 ≤ 1000; decide, fun p0 H0 hp0 S0 e0 => ?_⟩
    rcases h with ⟨h, q⟩ | ⟨p, xs, rfl, h, q⟩
    · cases h with
      | flat h => exact ⟨_, p0, _, _, _, false, rfl, e0, .cons (.ty _) (.cons (.ty _) Paired.nil), flat_ty h, flat_lt h, q _ S0⟩
      | pair h => exact ⟨_, p0, _, _, _, false, rfl, e0, .cons (.ty _) (.cons (.ty _) Paired.nil), G.cPair.ty G (S0 _ _ h), kit2 G.cPair.kl G.cPair.kt, q _ S0⟩
      | str h => exact ⟨_, p0, _, _, _, false, rfl, e0, .cons (.ty _) (.cons (.ty _) Paired.nil), G.cStretch.ty G (S0 _ _ h), kit2 G.cStretch.kl G.cStretch.kt, q _ S0⟩
    · rcases h with h | h
      · exact ⟨_, p0, _, _, _, true, rfl, e0, .cons (.ty _) (.cons (.ty _) Paired.nil), .x (.base (.lst (S0 _ _ h))), kitAny_cons (b := true) (kit_ty (by decide +kernel)) (fun z => nomatch z) (fun _ => rfl), q _ S0⟩
      · exact ⟨_, p0, _, _, _, true, rfl, e0, .cons (.ty _) (.cons (.ty _) Paired.nil), .x (.base (.tup (S0 _ _ h))), kit2 (kit_ty (by decide +kernel)) (kit_ty (by decide +kernel)), q _ S0⟩

abbrev s_as_tuples : Stmt := top 33
theorem sc_as_tuples : FnScope ["thing", "item"] ["thing"] (defScope s_as_tuples) := ⟨rfl, rfl, rfl, by decide +kernel, rfl, by decide +kernel, by decide +kernel⟩

theorem ok_as_tuples (F : FunD K "as_tuples" "as_tuples" (defArgs s_as_tuples) (defBody s_as_tuples) (defScope s_as_tuples) [] [] f fd) (G : H1 P w K mg base) {n : Nat} (AT : FnAt P w K mg base CX0 (n + 1 + 1) "as_tuples" ["thing"] (spAT K n)) : FnOk P w K mg base CX0 (n + 2 + 1) f fd ["thing"] (spAT K (n + 1)) := by
  refine F.ok (CX := CX0) sc_as_tuples (fun vs H Q E h => ?_) (fun cdv A outer s H vs Q E hr h => ?_)
  · obtain ⟨v, rfl, _⟩ := h
    rfl
  · refine ⟨_, PSs.nox (pss_one (ps_ret (pe_ifExp (pt_val (pe_fn G.is_sequence (hr.mono (by omega)) pass0 (by rfl) (pa_cons (pv 0) pa_nil))) (pe_callTy call_tuple_of (by rfl) G.tuple (by decide +kernel) (pa_cons (pe_lc (own := [("item", 1)]) (g := gName 1) (tt := tYes) rfl sc_as_tuples.nd (pi_or (pi_list (pv 0)) (pi_tup (pv 0))) (blkOk_by (N := ["thing", "item"]) (sc := defScope s_as_tuples) (by decide +kernel)) (fun _ _ _ _ _ => pg_name (i := 1) sc_as_tuples.nd rfl (Or.inl rfl)) (fun _ _ _ _ _ => pts_nil) (fun _ _ _ _ _ => (pe_fn AT (hr.mono (by omega)) pass0 (by rfl) (pa_cons (pv 1) pa_nil)))) pa_nil)) (pv 0)))), ?_⟩
    obtain ⟨v, rfl, h⟩ := h
    rcases h with ⟨hn, h, q⟩ | ⟨hn, p, xs, rfl, h, hl, hx, q⟩
    · exact ⟨_, rfl, v, rfl, .inl ⟨h, fun H0 S0 => ⟨_, rfl, iteF ⟨_, rfl, q _ S0⟩⟩⟩⟩
    · refine ⟨_, rfl, .ref p, rfl, .inr ⟨p, xs, rfl, h, fun H0 S0 => ⟨_, rfl, iteT ?_⟩⟩⟩
      have turn : ∀ (D : Addr) (i : Nat) (x : V) (J : Hp), xs[i]? = some x → LcP H0 D (fun n => xs.take n) i J → (spAT K n) [x] J (fun y H4 => ∃ acc, H4 D = some (.lst acc) ∧ acc.length < sizeLine ∧ LcP H0 D (fun n => xs.take n) (i + 1) (upd H4 D (.lst (acc ++ [y])))) (fun _ _ _ => False) := fun D i x J hi pJ => by
        have li := (List.getElem?_eq_some_iff.mp hi).1
        exact ⟨x, rfl, .inl ⟨by omega, ((hx x (List.mem_of_getElem? hi)).same (S0.trans pJ.1)), fun H4 S4 => pJ.put S4 (by show xs.take (i + 1) = _; rw [List.take_add_one, hi]; rfl) (by omega)⟩⟩
      have last : ∀ (D : Addr) (J : Hp), H0 D = none → LcP H0 D (fun n => xs.take n) xs.length J → ∃ l ys, [V.ref D] = [.ref l] ∧ ((SqL K J l ys ∧ ∀ u, J u = none → Q (.ref u) (upd J u (.tup ys))) ∨ (SqT K J l ys ∧ Q (.ref l) J)) := fun D J hD pJ => by
        have eD : J D = some (.lst xs) := by
          have z : J D = some (.lst (xs.take xs.length)) := pJ.2.2.1
          rw [List.take_length] at z
          exact z
        exact ⟨D, xs, rfl, .inl ⟨SqL.of eD, fun u hu => q u _ (none_of (S0.trans pJ.1) hu) ((S0.trans pJ.1).trans (same_upd hu)) upd_same⟩⟩
      rcases h with h | h
      · refine .inl ⟨_, rfl, p, rfl, ⟨_, SqL.of (S0 _ _ h)⟩, fun D hD => ?_⟩
        refine lc_list (K := K) (a := p) (xs := xs) (LcP H0 D fun n => xs.take n) (LcP.start hD rfl) (fun i J hi pJ => SqL.of (pJ.1 _ _ (S0 _ _ h))) (fun i x J hi pJ => ⟨rfl, _, rfl, turn D i x J hi pJ⟩) (fun J pJ => last D J hD pJ)
      · refine .inr ⟨_, rfl, p, rfl, ⟨_, SqT.of (S0 _ _ h)⟩, fun D hD => ?_⟩
        refine lc_tup (K := K) (a := p) (xs := xs) (LcP H0 D fun n => xs.take n) (LcP.start hD rfl) (fun i J hi pJ => SqT.of (pJ.1 _ _ (S0 _ _ h))) (fun i x J hi pJ => ⟨rfl, _, rfl, turn D i x J hi pJ⟩) (fun J pJ => last D J hD pJ)

end

/-- the parts of a pair: flat -/
structure PkOk (xs ys : List V) : Prop where
  fx : xs.all flatV = true
  fy : ys.all flatV = true
  lx : xs.length ≤ 1000
  ly : ys.length ≤ 1000
  sx : SeqAt.shaped (.tuple (xs.map dV)) = true
  sy : SeqAt.shaped (.tuple (ys.map dV)) = true
def PAt (K : Frag) (H : Hp) (p : Addr) (xs ys : List V) : Prop := ∃ dx t u, H p = some (.ins (CA K "Pair") dx (fPair (.ref t) (.ref u))) ∧ H t = some (.tup xs) ∧ H u = some (.tup ys)
def WAt (K : Frag) (H : Hp) (p : Addr) (b : Bool) (js : List Int) : Prop := ∃ dx t, H p = some (.ins (CA K "Wish") dx (fWish (.bl b) (.ref t))) ∧ H t = some (.tup (js.map V.int))
def SAt (K : Frag) (H : Hp) (p : Addr) (k : Str) (l h : Int) (c : Addr) : Prop := ∃ dx, H p = some (.ins (CA K "Stretch") dx (fStretch (.str k) (.int l) (.int h) (.ref c)))
def MAt (K : Frag) (H : Hp) (p : Addr) (js : List Int) (ss : List Addr) : Prop := ∃ dx t u, H p = some (.ins (CA K "Mend") dx (fMend (.ref t) (.ref u))) ∧ H t = some (.tup (js.map V.int)) ∧ H u = some (.tup (ss.map V.ref))
theorem PAt.kp {K : Frag} {H H' : Hp} {p : Addr} {xs ys : List V} (k : Kp H H') : PAt K H p xs ys → PAt K H' p xs ys
  | ⟨dx, t, u, a, b, c⟩ => ⟨dx, t, u, k _ _ trivial a, k _ _ trivial b, k _ _ trivial c⟩
theorem WAt.kp {K : Frag} {H H' : Hp} {p : Addr} {x : Bool} {js : List Int} (k : Kp H H') : WAt K H p x js → WAt K H' p x js
  | ⟨dx, t, a, b⟩ => ⟨dx, t, k _ _ trivial a, k _ _ trivial b⟩
theorem SAt.kp {K : Frag} {H H' : Hp} {p c : Addr} {x : Str} {l h : Int} (k : Kp H H') : SAt K H p x l h c → SAt K H' p x l h c
  | ⟨dx, a⟩ => ⟨dx, k _ _ trivial a⟩
theorem MAt.kp {K : Frag} {H H' : Hp} {p : Addr} {js : List Int} {ss : List Addr} (k : Kp H H') : MAt K H p js ss → MAt K H' p js ss
  | ⟨dx, t, u, a, b, c⟩ => ⟨dx, t, u, k _ _ trivial a, k _ _ trivial b, k _ _ trivial c⟩
/-- a stretch with its pair -/
structure SqAt (K : Frag) (H : Hp) (p : Addr) (k : Str) (l h : Int) (xs ys : List V) : Prop where
  ex : ∃ c, SAt K H p k l h c ∧ PAt K H c xs ys
theorem SqAt.kp {K : Frag} {H H' : Hp} {p : Addr} {k : Str} {l h : Int} {xs ys : List V} (x : Kp H H') : SqAt K H p k l h xs ys → SqAt K H' p k l h xs ys
  | ⟨c, a, b⟩ => ⟨c, a.kp x, b.kp x⟩
/-- two stretches alike -/
def SR (K : Frag) (a b : Addr) (H : Hp) : Prop := ∃ k l h xs ys, PkOk xs ys ∧ SqAt K H a k l h xs ys ∧ SqAt K H b k l h xs ys
def DS (K : Frag) : Eqv := DIns (CA K "Stretch") (SR K)
theorem SR.ext {K : Frag} {a b : Addr} {H H' : Hp} (e : Ext H H') : SR K a b H → SR K a b H'
  | ⟨k, l, h, xs, ys, o, x, y⟩ => ⟨k, l, h, xs, ys, o, x.kp (Kp.of e), y.kp (Kp.of e)⟩
theorem mon_ds (K : Frag) : Mon (DS K) := mon_ins fun _ _ _ _ e r => r.ext e
theorem ds_of {K : Frag} {H : Hp} {a b : Addr} (r : SR K a b H) : DS K (.ref a) (.ref b) H := by
  obtain ⟨k, l, h, xs, ys, o, ⟨c, ⟨dx, x⟩, _⟩, ⟨c2, ⟨dy, y⟩, _⟩⟩ := id r
  exact ⟨a, b, dx, dy, _, _, rfl, rfl, x, y, r⟩
theorem IsQ.put {H : Hp} {p a C dx : Addr} {fs : List (Str × V)} {o : HO} {xs : List V} (ha : H a = some (.ins C dx fs)) (h : IsQ H p xs) : IsQ (upd H a o) p xs := by
  have ne : p ≠ a := fun e => by
    subst e
    rcases h with h | h <;> (rw [ha] at h; cases h)
  rcases h with h | h
  · exact .inl (by rw [upd_ne ne]; exact h)
  · exact .inr (by rw [upd_ne ne]; exact h)
theorem but_new {H H1 : Hp} {a : Addr} {o u : HO} (_ : H a = some o) (S : Same H H1) : But a H (upd H1 a u) := (But.of_same S).trans (but_upd _ _ _)
theorem upd_at {H : Hp} {a p : Addr} {o u : HO} (ha : H a = some o) (hp : H p = none) (v : HO) {H1 : Hp} (h : H1 p = some v) : upd H1 a u p = some v := by
  rw [upd_ne (fun e => by rw [e, ha] at hp; cases hp)]
  exact h
theorem all_nsq {K : Frag} {H : Hp} {xs : List V} (h : xs.all flatV = true) : ∀ x ∈ xs, NSq K H x := fun x hx => .flat (List.all_eq_true.mp h x hx)
theorem ints_nsq {K : Frag} {H : Hp} (js : List Int) : ∀ x ∈ js.map V.int, NSq K H x := fun x hx => by
  obtain ⟨j, _, rfl⟩ := List.mem_map.mp hx
  exact .flat rfl
structure H2 (P : Program) (w : World) (K : Frag) (mg : Str → Option Value) (base : Heap) : Prop extends H1 P w K mg base where
  as_tuples : FnAt P w K mg base CX0 4 "as_tuples" ["thing"] (spAT K 2)
def spPair (K : Frag) : Sp := fun vs H Q _ => ∃ (a dx p q : Addr) (xs ys : List V), vs = [.ref a, .ref p, .ref q] ∧ H a = some (.ins (CA K "Pair") dx []) ∧ IsQ H p xs ∧ IsQ H q ys ∧ PkOk xs ys ∧ ∀ H', But a H H' → PAt K H' a xs ys → Q .non H'
def spWish (K : Frag) : Sp := fun vs H Q _ => ∃ (a dx p : Addr) (b : Bool) (js : List Int), vs = [.ref a, .bl b, .ref p] ∧ H a = some (.ins (CA K "Wish") dx []) ∧ IsQ H p (js.map V.int) ∧ js.length ≤ 1000 ∧ ∀ H', But a H H' → WAt K H' a b js → Q .non H'
def spStretch (K : Frag) : Sp := fun vs H Q _ => ∃ (a dx c : Addr) (k : Str) (l h : Int) (xs ys : List V), vs = [.ref a, .str k, .int l, .int h, .ref c] ∧ H a = some (.ins (CA K "Stretch") dx []) ∧ PAt K H c xs ys ∧ c ≠ a ∧ ∀ H', But a H H' → SAt K H' a k l h c → Q .non H'
def spMend (K : Frag) : Sp := fun vs H Q _ => ∃ (a dx p q : Addr) (js : List Int) (ss : List Addr), vs = [.ref a, .ref p, .ref q] ∧ H a = some (.ins (CA K "Mend") dx []) ∧ IsQ H p (js.map V.int) ∧ IsQ H q (ss.map V.ref) ∧ js.length ≤ 1000 ∧ ss.length ≤ 1000 ∧
  (∀ s ∈ ss, ∃ dx fs, H s = some (.ins (CA K "Stretch") dx fs)) ∧ ∀ H', But a H H' → MAt K H' a js ss → Q .non H'
section
variable {P : Program} {w : World} {K : Frag} {mg : Str → Option Value} {base : Heap} {f : Addr} {fd : FuncData}

abbrev s_Pair_init : Stmt := inClass (top 34) 0
theorem sc_Pair_init : FnScope ["self", "one", "other"] ["self", "one", "other"] (defScope s_Pair_init) := ⟨rfl, rfl, rfl, by decide +kernel, rfl, by decide +kernel, by decide +kernel⟩

theorem ok_Pair_init (F : FunD K "__init__" "Pair.__init__" (defArgs s_Pair_init) (defBody s_Pair_init) (defScope s_Pair_init) [] [] f fd) (G : H2 P w K mg base) : FnOk P w K mg base CX0 5 f fd ["self", "one", "other"] (spPair K) := by
  refine F.ok (CX := CX0) sc_Pair_init (fun vs H Q E h => ?_) (fun cdv A outer s H vs Q E hr h => ?_)
  · obtain ⟨_, _, _, _, _, _, rfl, _⟩ := h
    rfl
  · refine ⟨_, PSs.nox (pss_cons (ps_fld (pv 0) (pe_fn G.as_tuples (hr.mono (by decide)) pass0 (by rfl) (pa_cons (pv 1) pa_nil)) rfl)
    (pss_one (ps_fld (pv 0) (pe_fn G.as_tuples (hr.mono (by decide)) pass0 (by rfl) (pa_cons (pv 2) pa_nil)) rfl))), ?_⟩
    obtain ⟨a, dx, p, q, xs, ys, rfl, ha, hp, hq, ok, k⟩ := h
    refine ⟨_, rfl, .ref p, rfl, .inr ⟨by decide, p, xs, rfl, hp, ok.lx, all_nsq ok.fx, fun t H1 ht S1 e1 => ?_⟩⟩
    have ha1 := S1 _ _ ha
    have hq1 := hq.same S1
    refine ⟨_, rfl, a, _, dx, _, rfl, ha1, G.cPair.cl, G.cPair.no _ (by decide +kernel), (by show 0 < 1000; decide), ?_⟩
    obtain ⟨H2, e2⟩ : ∃ H2, upd H1 a (.ins (CA K "Pair") dx (putF "one" (.ref t) [])) = H2 := ⟨_, rfl⟩
    have ha2 : H2 a = some (.ins (CA K "Pair") dx (putF "one" (.ref t) [])) := by rw [← e2]; exact upd_same
    have hq2 : IsQ H2 q ys := by rw [← e2]; exact hq1.put ha1
    have ht2 : H2 t = some (.tup xs) := by rw [← e2]; exact upd_at ha ht _ e1
    show _
    rw [e2]
    refine ⟨_, rfl, .ref q, rfl, .inr ⟨by decide, q, ys, rfl, hq2, ok.ly, all_nsq ok.fy, fun u H3 hu S3 e3 => ?_⟩⟩
    refine ⟨_, rfl, a, _, dx, _, rfl, S3 _ _ ha2, G.cPair.cl, G.cPair.no _ (by decide +kernel), (by show 1 < 1000; decide), ?_⟩
    refine k _ ?_ ⟨dx, t, u, upd_same, upd_at ha ht _ (S3 _ _ ht2), upd_at ha2 hu _ e3⟩
    have b1 : But a H H2 := by rw [← e2]; exact but_new ha S1
    exact b1.trans (but_new ha2 S3)

abbrev s_Wish_init : Stmt := inClass (top 36) 0
theorem sc_Wish_init : FnScope ["self", "order", "scans"] ["self", "order", "scans"] (defScope s_Wish_init) := ⟨rfl, rfl, rfl, by decide +kernel, rfl, by decide +kernel, by decide +kernel⟩

theorem ok_Wish_init (F : FunD K "__init__" "Wish.__init__" (defArgs s_Wish_init) (defBody s_Wish_init) (defScope s_Wish_init) [] [] f fd) (G : H2 P w K mg base) : FnOk P w K mg base CX0 5 f fd ["self", "order", "scans"] (spWish K) := by
  refine F.ok (CX := CX0) sc_Wish_init (fun vs H Q E h => ?_) (fun cdv A outer s H vs Q E hr h => ?_)
  · obtain ⟨_, _, _, _, _, rfl, _⟩ := h
    rfl
  · refine ⟨_, PSs.nox (pss_cons (ps_fld (pv 0) (pv 1) rfl)
    (pss_one (ps_fld (pv 0) (pe_fn G.as_tuples (hr.mono (by decide)) pass0 (by rfl) (pa_cons (pv 2) pa_nil)) rfl))), ?_⟩
    obtain ⟨a, dx, p, b, js, rfl, ha, hp, lx, k⟩ := h
    refine ⟨_, rfl, _, rfl, a, _, dx, _, rfl, ha, G.cWish.cl, G.cWish.no _ (by decide +kernel), (by show 0 < 1000; decide), ?_⟩
    obtain ⟨H2, e2⟩ : ∃ H2, upd H a (.ins (CA K "Wish") dx (putF "order" (.bl b) [])) = H2 := ⟨_, rfl⟩
    have ha2 : H2 a = some (.ins (CA K "Wish") dx (putF "order" (.bl b) [])) := by rw [← e2]; exact upd_same
    have hp2 : IsQ H2 p (js.map V.int) := by rw [← e2]; exact hp.put ha
    show _
    rw [e2]
    refine ⟨_, rfl, .ref p, rfl, .inr ⟨by decide, p, _, rfl, hp2, by rw [List.length_map]; exact lx, ints_nsq js, fun u H3 hu S3 e3 => ?_⟩⟩
    refine ⟨_, rfl, a, _, dx, _, rfl, S3 _ _ ha2, G.cWish.cl, G.cWish.no _ (by decide +kernel), (by show 1 < 1000; decide), ?_⟩
    refine k _ ?_ ⟨dx, u, upd_same, upd_at ha2 hu _ e3⟩
    have b1 : But a H H2 := by rw [← e2]; exact but_upd _ _ _
    exact b1.trans (but_new ha2 S3)

abbrev s_Stretch_init : Stmt := inClass (top 37) 0
theorem sc_Stretch_init : FnScope ["self", "kind", "first", "last", "pair"] ["self", "kind", "first", "last", "pair"] (defScope s_Stretch_init) := ⟨rfl, rfl, rfl, by decide +kernel, rfl, by decide +kernel, by decide +kernel⟩

theorem ok_Stretch_init (F : FunD K "__init__" "Stretch.__init__" (defArgs s_Stretch_init) (defBody s_Stretch_init) (defScope s_Stretch_init) [] [] f fd) (G : H2 P w K mg base) : FnOk P w K mg base CX0 5 f fd ["self", "kind", "first", "last", "pair"] (spStretch K) := by
  refine F.ok (CX := CX0) sc_Stretch_init (fun vs H Q E h => ?_) (fun cdv A outer s H vs Q E hr h => ?_)
  · obtain ⟨_, _, _, _, _, _, _, _, rfl, _⟩ := h
    rfl
  · refine ⟨_, PSs.nox (pss_cons (ps_fld (pv 0) (pv 1) rfl)
    (pss_cons (ps_fld (pv 0) (pv 2) rfl)
    (pss_cons (ps_fld (pv 0) (pv 3) rfl)
    (pss_one (ps_fld (pv 0) (pe_fn G.as_tuples (hr.mono (by decide)) pass0 (by rfl) (pa_cons (pv 4) pa_nil)) rfl))))), ?_⟩
    obtain ⟨a, dx, c, k, l, h, xs, ys, rfl, ha, hc, nc, q⟩ := h
    refine ⟨_, rfl, _, rfl, a, _, dx, _, rfl, ha, G.cStretch.cl, G.cStretch.no _ (by decide +kernel), (by show 0 < 1000; decide), _, rfl, _, rfl, a, _, dx, _, rfl, upd_same, G.cStretch.cl, G.cStretch.no _ (by decide +kernel), (by show 1 < 1000; decide), _, rfl, _, rfl, a, _, dx, _, rfl, upd_same, G.cStretch.cl, G.cStretch.no _ (by decide +kernel), (by show 2 < 1000; decide), ?_⟩
    obtain ⟨H2, e2⟩ : ∃ H2, upd (upd (upd H a (.ins (CA K "Stretch") dx (putF "kind" (.str k) []))) a (.ins (CA K "Stretch") dx (putF "first" (.int l) (putF "kind" (.str k) [])))) a (.ins (CA K "Stretch") dx (putF "last" (.int h) (putF "first" (.int l) (putF "kind" (.str k) [])))) = H2 := ⟨_, rfl⟩
    have ha2 : H2 a = some (.ins (CA K "Stretch") dx (putF "last" (.int h) (putF "first" (.int l) (putF "kind" (.str k) [])))) := by rw [← e2]; exact upd_same
    have b1 : But a H H2 := by rw [← e2]; exact ((but_upd _ _ _).trans (but_upd _ _ _)).trans (but_upd _ _ _)
    show _
    rw [e2]
    obtain ⟨dy, t, u, ec, _⟩ := hc
    refine ⟨_, rfl, .ref c, rfl, .inl ⟨by decide, .pair (b1 _ _ nc ec), fun H3 S3 => ?_⟩⟩
    refine ⟨_, rfl, a, _, dx, _, rfl, S3 _ _ ha2, G.cStretch.cl, G.cStretch.no _ (by decide +kernel), (by show 3 < 1000; decide), ?_⟩
    exact q _ (b1.trans (but_new ha2 S3)) ⟨dx, upd_same⟩

abbrev s_Mend_init : Stmt := inClass (top 38) 0
theorem sc_Mend_init : FnScope ["self", "joints", "stretches"] ["self", "joints", "stretches"] (defScope s_Mend_init) := ⟨rfl, rfl, rfl, by decide +kernel, rfl, by decide +kernel, by decide +kernel⟩

theorem ok_Mend_init (F : FunD K "__init__" "Mend.__init__" (defArgs s_Mend_init) (defBody s_Mend_init) (defScope s_Mend_init) [] [] f fd) (G : H2 P w K mg base) : FnOk P w K mg base CX0 5 f fd ["self", "joints", "stretches"] (spMend K) := by
  refine F.ok (CX := CX0) sc_Mend_init (fun vs H Q E h => ?_) (fun cdv A outer s H vs Q E hr h => ?_)
  · obtain ⟨_, _, _, _, _, _, rfl, _⟩ := h
    rfl
  · refine ⟨_, PSs.nox (pss_cons (ps_fld (pv 0) (pe_fn G.as_tuples (hr.mono (by decide)) pass0 (by rfl) (pa_cons (pv 1) pa_nil)) rfl)
    (pss_one (ps_fld (pv 0) (pe_fn G.as_tuples (hr.mono (by decide)) pass0 (by rfl) (pa_cons (pv 2) pa_nil)) rfl))), ?_⟩
    obtain ⟨a, dx, p, q, js, ss, rfl, ha, hp, hq, lx, ly, hs, k⟩ := h
    refine ⟨_, rfl, .ref p, rfl, .inr ⟨by decide, p, _, rfl, hp, by rw [List.length_map]; exact lx, ints_nsq js, fun t H1 ht S1 e1 => ?_⟩⟩
    have ha1 := S1 _ _ ha
    have hq1 := hq.same S1
    refine ⟨_, rfl, a, _, dx, _, rfl, ha1, G.cMend.cl, G.cMend.no _ (by decide +kernel), (by show 0 < 1000; decide), ?_⟩
    obtain ⟨H2, e2⟩ : ∃ H2, upd H1 a (.ins (CA K "Mend") dx (putF "joints" (.ref t) [])) = H2 := ⟨_, rfl⟩
    have ha2 : H2 a = some (.ins (CA K "Mend") dx (putF "joints" (.ref t) [])) := by rw [← e2]; exact upd_same
    have hq2 : IsQ H2 q (ss.map V.ref) := by rw [← e2]; exact hq1.put ha1
    have ht2 : H2 t = some (.tup (js.map V.int)) := by rw [← e2]; exact upd_at ha ht _ e1
    have b1 : But a H H2 := by rw [← e2]; exact but_new ha S1
    have hs2 : ∀ x ∈ ss.map V.ref, NSq K H2 x := fun x hx => by
      obtain ⟨s, hm, rfl⟩ := List.mem_map.mp hx
      obtain ⟨dy, fs, es⟩ := hs s hm
      refine .str (b1 _ _ (fun e => ?_) es)
      rw [e, ha] at es
      injection es with es
      injection es with es
      exact (fun z => absurd ((G.ne 8 9 (by decide) (by decide)).mp z) (by decide)) es.symm
    show _
    rw [e2]
    refine ⟨_, rfl, .ref q, rfl, .inr ⟨by decide, q, _, rfl, hq2, by rw [List.length_map]; exact ly, hs2, fun u H3 hu S3 e3 => ?_⟩⟩
    refine ⟨_, rfl, a, _, dx, _, rfl, S3 _ _ ha2, G.cMend.cl, G.cMend.no _ (by decide +kernel), (by show 1 < 1000; decide), ?_⟩
    refine k _ ?_ ⟨dx, t, u, upd_same, upd_at ha ht _ (S3 _ _ ht2), upd_at ha2 hu _ e3⟩
    exact b1.trans (but_new ha2 S3)

end
end L2.K07

set_option Elab.async false
set_option linter.all false
set_option maxRecDepth 100000
set_option maxHeartbeats 4000000
/-! The things, and what == says of two of them. -/
namespace L2.K07
open PySem PySem.W PySem.Spec PySem.Calls PyProof.Rows L2.Jk
def mV : Option Int → V
  | none => .non
  | some i => .int i
/-- a stretch's parts -/
structure SD where
  k : Str
  l : Int
  h : Int
  xs : List V
  ys : List V
inductive Th where
  | word (s : Str) (l : Int) (m : Option Int)
  | number (l : Int) (m : Option Int)
  | fixed (w : Int)
  | listed (ts : List Str)
  | ended (s e : Str) (l : Int) (m : Option Int)
  | marked (n k : Str) (w : Int)
  | pair (xs ys : List V)
  | wish (b : Bool) (js : List Int)
  | str (d : SD)
  | mend (js : List Int) (ss : List SD)
  | lay (ws : List Int) (js : List Str)
def Th.ci : Th → Nat
  | .word .. => 0
  | .number .. => 1
  | .fixed _ => 2
  | .listed _ => 3
  | .ended .. => 4
  | .marked .. => 5
  | .pair .. => 6
  | .wish .. => 7
  | .str _ => 8
  | .mend .. => 9
  | .lay .. => 10
theorem Th.ci_lt (x : Th) : x.ci < 11 := by cases x <;> simp [Th.ci]
def strsD (ts : List Str) : PyData := .tuple ((ts.map V.str).map dV)
def intsD (js : List Int) : PyData := .tuple ((js.map V.int).map dV)
def flatD (xs : List V) : PyData := .tuple (xs.map dV)
def eqPr (xs ys xs' ys' : List V) : Bool := PyData.eqv (flatD xs) (flatD xs') && PyData.eqv (flatD ys) (flatD ys')
def eqS (d d' : SD) : Bool := decide (V.str d.k = V.str d'.k) && (decide (V.int d.l = V.int d'.l) && (decide (V.int d.h = V.int d'.h) && eqPr d.xs d.ys d'.xs d'.ys))
def sAt (ss : List SD) (i : Nat) : SD := ss.getD i ⟨"", 0, 0, [], []⟩
def eqSs (ss rs : List SD) : Bool := allE (fun i => eqS (sAt ss i) (sAt rs i)) (min ss.length rs.length) && (ss.length == rs.length)
def eqWs (ws vs : List Int) : Bool := allE (fun i => decide (V.int (ws.getD i 0) = V.int (vs.getD i 0))) (min ws.length vs.length) && (ws.length == vs.length)
/-- what == answers -/
def eqT : Th → Th → Bool
  | .word s l m, .word s' l' m' => decide (V.str s = V.str s') && (decide (V.int l = V.int l') && decide (mV m = mV m'))
  | .number l m, .number l' m' => decide (V.int l = V.int l') && decide (mV m = mV m')
  | .fixed w, .fixed w' => decide (V.int w = V.int w')
  | .listed ts, .listed ts' => PyData.eqv (strsD ts) (strsD ts')
  | .ended s e l m, .ended s' e' l' m' => decide (V.str s = V.str s') && (decide (V.str e = V.str e') && (decide (V.int l = V.int l') && decide (mV m = mV m')))
  | .marked n k w, .marked n' k' w' => decide (V.str n = V.str n') && (decide (V.str k = V.str k') && decide (V.int w = V.int w'))
  | .pair xs ys, .pair xs' ys' => eqPr xs ys xs' ys'
  | .wish b js, .wish b' js' => decide (V.bl b = V.bl b') && PyData.eqv (intsD js) (intsD js')
  | .str d, .str d' => eqS d d'
  | .mend js ss, .mend js' ss' => PyData.eqv (intsD js) (intsD js') && eqSs ss ss'
  | .lay ws js, .lay ws' js' => eqWs ws ws' && PyData.eqv (strsD js) (strsD js')
  | _, _ => false
/-- what is asked of its parts -/
def Th.Ok : Th → Prop
  | .listed ts => SeqAt.shaped (strsD ts) = true
  | .pair xs ys => PkOk xs ys
  | .str d => PkOk d.xs d.ys
  | .mend _ ss => ∀ d ∈ ss, PkOk d.xs d.ys
  | .lay _ js => SeqAt.shaped (strsD js) = true
  | _ => True
def SdAt (K : Frag) (H : Hp) (a : Addr) (d : SD) : Prop := ∃ c, SAt K H a d.k d.l d.h c ∧ PAt K H c d.xs d.ys
def ThAt (K : Frag) (H : Hp) (a : Addr) : Th → Prop
  | .word s l m => FieldAt K H a (.word (.str s) (.int l) (mV m))
  | .number l m => FieldAt K H a (.number (.int l) (mV m))
  | .fixed w => FieldAt K H a (.fixed (.int w))
  | .listed ts => FieldAt K H a (.listed (.lst (ts.map V.str)))
  | .ended s e l m => FieldAt K H a (.ended (.str s) (.str e) (.int l) (mV m))
  | .marked n k w => ∃ dx y, H a = some (.ins (ca K 5) dx (fMarked (.str n) (.str k) (.ref y))) ∧ FieldAt K H y (.fixed (.int w))
  | .pair xs ys => PAt K H a xs ys
  | .wish b js => WAt K H a b js
  | .str d => SdAt K H a d
  | .mend js ss => ∃ dx t u, ∃ as : List Addr, H a = some (.ins (CA K "Mend") dx (fMend (.ref t) (.ref u))) ∧ H t = some (.tup (js.map V.int)) ∧ H u = some (.tup (as.map V.ref)) ∧ as.length = ss.length ∧ ∀ (i : Nat) b d, as[i]? = some b → ss[i]? = some d → SdAt K H b d
  | .lay ws js => ∃ dx t u, ∃ as : List Addr, H a = some (.ins (CA K "Layout") dx (fLayout (.ref t) (.ref u))) ∧ H t = some (.tup (as.map V.ref)) ∧ H u = some (.tup (js.map V.str)) ∧ as.length = ws.length ∧ ∀ (i : Nat) b w, as[i]? = some b → ws[i]? = some w → FieldAt K H b (.fixed (.int w))
theorem FieldAt.kp {K : Frag} {H H' : Hp} {a : Addr} (k : Kp H H') : ∀ {d : PD}, FieldAt K H a d → FieldAt K H' a d
  | .word .., ⟨dx, h⟩ => ⟨dx, k _ _ trivial h⟩
  | .number .., ⟨dx, h⟩ => ⟨dx, k _ _ trivial h⟩
  | .fixed _, ⟨dx, h⟩ => ⟨dx, k _ _ trivial h⟩
  | .listed _, ⟨dx, t, h, o, c, e, z⟩ => ⟨dx, t, k _ _ trivial h, o, c, e, k _ _ trivial z⟩
  | .ended .., ⟨dx, h⟩ => ⟨dx, k _ _ trivial h⟩
theorem SdAt.kp {K : Frag} {H H' : Hp} {a : Addr} {d : SD} (k : Kp H H') : SdAt K H a d → SdAt K H' a d
  | ⟨c, x, y⟩ => ⟨c, x.kp k, y.kp k⟩
theorem ThAt.kp {K : Frag} {H H' : Hp} {a : Addr} (k : Kp H H') : ∀ {x : Th}, ThAt K H a x → ThAt K H' a x
  | .word s l m, h => FieldAt.kp (d := .word (.str s) (.int l) (mV m)) k h
  | .number l m, h => FieldAt.kp (d := .number (.int l) (mV m)) k h
  | .fixed w, h => FieldAt.kp (d := .fixed (.int w)) k h
  | .listed ts, h => FieldAt.kp (d := .listed (.lst (ts.map V.str))) k h
  | .ended s e l m, h => FieldAt.kp (d := .ended (.str s) (.str e) (.int l) (mV m)) k h
  | .marked .., ⟨dx, y, h, z⟩ => ⟨dx, y, k _ _ trivial h, z.kp k⟩
  | .pair .., h => PAt.kp k h
  | .wish .., h => WAt.kp k h
  | .str _, h => SdAt.kp k h
  | .mend .., ⟨dx, t, u, as, h1, h2, h3, l, z⟩ => ⟨dx, t, u, as, k _ _ trivial h1, k _ _ trivial h2, k _ _ trivial h3, l, fun i b d x y => (z i b d x y).kp k⟩
  | .lay .., ⟨dx, t, u, as, h1, h2, h3, l, z⟩ => ⟨dx, t, u, as, k _ _ trivial h1, k _ _ trivial h2, k _ _ trivial h3, l, fun i b d x y => (z i b d x y).kp k⟩
theorem ThAt.ins {K : Frag} {H : Hp} {a : Addr} : ∀ {x : Th}, ThAt K H a x → ∃ dx fs, H a = some (.ins (ca K x.ci) dx fs)
  | .word .., ⟨dx, h⟩ => ⟨dx, _, h⟩
  | .number .., ⟨dx, h⟩ => ⟨dx, _, h⟩
  | .fixed _, ⟨dx, h⟩ => ⟨dx, _, h⟩
  | .listed _, ⟨dx, t, h, _⟩ => ⟨dx, _, h⟩
  | .ended .., ⟨dx, h⟩ => ⟨dx, _, h⟩
  | .marked .., ⟨dx, y, h, _⟩ => ⟨dx, _, h⟩
  | .pair .., ⟨dx, _, _, h, _⟩ => ⟨dx, _, h⟩
  | .wish .., ⟨dx, _, h, _⟩ => ⟨dx, _, h⟩
  | .str _, ⟨_, ⟨dx, h⟩, _⟩ => ⟨dx, _, h⟩
  | .mend .., ⟨dx, _, _, _, h, _⟩ => ⟨dx, _, h⟩
  | .lay .., ⟨dx, _, _, _, h, _⟩ => ⟨dx, _, h⟩
theorem eqT_ci : ∀ {x z : Th}, x.ci ≠ z.ci → eqT x z = false := by
  intro x z h
  cases x <;> cases z <;> first | rfl | exact absurd rfl h
theorem ite_and {c b : Bool} {H : Hp} {A : Prop} {Q : VK} (q : ∀ H', Same H H' → Q (.bl (c && b)) H') (k : (∀ H', Same H H' → Q (.bl b) H') → A) : if c = true then A else Q (.bl false) H := by
  cases c with
  | true => exact iteT (k q)
  | false => exact iteF (q H (Same.refl _))
theorem scal_mv (m m' : Option Int) : scal (mV m) (mV m') = true := by cases m <;> cases m' <;> rfl
theorem dp_strs' {K : Frag} {H : Hp} : ∀ ts : List Str, DpAll K H (ts.map V.str) ((ts.map V.str).map dV)
  | [] => .nil
  | t :: ts => .cons (.str t) (dp_strs' ts)
theorem ints_flat (js : List Int) : (js.map V.int).all flatV = true := List.all_eq_true.mpr fun x hx => by
  obtain ⟨j, _, rfl⟩ := List.mem_map.mp hx
  rfl
theorem ints_lay : ∀ js : List Int, PyData.canLayAll0 ((js.map V.int).map dV) = true ∧ PyData.depthAll ((js.map V.int).map dV) ≤ 0
  | [] => ⟨rfl, by decide⟩
  | j :: js => by
    obtain ⟨a, b⟩ := ints_lay js
    exact ⟨a, Nat.max_le.mpr ⟨Nat.le_refl _, b⟩⟩
theorem ints_shaped (js : List Int) : SeqAt.shaped (intsD js) = true := by
  obtain ⟨a, b⟩ := ints_lay js
  refine Bool.and_eq_true_iff.mpr ⟨a, decide_eq_true ?_⟩
  show PyData.depthAll ((js.map V.int).map dV) + 1 ≤ 64
  omega
theorem dp_tup {K : Frag} {H : Hp} {p : Addr} {xs : List V} (h : H p = some (.tup xs)) (f : xs.all flatV = true) : Dp K H (.ref p) (flatD xs) := .tup (SqT.of h) (dpAll_flat f)
theorem dp_ints {K : Frag} {H : Hp} {p : Addr} {js : List Int} (h : H p = some (.tup (js.map V.int))) : Dp K H (.ref p) (intsD js) := .tup (SqT.of h) (dpAll_flat (ints_flat js))
theorem dp_strT {K : Frag} {H : Hp} {p : Addr} {ts : List Str} (h : SqT K H p (ts.map V.str)) : Dp K H (.ref p) (strsD ts) := .tup h (dp_strs' ts)
/-- what a class's == promises -/
def spEqTh (K : Frag) (i : Nat) : Sp := fun vs H Q _ => ∃ (a : Addr) (y : V) (x : Th), vs = [.ref a, y] ∧ ThAt K H a x ∧ x.Ok ∧ x.ci = i ∧
  ((∃ c z, y = .ref c ∧ ThAt K H c z ∧ z.Ok ∧ ∀ H', Same H H' → Q (.bl (eqT x z)) H') ∨ (∃ c xs, y = .ref c ∧ H c = some (.tup xs) ∧ Q (.bl false) H) ∨ (∃ n, y = .int n ∧ Q (.bl false) H))
structure EQT (P : Program) (w : World) (K : Frag) (mg : Str → Option Value) (base : Heap) (k i : Nat) : Prop where
  ok : ∃ fd, FnOk P w K mg base CX0 k (He.ma K (ca K i) "__eq__") fd ["self", "other"] (spEqTh K i) ∧ Binds K fd ["self", "other"] []
structure H3 (P : Program) (w : World) (K : Frag) (mg : Str → Option Value) (base : Heap) : Prop extends H2 P w K mg base where
  qFixed : EQT P w K mg base 1 2
  qPair : EQT P w K mg base 1 6
structure H4 (P : Program) (w : World) (K : Frag) (mg : Str → Option Value) (base : Heap) : Prop extends H3 P w K mg base where
  qStr : EQT P w K mg base 2 8
/-- two stretches, two fixed fields, and what == answers of them -/
def DSt (K : Frag) : EqvB := DInB (ca K 8) (fun a b c H => ∃ d d', SdAt K H a d ∧ SdAt K H b d' ∧ PkOk d.xs d.ys ∧ PkOk d'.xs d'.ys ∧ c = eqS d d')
def DFx (K : Frag) : EqvB := DInB (ca K 2) (fun a b c H => ∃ w v, FieldAt K H a (.fixed (.int w)) ∧ FieldAt K H b (.fixed (.int v)) ∧ c = decide (V.int w = V.int v))
theorem monSt (K : Frag) : MonB (DSt K) := monB_in fun a b c H H' e ⟨d, d', x, y, o, o', z⟩ => ⟨d, d', x.kp (Kp.of e), y.kp (Kp.of e), o, o', z⟩
theorem monFx (K : Frag) : MonB (DFx K) := monB_in fun a b c H H' e ⟨w, v, x, y, z⟩ => ⟨w, v, x.kp (Kp.of e), y.kp (Kp.of e), z⟩
theorem eqSt {X : Cx} {fd : FuncData} (F : FnOk X.prog X.w X.K X.mg X.base CX0 2 (He.ma X.K (ca X.K 8) "__eq__") fd ["self", "other"] (spEqTh X.K 8)) (hb : Binds X.K fd ["self", "other"] []) (T : EqcC X.K (ca X.K 8)) (hx : Passes CX0 X (fun _ _ _ => False)) : EqGB X 2 (DSt X.K) :=
  eqGB_in (CX := CX0) (F.imp fun vs H Q E h => (by
    obtain ⟨a, b, c, rfl, ⟨d, d', x, y, o, o', rfl⟩, q⟩ := h
    exact ⟨a, .ref b, .str d, rfl, x, o, rfl, .inl ⟨b, .str d', rfl, y, o', fun H' S => q H' S⟩⟩)) T.find T.fn hb hx
theorem eqFx {X : Cx} {fd : FuncData} (F : FnOk X.prog X.w X.K X.mg X.base CX0 1 (He.ma X.K (ca X.K 2) "__eq__") fd ["self", "other"] (spEqTh X.K 2)) (hb : Binds X.K fd ["self", "other"] []) (T : EqcC X.K (ca X.K 2)) (hx : Passes CX0 X (fun _ _ _ => False)) : EqGB X 1 (DFx X.K) :=
  eqGB_in (CX := CX0) (F.imp fun vs H Q E h => (by
    obtain ⟨a, b, c, rfl, ⟨w, v, x, y, rfl⟩, q⟩ := h
    exact ⟨a, .ref b, .fixed w, rfl, x, trivial, rfl, .inl ⟨b, .fixed v, rfl, y, trivial, fun H' S => q H' S⟩⟩)) T.find T.fn hb hx
theorem PAt.det {K : Frag} {H : Hp} {p : Addr} {xs ys xs' ys' : List V} : PAt K H p xs ys → PAt K H p xs' ys' → xs = xs' ∧ ys = ys'
  | ⟨dx, t, u, a, b, c⟩, ⟨dx', t', u', a', b', c'⟩ => by
    rw [a] at a'
    injection a' with z
    injection z with _ _ z
    have e1 := congrArg (fun l => List.lookup ("one" : Str) l) z
    have e2 := congrArg (fun l => List.lookup ("other" : Str) l) z
    rw [lPair_one, lPair_one] at e1
    rw [lPair_other, lPair_other] at e2
    cases e1
    cases e2
    rw [b] at b'
    rw [c] at c'
    cases b'
    cases c'
    exact ⟨rfl, rfl⟩
section
variable {P : Program} {w : World} {K : Frag} {mg : Str → Option Value} {base : Heap} {f : Addr} {fd : FuncData}

theorem H0.mks (G : H0 P w K mg base) : ∀ i, i < 11 → Mk K (ca K i) (He.ma K (ca K i) "__init__")
  | 0, _ => G.dWord.mkr
  | 1, _ => G.dNumber.mkr
  | 2, _ => G.dFixed.mkr
  | 3, _ => G.dListed.mkr
  | 4, _ => G.dEnded.mkr
  | 5, _ => G.dMarked.mkr
  | 6, _ => G.cPair.mkr
  | 7, _ => G.cWish.mkr
  | 8, _ => G.cStretch.mkr
  | 9, _ => G.cMend.mkr
  | 10, _ => G.cLayout.mkr
  | n + 11, h => absurd h (by omega)
theorem H0.eqs (G : H0 P w K mg base) : ∀ i, i < 11 → EqcC K (ca K i) ∧ keepIn K (.ref (He.ma K (ca K i) "__eq__")) = true
  | 0, _ => ⟨G.dWord.eq, G.dWord.kp⟩
  | 1, _ => ⟨G.dNumber.eq, G.dNumber.kp⟩
  | 2, _ => ⟨G.dFixed.eq, G.dFixed.kp⟩
  | 3, _ => ⟨G.dListed.eq, G.dListed.kp⟩
  | 4, _ => ⟨G.dEnded.eq, G.dEnded.kp⟩
  | 5, _ => ⟨G.dMarked.eq, G.dMarked.kp⟩
  | 6, _ => ⟨G.cPair.eq, G.cPair.kp⟩
  | 7, _ => ⟨G.cWish.eq, G.cWish.kp⟩
  | 8, _ => ⟨G.cStretch.eq, G.cStretch.kp⟩
  | 9, _ => ⟨G.cMend.eq, G.cMend.kp⟩
  | 10, _ => ⟨G.cLayout.eq, G.cLayout.kp⟩
  | n + 11, h => absurd h (by omega)
theorem H0.tys (G : H0 P w K mg base) {H : Hp} {a dx : Addr} {gs : List (Str × V)} : ∀ i, i < 11 → H a = some (.ins (ca K i) dx gs) → TyE K H (.ref a) (.ref (ca K i))
  | 0, _, h => G.dWord.ty G h
  | 1, _, h => G.dNumber.ty G h
  | 2, _, h => G.dFixed.ty G h
  | 3, _, h => G.dListed.ty G h
  | 4, _, h => G.dEnded.ty G h
  | 5, _, h => G.dMarked.ty G h
  | 6, _, h => G.cPair.ty G h
  | 7, _, h => G.cWish.ty G h
  | 8, _, h => G.cStretch.ty G h
  | 9, _, h => G.cMend.ty G h
  | 10, _, h => G.cLayout.ty G h
  | n + 11, h, _ => absurd h (by omega)
theorem H0.nts (G : H0 P w K mg base) : ∀ i, i < 11 → notFirst K (ca K i) (.type "tuple") = true ∧ notFirst K (ca K i) (.type "int") = true
  | 0, _ => ⟨G.dWord.nt, G.dWord.ni⟩
  | 1, _ => ⟨G.dNumber.nt, G.dNumber.ni⟩
  | 2, _ => ⟨G.dFixed.nt, G.dFixed.ni⟩
  | 3, _ => ⟨G.dListed.nt, G.dListed.ni⟩
  | 4, _ => ⟨G.dEnded.nt, G.dEnded.ni⟩
  | 5, _ => ⟨G.dMarked.nt, G.dMarked.ni⟩
  | 6, _ => ⟨G.cPair.nt, G.cPair.ni⟩
  | 7, _ => ⟨G.cWish.nt, G.cWish.ni⟩
  | 8, _ => ⟨G.cStretch.nt, G.cStretch.ni⟩
  | 9, _ => ⟨G.cMend.nt, G.cMend.ni⟩
  | 10, _ => ⟨G.cLayout.nt, G.cLayout.ni⟩
  | n + 11, h => absurd h (by omega)

abbrev s_Word_eqt : Stmt := inClass (top 20) 1
theorem sc_Word_eqt : FnScope ["self", "other"] ["self", "other"] (defScope s_Word_eqt) := ⟨rfl, rfl, rfl, by decide +kernel, rfl, by decide +kernel, by decide +kernel⟩

theorem ok_Word_eqt (F : FunD K "__eq__" "Word.__eq__" (defArgs s_Word_eqt) (defBody s_Word_eqt) (defScope s_Word_eqt) [] [] f fd) (G : H2 P w K mg base) : FnOk P w K mg base CX0 1 f fd ["self", "other"] (spEqTh K 0) := by
  refine F.ok (CX := CX0) sc_Word_eqt (fun vs H Q E h => ?_) (fun cdv A outer s H vs Q E hr h => ?_)
  · obtain ⟨_, _, _, rfl, _⟩ := h
    rfl
  · refine ⟨_, PSs.nox (pss_one (ps_ret (pe_and (pe_cmpR op_isA (pe_callTy call_tyA (by rfl) G.type (by decide +kernel) (pa_cons (pv 0) pa_nil)) (pe_callTy call_tyA (by rfl) G.type (by decide +kernel) (pa_cons (pv 1) pa_nil)) (nomark _)) (pe_and (pe_cmpR op_eq (pe_fld (pv 0) rfl) (pe_fld (pv 1) rfl) (nomark _)) (pe_and (pe_cmpR op_eq (pe_fld (pv 0) rfl) (pe_fld (pv 1) rfl) (nomark _)) (pe_one (pe_cmpR op_eq (pe_fld (pv 0) rfl) (pe_fld (pv 1) rfl) (nomark _)))))))), ?_⟩
    obtain ⟨a, y, x, rfl, hx, ox, hi, h⟩ := h
    obtain ⟨da, fa_, ea⟩ := hx.ins
    rw [hi] at ea
    rcases h with ⟨c, z, rfl, hz, oz, q⟩ | ⟨c, xs, rfl, hb, q⟩ | ⟨n, rfl, q⟩
    · by_cases hc : z.ci = 0
      · match x, z, hi, hc, hx, hz, ox, oz, q with
        | .word s l m, .word s' l' m', _, _, hx, hz, ox, oz, q =>
        obtain ⟨dx, ha⟩ := hx
        obtain ⟨dz, hb⟩ := hz
        refine ⟨_, rfl, _, rfl, .inl ⟨a, _, _, _, rfl, ha, _, rfl, _, rfl, .inl ⟨c, _, _, _, rfl, hb, _, rfl, .inl ⟨_, rfl, .inl rfl, _, rfl, ?_⟩⟩⟩⟩
        refine ite2 (fun _ => ?_) (fun h => absurd (decide_eq_true rfl) h)
        refine ⟨_, rfl, a, _, _, _, _, rfl, ha, G.dWord.cl, G.dWord.no _ (by decide +kernel), lWord_signs, _, rfl, c, _, _, _, _, rfl, hb, G.dWord.cl, G.dWord.no _ (by decide +kernel), lWord_signs, rfl, _, rfl, ?_⟩
        refine ite_and (H := H) (Q := Q) q fun q => ?_
        refine ⟨_, rfl, a, _, _, _, _, rfl, ha, G.dWord.cl, G.dWord.no _ (by decide +kernel), lWord_least, _, rfl, c, _, _, _, _, rfl, hb, G.dWord.cl, G.dWord.no _ (by decide +kernel), lWord_least, rfl, _, rfl, ?_⟩
        refine ite_and (H := H) (Q := Q) q fun q => ?_
        refine ⟨_, rfl, a, _, _, _, _, rfl, ha, G.dWord.cl, G.dWord.no _ (by decide +kernel), lWord_most, _, rfl, c, _, _, _, _, rfl, hb, G.dWord.cl, G.dWord.no _ (by decide +kernel), lWord_most, scal_mv m m', q H (Same.refl _)⟩
      · obtain ⟨dz, fz, ez⟩ := hz.ins
        refine ⟨_, rfl, _, rfl, .inl ⟨a, _, _, _, rfl, ea, _, rfl, _, rfl, .inl ⟨c, _, _, _, rfl, ez, _, rfl, .inl ⟨_, rfl, .inr ⟨(G.mks 0 (by decide)).makes, (G.mks z.ci z.ci_lt).makes⟩, _, rfl, ?_⟩⟩⟩⟩
        rw [decide_eq_false (fun e => hc ((G.ne 0 z.ci (by decide) z.ci_lt).mp e).symm)]
        have e := eqT_ci (x := x) (z := z) (by rw [hi]; exact fun e => hc e.symm)
        rw [e] at q
        exact iteF (q H (Same.refl _))
    · exact ⟨_, rfl, _, rfl, .inl ⟨a, _, _, _, rfl, ea, _, rfl, _, rfl, .inr ⟨_, .tup hb, _, rfl, .inr ⟨_, rfl, _, rfl, iteF q⟩⟩⟩⟩
    · exact ⟨_, rfl, _, rfl, .inl ⟨a, _, _, _, rfl, ea, _, rfl, _, rfl, .inr ⟨_, .int n, _, rfl, .inr ⟨_, rfl, _, rfl, iteF q⟩⟩⟩⟩

abbrev s_Number_eqt : Stmt := inClass (top 21) 1
theorem sc_Number_eqt : FnScope ["self", "other"] ["self", "other"] (defScope s_Number_eqt) := ⟨rfl, rfl, rfl, by decide +kernel, rfl, by decide +kernel, by decide +kernel⟩

theorem ok_Number_eqt (F : FunD K "__eq__" "Number.__eq__" (defArgs s_Number_eqt) (defBody s_Number_eqt) (defScope s_Number_eqt) [] [] f fd) (G : H2 P w K mg base) : FnOk P w K mg base CX0 1 f fd ["self", "other"] (spEqTh K 1) := by
  refine F.ok (CX := CX0) sc_Number_eqt (fun vs H Q E h => ?_) (fun cdv A outer s H vs Q E hr h => ?_)
  · obtain ⟨_, _, _, rfl, _⟩ := h
    rfl
  · refine ⟨_, PSs.nox (pss_one (ps_ret (pe_and (pe_cmpR op_isA (pe_callTy call_tyA (by rfl) G.type (by decide +kernel) (pa_cons (pv 0) pa_nil)) (pe_callTy call_tyA (by rfl) G.type (by decide +kernel) (pa_cons (pv 1) pa_nil)) (nomark _)) (pe_and (pe_cmpR op_eq (pe_fld (pv 0) rfl) (pe_fld (pv 1) rfl) (nomark _)) (pe_one (pe_cmpR op_eq (pe_fld (pv 0) rfl) (pe_fld (pv 1) rfl) (nomark _))))))), ?_⟩
    obtain ⟨a, y, x, rfl, hx, ox, hi, h⟩ := h
    obtain ⟨da, fa_, ea⟩ := hx.ins
    rw [hi] at ea
    rcases h with ⟨c, z, rfl, hz, oz, q⟩ | ⟨c, xs, rfl, hb, q⟩ | ⟨n, rfl, q⟩
    · by_cases hc : z.ci = 1
      · match x, z, hi, hc, hx, hz, ox, oz, q with
        | .number l m, .number l' m', _, _, hx, hz, ox, oz, q =>
        obtain ⟨dx, ha⟩ := hx
        obtain ⟨dz, hb⟩ := hz
        refine ⟨_, rfl, _, rfl, .inl ⟨a, _, _, _, rfl, ha, _, rfl, _, rfl, .inl ⟨c, _, _, _, rfl, hb, _, rfl, .inl ⟨_, rfl, .inl rfl, _, rfl, ?_⟩⟩⟩⟩
        refine ite2 (fun _ => ?_) (fun h => absurd (decide_eq_true rfl) h)
        refine ⟨_, rfl, a, _, _, _, _, rfl, ha, G.dNumber.cl, G.dNumber.no _ (by decide +kernel), lNumber_least, _, rfl, c, _, _, _, _, rfl, hb, G.dNumber.cl, G.dNumber.no _ (by decide +kernel), lNumber_least, rfl, _, rfl, ?_⟩
        refine ite_and (H := H) (Q := Q) q fun q => ?_
        refine ⟨_, rfl, a, _, _, _, _, rfl, ha, G.dNumber.cl, G.dNumber.no _ (by decide +kernel), lNumber_most, _, rfl, c, _, _, _, _, rfl, hb, G.dNumber.cl, G.dNumber.no _ (by decide +kernel), lNumber_most, scal_mv m m', q H (Same.refl _)⟩
      · obtain ⟨dz, fz, ez⟩ := hz.ins
        refine ⟨_, rfl, _, rfl, .inl ⟨a, _, _, _, rfl, ea, _, rfl, _, rfl, .inl ⟨c, _, _, _, rfl, ez, _, rfl, .inl ⟨_, rfl, .inr ⟨(G.mks 1 (by decide)).makes, (G.mks z.ci z.ci_lt).makes⟩, _, rfl, ?_⟩⟩⟩⟩
        rw [decide_eq_false (fun e => hc ((G.ne 1 z.ci (by decide) z.ci_lt).mp e).symm)]
        have e := eqT_ci (x := x) (z := z) (by rw [hi]; exact fun e => hc e.symm)
        rw [e] at q
        exact iteF (q H (Same.refl _))
    · exact ⟨_, rfl, _, rfl, .inl ⟨a, _, _, _, rfl, ea, _, rfl, _, rfl, .inr ⟨_, .tup hb, _, rfl, .inr ⟨_, rfl, _, rfl, iteF q⟩⟩⟩⟩
    · exact ⟨_, rfl, _, rfl, .inl ⟨a, _, _, _, rfl, ea, _, rfl, _, rfl, .inr ⟨_, .int n, _, rfl, .inr ⟨_, rfl, _, rfl, iteF q⟩⟩⟩⟩

abbrev s_Fixed_eqt : Stmt := inClass (top 22) 1
theorem sc_Fixed_eqt : FnScope ["self", "other"] ["self", "other"] (defScope s_Fixed_eqt) := ⟨rfl, rfl, rfl, by decide +kernel, rfl, by decide +kernel, by decide +kernel⟩

theorem ok_Fixed_eqt (F : FunD K "__eq__" "Fixed.__eq__" (defArgs s_Fixed_eqt) (defBody s_Fixed_eqt) (defScope s_Fixed_eqt) [] [] f fd) (G : H2 P w K mg base) : FnOk P w K mg base CX0 1 f fd ["self", "other"] (spEqTh K 2) := by
  refine F.ok (CX := CX0) sc_Fixed_eqt (fun vs H Q E h => ?_) (fun cdv A outer s H vs Q E hr h => ?_)
  · obtain ⟨_, _, _, rfl, _⟩ := h
    rfl
  · refine ⟨_, PSs.nox (pss_one (ps_ret (pe_and (pe_cmpR op_isA (pe_callTy call_tyA (by rfl) G.type (by decide +kernel) (pa_cons (pv 0) pa_nil)) (pe_callTy call_tyA (by rfl) G.type (by decide +kernel) (pa_cons (pv 1) pa_nil)) (nomark _)) (pe_one (pe_cmpR op_eq (pe_fld (pv 0) rfl) (pe_fld (pv 1) rfl) (nomark _)))))), ?_⟩
    obtain ⟨a, y, x, rfl, hx, ox, hi, h⟩ := h
    obtain ⟨da, fa_, ea⟩ := hx.ins
    rw [hi] at ea
    rcases h with ⟨c, z, rfl, hz, oz, q⟩ | ⟨c, xs, rfl, hb, q⟩ | ⟨n, rfl, q⟩
    · by_cases hc : z.ci = 2
      · match x, z, hi, hc, hx, hz, ox, oz, q with
        | .fixed w, .fixed w', _, _, hx, hz, ox, oz, q =>
        obtain ⟨dx, ha⟩ := hx
        obtain ⟨dz, hb⟩ := hz
        refine ⟨_, rfl, _, rfl, .inl ⟨a, _, _, _, rfl, ha, _, rfl, _, rfl, .inl ⟨c, _, _, _, rfl, hb, _, rfl, .inl ⟨_, rfl, .inl rfl, _, rfl, ?_⟩⟩⟩⟩
        refine ite2 (fun _ => ?_) (fun h => absurd (decide_eq_true rfl) h)
        refine ⟨_, rfl, a, _, _, _, _, rfl, ha, G.dFixed.cl, G.dFixed.no _ (by decide +kernel), lFixed_width, _, rfl, c, _, _, _, _, rfl, hb, G.dFixed.cl, G.dFixed.no _ (by decide +kernel), lFixed_width, rfl, q H (Same.refl _)⟩
      · obtain ⟨dz, fz, ez⟩ := hz.ins
        refine ⟨_, rfl, _, rfl, .inl ⟨a, _, _, _, rfl, ea, _, rfl, _, rfl, .inl ⟨c, _, _, _, rfl, ez, _, rfl, .inl ⟨_, rfl, .inr ⟨(G.mks 2 (by decide)).makes, (G.mks z.ci z.ci_lt).makes⟩, _, rfl, ?_⟩⟩⟩⟩
        rw [decide_eq_false (fun e => hc ((G.ne 2 z.ci (by decide) z.ci_lt).mp e).symm)]
        have e := eqT_ci (x := x) (z := z) (by rw [hi]; exact fun e => hc e.symm)
        rw [e] at q
        exact iteF (q H (Same.refl _))
    · exact ⟨_, rfl, _, rfl, .inl ⟨a, _, _, _, rfl, ea, _, rfl, _, rfl, .inr ⟨_, .tup hb, _, rfl, .inr ⟨_, rfl, _, rfl, iteF q⟩⟩⟩⟩
    · exact ⟨_, rfl, _, rfl, .inl ⟨a, _, _, _, rfl, ea, _, rfl, _, rfl, .inr ⟨_, .int n, _, rfl, .inr ⟨_, rfl, _, rfl, iteF q⟩⟩⟩⟩

abbrev s_Listed_eqt : Stmt := inClass (top 23) 1
theorem sc_Listed_eqt : FnScope ["self", "other"] ["self", "other"] (defScope s_Listed_eqt) := ⟨rfl, rfl, rfl, by decide +kernel, rfl, by decide +kernel, by decide +kernel⟩

theorem ok_Listed_eqt (F : FunD K "__eq__" "Listed.__eq__" (defArgs s_Listed_eqt) (defBody s_Listed_eqt) (defScope s_Listed_eqt) [] [] f fd) (G : H2 P w K mg base) : FnOk P w K mg base CX0 1 f fd ["self", "other"] (spEqTh K 3) := by
  refine F.ok (CX := CX0) sc_Listed_eqt (fun vs H Q E h => ?_) (fun cdv A outer s H vs Q E hr h => ?_)
  · obtain ⟨_, _, _, rfl, _⟩ := h
    rfl
  · refine ⟨_, PSs.nox (pss_one (ps_ret (pe_and (pe_cmpR op_isA (pe_callTy call_tyA (by rfl) G.type (by decide +kernel) (pa_cons (pv 0) pa_nil)) (pe_callTy call_tyA (by rfl) G.type (by decide +kernel) (pa_cons (pv 1) pa_nil)) (nomark _)) (pe_one (pe_cmpR (op_eqD hr.units) (pe_fld (pv 0) rfl) (pe_fld (pv 1) rfl) (nomark _)))))), ?_⟩
    obtain ⟨a, y, x, rfl, hx, ox, hi, h⟩ := h
    obtain ⟨da, fa_, ea⟩ := hx.ins
    rw [hi] at ea
    rcases h with ⟨c, z, rfl, hz, oz, q⟩ | ⟨c, xs, rfl, hb, q⟩ | ⟨n, rfl, q⟩
    · by_cases hc : z.ci = 3
      · match x, z, hi, hc, hx, hz, ox, oz, q with
        | .listed ts, .listed ts', _, _, hx, hz, ox, oz, q =>
        obtain ⟨dx, t, ha, ht⟩ := hx
        obtain ⟨dz, t', hb, ht'⟩ := hz
        refine ⟨_, rfl, _, rfl, .inl ⟨a, _, _, _, rfl, ha, _, rfl, _, rfl, .inl ⟨c, _, _, _, rfl, hb, _, rfl, .inl ⟨_, rfl, .inl rfl, _, rfl, ?_⟩⟩⟩⟩
        refine ite2 (fun _ => ?_) (fun h => absurd (decide_eq_true rfl) h)
        refine ⟨_, rfl, a, _, _, _, _, rfl, ha, G.dListed.cl, G.dListed.no _ (by decide +kernel), lListed_texts, _, rfl, c, _, _, _, _, rfl, hb, G.dListed.cl, G.dListed.no _ (by decide +kernel), lListed_texts, _, _, dp_strT ht.sq, dp_strT ht'.sq, ox, oz, q H (Same.refl _)⟩
      · obtain ⟨dz, fz, ez⟩ := hz.ins
        refine ⟨_, rfl, _, rfl, .inl ⟨a, _, _, _, rfl, ea, _, rfl, _, rfl, .inl ⟨c, _, _, _, rfl, ez, _, rfl, .inl ⟨_, rfl, .inr ⟨(G.mks 3 (by decide)).makes, (G.mks z.ci z.ci_lt).makes⟩, _, rfl, ?_⟩⟩⟩⟩
        rw [decide_eq_false (fun e => hc ((G.ne 3 z.ci (by decide) z.ci_lt).mp e).symm)]
        have e := eqT_ci (x := x) (z := z) (by rw [hi]; exact fun e => hc e.symm)
        rw [e] at q
        exact iteF (q H (Same.refl _))
    · exact ⟨_, rfl, _, rfl, .inl ⟨a, _, _, _, rfl, ea, _, rfl, _, rfl, .inr ⟨_, .tup hb, _, rfl, .inr ⟨_, rfl, _, rfl, iteF q⟩⟩⟩⟩
    · exact ⟨_, rfl, _, rfl, .inl ⟨a, _, _, _, rfl, ea, _, rfl, _, rfl, .inr ⟨_, .int n, _, rfl, .inr ⟨_, rfl, _, rfl, iteF q⟩⟩⟩⟩

abbrev s_Ended_eqt : Stmt := inClass (top 24) 1
theorem sc_Ended_eqt : FnScope ["self", "other"] ["self", "other"] (defScope s_Ended_eqt) := ⟨rfl, rfl, rfl, by decide +kernel, rfl, by decide +kernel, by decide +kernel⟩

theorem ok_Ended_eqt (F : FunD K "__eq__" "Ended.__eq__" (defArgs s_Ended_eqt) (defBody s_Ended_eqt) (defScope s_Ended_eqt) [] [] f fd) (G : H2 P w K mg base) : FnOk P w K mg base CX0 1 f fd ["self", "other"] (spEqTh K 4) := by
  refine F.ok (CX := CX0) sc_Ended_eqt (fun vs H Q E h => ?_) (fun cdv A outer s H vs Q E hr h => ?_)
  · obtain ⟨_, _, _, rfl, _⟩ := h
    rfl
  · refine ⟨_, PSs.nox (pss_one (ps_ret (pe_and (pe_cmpR op_isA (pe_callTy call_tyA (by rfl) G.type (by decide +kernel) (pa_cons (pv 0) pa_nil)) (pe_callTy call_tyA (by rfl) G.type (by decide +kernel) (pa_cons (pv 1) pa_nil)) (nomark _)) (pe_and (pe_cmpR op_eq (pe_fld (pv 0) rfl) (pe_fld (pv 1) rfl) (nomark _)) (pe_and (pe_cmpR op_eq (pe_fld (pv 0) rfl) (pe_fld (pv 1) rfl) (nomark _)) (pe_and (pe_cmpR op_eq (pe_fld (pv 0) rfl) (pe_fld (pv 1) rfl) (nomark _)) (pe_one (pe_cmpR op_eq (pe_fld (pv 0) rfl) (pe_fld (pv 1) rfl) (nomark _))))))))), ?_⟩
    obtain ⟨a, y, x, rfl, hx, ox, hi, h⟩ := h
    obtain ⟨da, fa_, ea⟩ := hx.ins
    rw [hi] at ea
    rcases h with ⟨c, z, rfl, hz, oz, q⟩ | ⟨c, xs, rfl, hb, q⟩ | ⟨n, rfl, q⟩
    · by_cases hc : z.ci = 4
      · match x, z, hi, hc, hx, hz, ox, oz, q with
        | .ended s e l m, .ended s' e' l' m', _, _, hx, hz, ox, oz, q =>
        obtain ⟨dx, ha⟩ := hx
        obtain ⟨dz, hb⟩ := hz
        refine ⟨_, rfl, _, rfl, .inl ⟨a, _, _, _, rfl, ha, _, rfl, _, rfl, .inl ⟨c, _, _, _, rfl, hb, _, rfl, .inl ⟨_, rfl, .inl rfl, _, rfl, ?_⟩⟩⟩⟩
        refine ite2 (fun _ => ?_) (fun h => absurd (decide_eq_true rfl) h)
        refine ⟨_, rfl, a, _, _, _, _, rfl, ha, G.dEnded.cl, G.dEnded.no _ (by decide +kernel), lEnded_signs, _, rfl, c, _, _, _, _, rfl, hb, G.dEnded.cl, G.dEnded.no _ (by decide +kernel), lEnded_signs, rfl, _, rfl, ?_⟩
        refine ite_and (H := H) (Q := Q) q fun q => ?_
        refine ⟨_, rfl, a, _, _, _, _, rfl, ha, G.dEnded.cl, G.dEnded.no _ (by decide +kernel), lEnded_sign, _, rfl, c, _, _, _, _, rfl, hb, G.dEnded.cl, G.dEnded.no _ (by decide +kernel), lEnded_sign, rfl, _, rfl, ?_⟩
        refine ite_and (H := H) (Q := Q) q fun q => ?_
        refine ⟨_, rfl, a, _, _, _, _, rfl, ha, G.dEnded.cl, G.dEnded.no _ (by decide +kernel), lEnded_least, _, rfl, c, _, _, _, _, rfl, hb, G.dEnded.cl, G.dEnded.no _ (by decide +kernel), lEnded_least, rfl, _, rfl, ?_⟩
        refine ite_and (H := H) (Q := Q) q fun q => ?_
        refine ⟨_, rfl, a, _, _, _, _, rfl, ha, G.dEnded.cl, G.dEnded.no _ (by decide +kernel), lEnded_most, _, rfl, c, _, _, _, _, rfl, hb, G.dEnded.cl, G.dEnded.no _ (by decide +kernel), lEnded_most, scal_mv m m', q H (Same.refl _)⟩
      · obtain ⟨dz, fz, ez⟩ := hz.ins
        refine ⟨_, rfl, _, rfl, .inl ⟨a, _, _, _, rfl, ea, _, rfl, _, rfl, .inl ⟨c, _, _, _, rfl, ez, _, rfl, .inl ⟨_, rfl, .inr ⟨(G.mks 4 (by decide)).makes, (G.mks z.ci z.ci_lt).makes⟩, _, rfl, ?_⟩⟩⟩⟩
        rw [decide_eq_false (fun e => hc ((G.ne 4 z.ci (by decide) z.ci_lt).mp e).symm)]
        have e := eqT_ci (x := x) (z := z) (by rw [hi]; exact fun e => hc e.symm)
        rw [e] at q
        exact iteF (q H (Same.refl _))
    · exact ⟨_, rfl, _, rfl, .inl ⟨a, _, _, _, rfl, ea, _, rfl, _, rfl, .inr ⟨_, .tup hb, _, rfl, .inr ⟨_, rfl, _, rfl, iteF q⟩⟩⟩⟩
    · exact ⟨_, rfl, _, rfl, .inl ⟨a, _, _, _, rfl, ea, _, rfl, _, rfl, .inr ⟨_, .int n, _, rfl, .inr ⟨_, rfl, _, rfl, iteF q⟩⟩⟩⟩

abbrev s_Pair_eqt : Stmt := inClass (top 34) 1
theorem sc_Pair_eqt : FnScope ["self", "other"] ["self", "other"] (defScope s_Pair_eqt) := ⟨rfl, rfl, rfl, by decide +kernel, rfl, by decide +kernel, by decide +kernel⟩

theorem ok_Pair_eqt (F : FunD K "__eq__" "Pair.__eq__" (defArgs s_Pair_eqt) (defBody s_Pair_eqt) (defScope s_Pair_eqt) [] [] f fd) (G : H2 P w K mg base) : FnOk P w K mg base CX0 1 f fd ["self", "other"] (spEqTh K 6) := by
  refine F.ok (CX := CX0) sc_Pair_eqt (fun vs H Q E h => ?_) (fun cdv A outer s H vs Q E hr h => ?_)
  · obtain ⟨_, _, _, rfl, _⟩ := h
    rfl
  · refine ⟨_, PSs.nox (pss_one (ps_ret (pe_and (pe_cmpR op_isA (pe_callTy call_tyA (by rfl) G.type (by decide +kernel) (pa_cons (pv 0) pa_nil)) (pe_callTy call_tyA (by rfl) G.type (by decide +kernel) (pa_cons (pv 1) pa_nil)) (nomark _)) (pe_and (pe_cmpR (op_eqD hr.units) (pe_fld (pv 0) rfl) (pe_fld (pv 1) rfl) (nomark _)) (pe_one (pe_cmpR (op_eqD hr.units) (pe_fld (pv 0) rfl) (pe_fld (pv 1) rfl) (nomark _))))))), ?_⟩
    obtain ⟨a, y, x, rfl, hx, ox, hi, h⟩ := h
    obtain ⟨da, fa_, ea⟩ := hx.ins
    rw [hi] at ea
    rcases h with ⟨c, z, rfl, hz, oz, q⟩ | ⟨c, xs, rfl, hb, q⟩ | ⟨n, rfl, q⟩
    · by_cases hc : z.ci = 6
      · match x, z, hi, hc, hx, hz, ox, oz, q with
        | .pair xs ys, .pair xs' ys', _, _, hx, hz, ox, oz, q =>
        obtain ⟨dx, t, u, ha, ht, hu⟩ := hx
        obtain ⟨dz, t', u', hb, ht', hu'⟩ := hz
        refine ⟨_, rfl, _, rfl, .inl ⟨a, _, _, _, rfl, ha, _, rfl, _, rfl, .inl ⟨c, _, _, _, rfl, hb, _, rfl, .inl ⟨_, rfl, .inl rfl, _, rfl, ?_⟩⟩⟩⟩
        refine ite2 (fun _ => ?_) (fun h => absurd (decide_eq_true rfl) h)
        refine ⟨_, rfl, a, _, _, _, _, rfl, ha, G.cPair.cl, G.cPair.no _ (by decide +kernel), lPair_one, _, rfl, c, _, _, _, _, rfl, hb, G.cPair.cl, G.cPair.no _ (by decide +kernel), lPair_one, _, _, dp_tup ht ox.fx, dp_tup ht' oz.fx, ox.sx, oz.sx, _, rfl, ?_⟩
        refine ite_and (H := H) (Q := Q) q fun q => ?_
        refine ⟨_, rfl, a, _, _, _, _, rfl, ha, G.cPair.cl, G.cPair.no _ (by decide +kernel), lPair_other, _, rfl, c, _, _, _, _, rfl, hb, G.cPair.cl, G.cPair.no _ (by decide +kernel), lPair_other, _, _, dp_tup hu ox.fy, dp_tup hu' oz.fy, ox.sy, oz.sy, q H (Same.refl _)⟩
      · obtain ⟨dz, fz, ez⟩ := hz.ins
        refine ⟨_, rfl, _, rfl, .inl ⟨a, _, _, _, rfl, ea, _, rfl, _, rfl, .inl ⟨c, _, _, _, rfl, ez, _, rfl, .inl ⟨_, rfl, .inr ⟨(G.mks 6 (by decide)).makes, (G.mks z.ci z.ci_lt).makes⟩, _, rfl, ?_⟩⟩⟩⟩
        rw [decide_eq_false (fun e => hc ((G.ne 6 z.ci (by decide) z.ci_lt).mp e).symm)]
        have e := eqT_ci (x := x) (z := z) (by rw [hi]; exact fun e => hc e.symm)
        rw [e] at q
        exact iteF (q H (Same.refl _))
    · exact ⟨_, rfl, _, rfl, .inl ⟨a, _, _, _, rfl, ea, _, rfl, _, rfl, .inr ⟨_, .tup hb, _, rfl, .inr ⟨_, rfl, _, rfl, iteF q⟩⟩⟩⟩
    · exact ⟨_, rfl, _, rfl, .inl ⟨a, _, _, _, rfl, ea, _, rfl, _, rfl, .inr ⟨_, .int n, _, rfl, .inr ⟨_, rfl, _, rfl, iteF q⟩⟩⟩⟩

abbrev s_Wish_eqt : Stmt := inClass (top 36) 1
theorem sc_Wish_eqt : FnScope ["self", "other"] ["self", "other"] (defScope s_Wish_eqt) := ⟨rfl, rfl, rfl, by decide +kernel, rfl, by decide +kernel, by decide +kernel⟩

theorem ok_Wish_eqt (F : FunD K "__eq__" "Wish.__eq__" (defArgs s_Wish_eqt) (defBody s_Wish_eqt) (defScope s_Wish_eqt) [] [] f fd) (G : H2 P w K mg base) : FnOk P w K mg base CX0 1 f fd ["self", "other"] (spEqTh K 7) := by
  refine F.ok (CX := CX0) sc_Wish_eqt (fun vs H Q E h => ?_) (fun cdv A outer s H vs Q E hr h => ?_)
  · obtain ⟨_, _, _, rfl, _⟩ := h
    rfl
  · refine ⟨_, PSs.nox (pss_one (ps_ret (pe_and (pe_cmpR op_isA (pe_callTy call_tyA (by rfl) G.type (by decide +kernel) (pa_cons (pv 0) pa_nil)) (pe_callTy call_tyA (by rfl) G.type (by decide +kernel) (pa_cons (pv 1) pa_nil)) (nomark _)) (pe_and (pe_cmpR op_eq (pe_fld (pv 0) rfl) (pe_fld (pv 1) rfl) (nomark _)) (pe_one (pe_cmpR (op_eqD hr.units) (pe_fld (pv 0) rfl) (pe_fld (pv 1) rfl) (nomark _))))))), ?_⟩
    obtain ⟨a, y, x, rfl, hx, ox, hi, h⟩ := h
    obtain ⟨da, fa_, ea⟩ := hx.ins
    rw [hi] at ea
    rcases h with ⟨c, z, rfl, hz, oz, q⟩ | ⟨c, xs, rfl, hb, q⟩ | ⟨n, rfl, q⟩
    · by_cases hc : z.ci = 7
      · match x, z, hi, hc, hx, hz, ox, oz, q with
        | .wish b js, .wish b' js', _, _, hx, hz, ox, oz, q =>
        obtain ⟨dx, t, ha, ht⟩ := hx
        obtain ⟨dz, t', hb, ht'⟩ := hz
        refine ⟨_, rfl, _, rfl, .inl ⟨a, _, _, _, rfl, ha, _, rfl, _, rfl, .inl ⟨c, _, _, _, rfl, hb, _, rfl, .inl ⟨_, rfl, .inl rfl, _, rfl, ?_⟩⟩⟩⟩
        refine ite2 (fun _ => ?_) (fun h => absurd (decide_eq_true rfl) h)
        refine ⟨_, rfl, a, _, _, _, _, rfl, ha, G.cWish.cl, G.cWish.no _ (by decide +kernel), lWish_order, _, rfl, c, _, _, _, _, rfl, hb, G.cWish.cl, G.cWish.no _ (by decide +kernel), lWish_order, rfl, _, rfl, ?_⟩
        refine ite_and (H := H) (Q := Q) q fun q => ?_
        refine ⟨_, rfl, a, _, _, _, _, rfl, ha, G.cWish.cl, G.cWish.no _ (by decide +kernel), lWish_scans, _, rfl, c, _, _, _, _, rfl, hb, G.cWish.cl, G.cWish.no _ (by decide +kernel), lWish_scans, _, _, dp_ints ht, dp_ints ht', ints_shaped _, ints_shaped _, q H (Same.refl _)⟩
      · obtain ⟨dz, fz, ez⟩ := hz.ins
        refine ⟨_, rfl, _, rfl, .inl ⟨a, _, _, _, rfl, ea, _, rfl, _, rfl, .inl ⟨c, _, _, _, rfl, ez, _, rfl, .inl ⟨_, rfl, .inr ⟨(G.mks 7 (by decide)).makes, (G.mks z.ci z.ci_lt).makes⟩, _, rfl, ?_⟩⟩⟩⟩
        rw [decide_eq_false (fun e => hc ((G.ne 7 z.ci (by decide) z.ci_lt).mp e).symm)]
        have e := eqT_ci (x := x) (z := z) (by rw [hi]; exact fun e => hc e.symm)
        rw [e] at q
        exact iteF (q H (Same.refl _))
    · exact ⟨_, rfl, _, rfl, .inl ⟨a, _, _, _, rfl, ea, _, rfl, _, rfl, .inr ⟨_, .tup hb, _, rfl, .inr ⟨_, rfl, _, rfl, iteF q⟩⟩⟩⟩
    · exact ⟨_, rfl, _, rfl, .inl ⟨a, _, _, _, rfl, ea, _, rfl, _, rfl, .inr ⟨_, .int n, _, rfl, .inr ⟨_, rfl, _, rfl, iteF q⟩⟩⟩⟩

abbrev s_Marked_eqt : Stmt := inClass (top 25) 1
theorem sc_Marked_eqt : FnScope ["self", "other"] ["self", "other"] (defScope s_Marked_eqt) := ⟨rfl, rfl, rfl, by decide +kernel, rfl, by decide +kernel, by decide +kernel⟩

theorem ok_Marked_eqt (F : FunD K "__eq__" "Marked.__eq__" (defArgs s_Marked_eqt) (defBody s_Marked_eqt) (defScope s_Marked_eqt) [] [] f fd) (G : H3 P w K mg base) : FnOk P w K mg base CX0 2 f fd ["self", "other"] (spEqTh K 5) := by
  refine F.ok (CX := CX0) sc_Marked_eqt (fun vs H Q E h => ?_) (fun cdv A outer s H vs Q E hr h => ?_)
  · obtain ⟨_, _, _, rfl, _⟩ := h
    rfl
  · obtain ⟨fdf, Ff, Bf⟩ := G.qFixed.ok
    refine ⟨_, PSs.nox (pss_one (ps_ret (pe_and (pe_cmpR op_isA (pe_callTy call_tyA (by rfl) G.type (by decide +kernel) (pa_cons (pv 0) pa_nil)) (pe_callTy call_tyA (by rfl) G.type (by decide +kernel) (pa_cons (pv 1) pa_nil)) (nomark _)) (pe_and (pe_cmpR op_eq (pe_fld (pv 0) rfl) (pe_fld (pv 1) rfl) (nomark _)) (pe_and (pe_cmpR op_eq (pe_fld (pv 0) rfl) (pe_fld (pv 1) rfl) (nomark _)) (pe_one (pe_cmpR (op_eqO pass0) (pe_fld (pv 0) rfl) (pe_fld (pv 1) rfl) (nomark _)))))))), ?_⟩
    obtain ⟨a, y, x, rfl, hx, ox, hi, h⟩ := h
    obtain ⟨da, fa_, ea⟩ := hx.ins
    rw [hi] at ea
    rcases h with ⟨c, z, rfl, hz, oz, q⟩ | ⟨c, xs, rfl, hb, q⟩ | ⟨n, rfl, q⟩
    · by_cases hc : z.ci = 5
      · match x, z, hi, hc, hx, hz, ox, oz, q with
        | .marked n k w, .marked n' k' w', _, _, hx, hz, ox, oz, q =>
        obtain ⟨dx, y, ha, hy⟩ := hx
        obtain ⟨dz, y', hb, hy'⟩ := hz
        obtain ⟨d1, ey⟩ := id hy
        obtain ⟨d2, ey'⟩ := id hy'
        refine ⟨_, rfl, _, rfl, .inl ⟨a, _, _, _, rfl, ha, _, rfl, _, rfl, .inl ⟨c, _, _, _, rfl, hb, _, rfl, .inl ⟨_, rfl, .inl rfl, _, rfl, ?_⟩⟩⟩⟩
        refine ite2 (fun _ => ?_) (fun h => absurd (decide_eq_true rfl) h)
        refine ⟨_, rfl, a, _, _, _, _, rfl, ha, G.dMarked.cl, G.dMarked.no _ (by decide +kernel), lMarked_none, _, rfl, c, _, _, _, _, rfl, hb, G.dMarked.cl, G.dMarked.no _ (by decide +kernel), lMarked_none, rfl, _, rfl, ?_⟩
        refine ite_and (H := H) (Q := Q) q fun q => ?_
        refine ⟨_, rfl, a, _, _, _, _, rfl, ha, G.dMarked.cl, G.dMarked.no _ (by decide +kernel), lMarked_mark, _, rfl, c, _, _, _, _, rfl, hb, G.dMarked.cl, G.dMarked.no _ (by decide +kernel), lMarked_mark, rfl, _, rfl, ?_⟩
        refine ite_and (H := H) (Q := Q) q fun q => ?_
        refine ⟨_, rfl, a, _, _, _, _, rfl, ha, G.dMarked.cl, G.dMarked.no _ (by decide +kernel), lMarked_field, _, rfl, c, _, _, _, _, rfl, hb, G.dMarked.cl, G.dMarked.no _ (by decide +kernel), lMarked_field, y, _, _, _, _, rfl, ey, G.dFixed.eq, G.dFixed.ty G.toH0 ey', by simp [notFirst], 1, fdf, _, _, G.dFixed.kp, Ff, hr, Bf, y, .ref y', .fixed w, rfl, hy, trivial, rfl, .inl ⟨y', .fixed w', rfl, hy', trivial, fun H' S => ⟨_, rfl, q H' S⟩⟩⟩
      · obtain ⟨dz, fz, ez⟩ := hz.ins
        refine ⟨_, rfl, _, rfl, .inl ⟨a, _, _, _, rfl, ea, _, rfl, _, rfl, .inl ⟨c, _, _, _, rfl, ez, _, rfl, .inl ⟨_, rfl, .inr ⟨(G.mks 5 (by decide)).makes, (G.mks z.ci z.ci_lt).makes⟩, _, rfl, ?_⟩⟩⟩⟩
        rw [decide_eq_false (fun e => hc ((G.ne 5 z.ci (by decide) z.ci_lt).mp e).symm)]
        have e := eqT_ci (x := x) (z := z) (by rw [hi]; exact fun e => hc e.symm)
        rw [e] at q
        exact iteF (q H (Same.refl _))
    · exact ⟨_, rfl, _, rfl, .inl ⟨a, _, _, _, rfl, ea, _, rfl, _, rfl, .inr ⟨_, .tup hb, _, rfl, .inr ⟨_, rfl, _, rfl, iteF q⟩⟩⟩⟩
    · exact ⟨_, rfl, _, rfl, .inl ⟨a, _, _, _, rfl, ea, _, rfl, _, rfl, .inr ⟨_, .int n, _, rfl, .inr ⟨_, rfl, _, rfl, iteF q⟩⟩⟩⟩

abbrev s_Stretch_eqt : Stmt := inClass (top 37) 1
theorem sc_Stretch_eqt : FnScope ["self", "other"] ["self", "other"] (defScope s_Stretch_eqt) := ⟨rfl, rfl, rfl, by decide +kernel, rfl, by decide +kernel, by decide +kernel⟩

theorem ok_Stretch_eqt (F : FunD K "__eq__" "Stretch.__eq__" (defArgs s_Stretch_eqt) (defBody s_Stretch_eqt) (defScope s_Stretch_eqt) [] [] f fd) (G : H3 P w K mg base) : FnOk P w K mg base CX0 2 f fd ["self", "other"] (spEqTh K 8) := by
  refine F.ok (CX := CX0) sc_Stretch_eqt (fun vs H Q E h => ?_) (fun cdv A outer s H vs Q E hr h => ?_)
  · obtain ⟨_, _, _, rfl, _⟩ := h
    rfl
  · obtain ⟨fdp, Fp, Bp⟩ := G.qPair.ok
    refine ⟨_, PSs.nox (pss_one (ps_ret (pe_and (pe_cmpR op_isA (pe_callTy call_tyA (by rfl) G.type (by decide +kernel) (pa_cons (pv 0) pa_nil)) (pe_callTy call_tyA (by rfl) G.type (by decide +kernel) (pa_cons (pv 1) pa_nil)) (nomark _)) (pe_and (pe_cmpR op_eq (pe_fld (pv 0) rfl) (pe_fld (pv 1) rfl) (nomark _)) (pe_and (pe_cmpR op_eq (pe_fld (pv 0) rfl) (pe_fld (pv 1) rfl) (nomark _)) (pe_and (pe_cmpR op_eq (pe_fld (pv 0) rfl) (pe_fld (pv 1) rfl) (nomark _)) (pe_one (pe_cmpR (op_eqO pass0) (pe_fld (pv 0) rfl) (pe_fld (pv 1) rfl) (nomark _))))))))), ?_⟩
    obtain ⟨a, y, x, rfl, hx, ox, hi, h⟩ := h
    obtain ⟨da, fa_, ea⟩ := hx.ins
    rw [hi] at ea
    rcases h with ⟨c, z, rfl, hz, oz, q⟩ | ⟨c, xs, rfl, hb, q⟩ | ⟨n, rfl, q⟩
    · by_cases hc : z.ci = 8
      · match x, z, hi, hc, hx, hz, ox, oz, q with
        | .str d, .str d', _, _, hx, hz, ox, oz, q =>
        obtain ⟨p, ⟨dx, ha⟩, hp⟩ := hx
        obtain ⟨p', ⟨dz, hb⟩, hp'⟩ := hz
        obtain ⟨d1, t1, u1, ep, _⟩ := id hp
        obtain ⟨d2, t2, u2, ep', _⟩ := id hp'
        refine ⟨_, rfl, _, rfl, .inl ⟨a, _, _, _, rfl, ha, _, rfl, _, rfl, .inl ⟨c, _, _, _, rfl, hb, _, rfl, .inl ⟨_, rfl, .inl rfl, _, rfl, ?_⟩⟩⟩⟩
        refine ite2 (fun _ => ?_) (fun h => absurd (decide_eq_true rfl) h)
        refine ⟨_, rfl, a, _, _, _, _, rfl, ha, G.cStretch.cl, G.cStretch.no _ (by decide +kernel), lStretch_kind, _, rfl, c, _, _, _, _, rfl, hb, G.cStretch.cl, G.cStretch.no _ (by decide +kernel), lStretch_kind, rfl, _, rfl, ?_⟩
        refine ite_and (H := H) (Q := Q) q fun q => ?_
        refine ⟨_, rfl, a, _, _, _, _, rfl, ha, G.cStretch.cl, G.cStretch.no _ (by decide +kernel), lStretch_first, _, rfl, c, _, _, _, _, rfl, hb, G.cStretch.cl, G.cStretch.no _ (by decide +kernel), lStretch_first, rfl, _, rfl, ?_⟩
        refine ite_and (H := H) (Q := Q) q fun q => ?_
        refine ⟨_, rfl, a, _, _, _, _, rfl, ha, G.cStretch.cl, G.cStretch.no _ (by decide +kernel), lStretch_last, _, rfl, c, _, _, _, _, rfl, hb, G.cStretch.cl, G.cStretch.no _ (by decide +kernel), lStretch_last, rfl, _, rfl, ?_⟩
        refine ite_and (H := H) (Q := Q) q fun q => ?_
        refine ⟨_, rfl, a, _, _, _, _, rfl, ha, G.cStretch.cl, G.cStretch.no _ (by decide +kernel), lStretch_pair, _, rfl, c, _, _, _, _, rfl, hb, G.cStretch.cl, G.cStretch.no _ (by decide +kernel), lStretch_pair, p, _, _, _, _, rfl, ep, G.cPair.eq, G.cPair.ty G.toH0 ep', by simp [notFirst], 1, fdp, _, _, G.cPair.kp, Fp, hr, Bp, p, .ref p', .pair d.xs d.ys, rfl, hp, ox, rfl, .inl ⟨p', .pair d'.xs d'.ys, rfl, hp', oz, fun H' S => ⟨_, rfl, q H' S⟩⟩⟩
      · obtain ⟨dz, fz, ez⟩ := hz.ins
        refine ⟨_, rfl, _, rfl, .inl ⟨a, _, _, _, rfl, ea, _, rfl, _, rfl, .inl ⟨c, _, _, _, rfl, ez, _, rfl, .inl ⟨_, rfl, .inr ⟨(G.mks 8 (by decide)).makes, (G.mks z.ci z.ci_lt).makes⟩, _, rfl, ?_⟩⟩⟩⟩
        rw [decide_eq_false (fun e => hc ((G.ne 8 z.ci (by decide) z.ci_lt).mp e).symm)]
        have e := eqT_ci (x := x) (z := z) (by rw [hi]; exact fun e => hc e.symm)
        rw [e] at q
        exact iteF (q H (Same.refl _))
    · exact ⟨_, rfl, _, rfl, .inl ⟨a, _, _, _, rfl, ea, _, rfl, _, rfl, .inr ⟨_, .tup hb, _, rfl, .inr ⟨_, rfl, _, rfl, iteF q⟩⟩⟩⟩
    · exact ⟨_, rfl, _, rfl, .inl ⟨a, _, _, _, rfl, ea, _, rfl, _, rfl, .inr ⟨_, .int n, _, rfl, .inr ⟨_, rfl, _, rfl, iteF q⟩⟩⟩⟩

end
end L2.K07

set_option Elab.async false
set_option linter.all false
set_option maxRecDepth 100000
set_option maxHeartbeats 4000000
/-! == of mends and of layouts. -/
namespace L2.K07
open PySem PySem.W PySem.Spec PySem.Calls PyProof.Rows L2.Jk
theorem SdAt.det {K : Frag} {H : Hp} {a : Addr} {d d' : SD} (o : PkOk d.xs d.ys) : SdAt K H a d → SdAt K H a d' → eqS d d' = true
  | ⟨c, ⟨dx, e⟩, p⟩, ⟨c', ⟨dx', e'⟩, p'⟩ => by
    rw [e] at e'
    injection e' with z
    injection z with _ _ z
    have e1 := congrArg (fun l => List.lookup ("kind" : Str) l) z
    have e2 := congrArg (fun l => List.lookup ("first" : Str) l) z
    have e3 := congrArg (fun l => List.lookup ("last" : Str) l) z
    have e4 := congrArg (fun l => List.lookup ("pair" : Str) l) z
    rw [lStretch_kind, lStretch_kind] at e1
    rw [lStretch_first, lStretch_first] at e2
    rw [lStretch_last, lStretch_last] at e3
    rw [lStretch_pair, lStretch_pair] at e4
    cases e4
    obtain ⟨x, y⟩ := p.det p'
    unfold eqS eqPr
    rw [← x, ← y, ← Option.some.inj e1, ← Option.some.inj e2, ← Option.some.inj e3, decide_eq_true rfl, decide_eq_true rfl, decide_eq_true rfl]
    show (PyData.eqv (flatD d.xs) (flatD d.xs) && PyData.eqv (flatD d.ys) (flatD d.ys)) = true
    rw [show PyData.eqv (flatD d.xs) (flatD d.xs) = true from eqv_same o.sx, show PyData.eqv (flatD d.ys) (flatD d.ys) = true from eqv_same o.sy]
    rfl
theorem SdAt.dst {K : Frag} {H : Hp} {a b : Addr} {d d' : SD} (o : PkOk d.xs d.ys) (o' : PkOk d'.xs d'.ys) (x : SdAt K H a d) (y : SdAt K H b d') : DSt K (.ref a) (.ref b) (eqS d d') H := by
  obtain ⟨c, ⟨dx, e⟩, p⟩ := id x
  obtain ⟨c', ⟨dy, e'⟩, p'⟩ := id y
  exact ⟨a, b, dx, dy, _, _, rfl, rfl, e, e', ⟨d, d', x, y, o, o', rfl⟩, fun z => by subst z; exact x.det o y⟩
theorem fx_dfx {K : Frag} {H : Hp} {a b : Addr} {w v : Int} (x : FieldAt K H a (.fixed (.int w))) (y : FieldAt K H b (.fixed (.int v))) : DFx K (.ref a) (.ref b) (decide (V.int w = V.int v)) H := by
  obtain ⟨dx, e⟩ := id x
  obtain ⟨dy, e'⟩ := id y
  refine ⟨a, b, dx, dy, _, _, rfl, rfl, e, e', ⟨w, v, x, y, rfl⟩, fun z => ?_⟩
  subst z
  rw [e] at e'
  injection e' with z
  injection z with _ _ z
  have e1 := congrArg (fun l => List.lookup ("width" : Str) l) z
  rw [lFixed_width, lFixed_width] at e1
  rw [Option.some.inj e1]
  exact decide_eq_true rfl
theorem getD_of {α : Type} {xs : List α} {i : Nat} {x d : α} (h : xs[i]? = some x) : xs.getD i d = x := by
  rw [List.getD_eq_getElem?_getD, h]
  rfl
theorem ref_at {as : List Addr} {i : Nat} {x : V} (h : (as.map V.ref)[i]? = some x) : ∃ a, as[i]? = some a ∧ x = .ref a := by
  rw [List.getElem?_map] at h
  obtain ⟨a, e, z⟩ := Option.map_eq_some_iff.mp h
  exact ⟨a, e, z.symm⟩
section
variable {P : Program} {w : World} {K : Frag} {mg : Str → Option Value} {base : Heap} {f : Addr} {fd : FuncData}

abbrev s_Mend_eqt : Stmt := inClass (top 38) 1
theorem sc_Mend_eqt : FnScope ["self", "other"] ["self", "other"] (defScope s_Mend_eqt) := ⟨rfl, rfl, rfl, by decide +kernel, rfl, by decide +kernel, by decide +kernel⟩

theorem ok_Mend_eqt (F : FunD K "__eq__" "Mend.__eq__" (defArgs s_Mend_eqt) (defBody s_Mend_eqt) (defScope s_Mend_eqt) [] [] f fd) (G : H4 P w K mg base) : FnOk P w K mg base CX0 4 f fd ["self", "other"] (spEqTh K 9) := by
  refine F.ok (CX := CX0) sc_Mend_eqt (fun vs H Q E h => ?_) (fun cdv A outer s H vs Q E hr h => ?_)
  · obtain ⟨_, _, _, rfl, _⟩ := h
    rfl
  · obtain ⟨fds, Fs, Bs⟩ := G.qStr.ok
    refine ⟨_, PSs.nox (pss_one (ps_ret (pe_and (pe_cmpR op_isA (pe_callTy call_tyA (by rfl) G.type (by decide +kernel) (pa_cons (pv 0) pa_nil)) (pe_callTy call_tyA (by rfl) G.type (by decide +kernel) (pa_cons (pv 1) pa_nil)) (nomark _)) (pe_and (pe_cmpR (op_eqD hr.units) (pe_fld (pv 0) rfl) (pe_fld (pv 1) rfl) (nomark _)) (pe_one (pe_cmpR (op_eqTB (monSt K) (eqSt Fs Bs G.cStretch.eq pass0) hr) (pe_fld (pv 0) rfl) (pe_fld (pv 1) rfl) (nomark _))))))), ?_⟩
    obtain ⟨a, y, x, rfl, hx, ox, hi, h⟩ := h
    obtain ⟨da, fa_, ea⟩ := hx.ins
    rw [hi] at ea
    rcases h with ⟨c, z, rfl, hz, oz, q⟩ | ⟨c, xs, rfl, hb, q⟩ | ⟨n, rfl, q⟩
    · by_cases hc : z.ci = 9
      · match x, z, hi, hc, hx, hz, ox, oz, q with
        | .mend js ss, .mend js' ss', _, _, hx, hz, ox, oz, q =>
        obtain ⟨dx, t, u, as, ha, ht, hu, la, hs⟩ := hx
        obtain ⟨dz, t', u', as', hb, ht', hu', lb, hs'⟩ := hz
        refine ⟨_, rfl, _, rfl, .inl ⟨a, _, _, _, rfl, ha, _, rfl, _, rfl, .inl ⟨c, _, _, _, rfl, hb, _, rfl, .inl ⟨_, rfl, .inl rfl, _, rfl, ?_⟩⟩⟩⟩
        refine ite2 (fun _ => ?_) (fun h => absurd (decide_eq_true rfl) h)
        refine ⟨_, rfl, a, _, _, _, _, rfl, ha, G.cMend.cl, G.cMend.no _ (by decide +kernel), lMend_joints, _, rfl, c, _, _, _, _, rfl, hb, G.cMend.cl, G.cMend.no _ (by decide +kernel), lMend_joints, _, _, dp_ints ht, dp_ints ht', ints_shaped _, ints_shaped _, _, rfl, ?_⟩
        refine ite_and (H := H) (Q := Q) q fun q => ?_
        refine ⟨_, rfl, a, _, _, _, _, rfl, ha, G.cMend.cl, G.cMend.no _ (by decide +kernel), lMend_stretches, _, rfl, c, _, _, _, _, rfl, hb, G.cMend.cl, G.cMend.no _ (by decide +kernel), lMend_stretches, u, u', _, _, (fun i => eqS (sAt ss i) (sAt ss' i)), rfl, rfl, SqT.of hu, SqT.of hu', (fun i x y hx hy => ?_), fun H' S => ?_⟩
        · obtain ⟨b, eb, rfl⟩ := ref_at hx
          obtain ⟨b', eb', rfl⟩ := ref_at hy
          have i1 : i < ss.length := by rw [← la]; exact (List.getElem?_eq_some_iff.mp eb).1
          have i2 : i < ss'.length := by rw [← lb]; exact (List.getElem?_eq_some_iff.mp eb').1
          have x1 := hs i b ss[i] eb (List.getElem?_eq_getElem i1)
          have x2 := hs' i b' ss'[i] eb' (List.getElem?_eq_getElem i2)
          have g1 : sAt ss i = ss[i] := getD_of (List.getElem?_eq_getElem i1)
          have g2 : sAt ss' i = ss'[i] := getD_of (List.getElem?_eq_getElem i2)
          show DSt K _ _ (eqS (sAt ss i) (sAt ss' i)) H
          rw [g1, g2]
          exact x1.dst (ox _ (List.getElem_mem i1)) (oz _ (List.getElem_mem i2)) x2
        · rw [List.length_map, List.length_map, la, lb]
          exact q H' S
      · obtain ⟨dz, fz, ez⟩ := hz.ins
        refine ⟨_, rfl, _, rfl, .inl ⟨a, _, _, _, rfl, ea, _, rfl, _, rfl, .inl ⟨c, _, _, _, rfl, ez, _, rfl, .inl ⟨_, rfl, .inr ⟨(G.mks 9 (by decide)).makes, (G.mks z.ci z.ci_lt).makes⟩, _, rfl, ?_⟩⟩⟩⟩
        rw [decide_eq_false (fun e => hc ((G.ne 9 z.ci (by decide) z.ci_lt).mp e).symm)]
        have e := eqT_ci (x := x) (z := z) (by rw [hi]; exact fun e => hc e.symm)
        rw [e] at q
        exact iteF (q H (Same.refl _))
    · exact ⟨_, rfl, _, rfl, .inl ⟨a, _, _, _, rfl, ea, _, rfl, _, rfl, .inr ⟨_, .tup hb, _, rfl, .inr ⟨_, rfl, _, rfl, iteF q⟩⟩⟩⟩
    · exact ⟨_, rfl, _, rfl, .inl ⟨a, _, _, _, rfl, ea, _, rfl, _, rfl, .inr ⟨_, .int n, _, rfl, .inr ⟨_, rfl, _, rfl, iteF q⟩⟩⟩⟩

abbrev s_Layout_eqt : Stmt := inClass (top 30) 1
theorem sc_Layout_eqt : FnScope ["self", "other"] ["self", "other"] (defScope s_Layout_eqt) := ⟨rfl, rfl, rfl, by decide +kernel, rfl, by decide +kernel, by decide +kernel⟩

theorem ok_Layout_eqt (F : FunD K "__eq__" "Layout.__eq__" (defArgs s_Layout_eqt) (defBody s_Layout_eqt) (defScope s_Layout_eqt) [] [] f fd) (G : H3 P w K mg base) : FnOk P w K mg base CX0 3 f fd ["self", "other"] (spEqTh K 10) := by
  refine F.ok (CX := CX0) sc_Layout_eqt (fun vs H Q E h => ?_) (fun cdv A outer s H vs Q E hr h => ?_)
  · obtain ⟨_, _, _, rfl, _⟩ := h
    rfl
  · obtain ⟨fdf, Ff, Bf⟩ := G.qFixed.ok
    refine ⟨_, PSs.nox (pss_one (ps_ret (pe_and (pe_cmpR op_isA (pe_callTy call_tyA (by rfl) G.type (by decide +kernel) (pa_cons (pv 0) pa_nil)) (pe_callTy call_tyA (by rfl) G.type (by decide +kernel) (pa_cons (pv 1) pa_nil)) (nomark _)) (pe_and (pe_cmpR (op_eqTB (monFx K) (eqFx Ff Bf G.dFixed.eq pass0) hr) (pe_fld (pv 0) rfl) (pe_fld (pv 1) rfl) (nomark _)) (pe_one (pe_cmpR (op_eqD hr.units) (pe_fld (pv 0) rfl) (pe_fld (pv 1) rfl) (nomark _))))))), ?_⟩
    obtain ⟨a, y, x, rfl, hx, ox, hi, h⟩ := h
    obtain ⟨da, fa_, ea⟩ := hx.ins
    rw [hi] at ea
    rcases h with ⟨c, z, rfl, hz, oz, q⟩ | ⟨c, xs, rfl, hb, q⟩ | ⟨n, rfl, q⟩
    · by_cases hc : z.ci = 10
      · match x, z, hi, hc, hx, hz, ox, oz, q with
        | .lay ws js, .lay ws' js', _, _, hx, hz, ox, oz, q =>
        obtain ⟨dx, t, u, as, ha, ht, hu, la, hs⟩ := hx
        obtain ⟨dz, t', u', as', hb, ht', hu', lb, hs'⟩ := hz
        refine ⟨_, rfl, _, rfl, .inl ⟨a, _, _, _, rfl, ha, _, rfl, _, rfl, .inl ⟨c, _, _, _, rfl, hb, _, rfl, .inl ⟨_, rfl, .inl rfl, _, rfl, ?_⟩⟩⟩⟩
        refine ite2 (fun _ => ?_) (fun h => absurd (decide_eq_true rfl) h)
        refine ⟨_, rfl, a, _, _, _, _, rfl, ha, G.cLayout.cl, G.cLayout.no _ (by decide +kernel), lLayout_fields, _, rfl, c, _, _, _, _, rfl, hb, G.cLayout.cl, G.cLayout.no _ (by decide +kernel), lLayout_fields, t, t', _, _, (fun i => decide (V.int (ws.getD i 0) = V.int (ws'.getD i 0))), rfl, rfl, SqT.of ht, SqT.of ht', (fun i x y hx hy => ?_), fun H0 S0 => ?_⟩
        · obtain ⟨b, eb, rfl⟩ := ref_at hx
          obtain ⟨b', eb', rfl⟩ := ref_at hy
          have i1 : i < ws.length := by rw [← la]; exact (List.getElem?_eq_some_iff.mp eb).1
          have i2 : i < ws'.length := by rw [← lb]; exact (List.getElem?_eq_some_iff.mp eb').1
          have x1 := hs i b ws[i] eb (List.getElem?_eq_getElem i1)
          have x2 := hs' i b' ws'[i] eb' (List.getElem?_eq_getElem i2)
          have g1 : ws.getD i 0 = ws[i] := getD_of (List.getElem?_eq_getElem i1)
          have g2 : ws'.getD i 0 = ws'[i] := getD_of (List.getElem?_eq_getElem i2)
          show DFx K _ _ (decide (V.int (ws.getD i 0) = V.int (ws'.getD i 0))) H
          rw [g1, g2]
          exact fx_dfx x1 x2
        · refine ⟨_, rfl, ?_⟩
          rw [List.length_map, List.length_map, la, lb]
          have q' : ∀ H', Same H0 H' → Q (.bl (eqWs ws ws' && PyData.eqv (strsD js) (strsD js'))) H' := fun H' S => q H' (S0.trans S)
          refine ite_and (H := H0) (Q := Q) q' fun q => ?_
          exact ⟨_, rfl, a, _, _, _, _, rfl, S0 _ _ ha, G.cLayout.cl, G.cLayout.no _ (by decide +kernel), lLayout_joints, _, rfl, c, _, _, _, _, rfl, S0 _ _ hb, G.cLayout.cl, G.cLayout.no _ (by decide +kernel), lLayout_joints, _, _, dp_strT (SqT.of (S0 _ _ hu)), dp_strT (SqT.of (S0 _ _ hu')), ox, oz, q H0 (Same.refl _)⟩
      · obtain ⟨dz, fz, ez⟩ := hz.ins
        refine ⟨_, rfl, _, rfl, .inl ⟨a, _, _, _, rfl, ea, _, rfl, _, rfl, .inl ⟨c, _, _, _, rfl, ez, _, rfl, .inl ⟨_, rfl, .inr ⟨(G.mks 10 (by decide)).makes, (G.mks z.ci z.ci_lt).makes⟩, _, rfl, ?_⟩⟩⟩⟩
        rw [decide_eq_false (fun e => hc ((G.ne 10 z.ci (by decide) z.ci_lt).mp e).symm)]
        have e := eqT_ci (x := x) (z := z) (by rw [hi]; exact fun e => hc e.symm)
        rw [e] at q
        exact iteF (q H (Same.refl _))
    · exact ⟨_, rfl, _, rfl, .inl ⟨a, _, _, _, rfl, ea, _, rfl, _, rfl, .inr ⟨_, .tup hb, _, rfl, .inr ⟨_, rfl, _, rfl, iteF q⟩⟩⟩⟩
    · exact ⟨_, rfl, _, rfl, .inl ⟨a, _, _, _, rfl, ea, _, rfl, _, rfl, .inr ⟨_, .int n, _, rfl, .inr ⟨_, rfl, _, rfl, iteF q⟩⟩⟩⟩

end
end L2.K07

set_option Elab.async false
set_option linter.all false
set_option maxRecDepth 100000
set_option maxHeartbeats 4000000
/-! Layouts are made. -/
namespace L2.K07
open PySem PySem.W PySem.Spec PySem.Calls PyProof.Rows L2.Jk
def JN : List Str := ["", "!", "~"]
/-- fields, by their classes -/
def FsK (K : Frag) (H : Hp) (ys : List V) : Prop := ∀ y ∈ ys, ∃ b j dx fs, y = .ref b ∧ j < 6 ∧ H b = some (.ins (ca K j) dx fs)
theorem FsK.kp {K : Frag} {H H' : Hp} {ys : List V} (k : Kp H H') (h : FsK K H ys) : FsK K H' ys := fun y hy => by
  obtain ⟨b, j, dx, fs, e, hj, z⟩ := h y hy
  exact ⟨b, j, dx, fs, e, hj, k _ _ trivial z⟩
theorem call_ieTK {X : Cx} {K : Frag} (h : X.K = K) : CallR X (.builtin "isinstance") (rIeT K) := by
  subst h
  exact call_ieT
theorem IsQ.sq {K : Frag} {H : Hp} {p : Addr} {xs : List V} (h : IsQ H p xs) : SqL K H p xs ∨ SqT K H p xs := h.elim (fun h => .inl (SqL.of h)) (fun h => .inr (SqT.of h))
theorem tup_of {K : Frag} {H : Hp} {p L C dx : Addr} {fs : List (Str × V)} {ys : List V} {Q : VK} (h : IsQ H p ys) (hL : H L = some (.ins C dx fs)) (k : ∀ t H', Same H H' → t ≠ L → H' t = some (.tup ys) → Q (.ref t) H') :
    ∃ p' ys', [V.ref p] = [.ref p'] ∧ ((SqL K H p' ys' ∧ ∀ l, H l = none → Q (.ref l) (upd H l (.tup ys'))) ∨ (SqT K H p' ys' ∧ Q (.ref p') H)) := by
  rcases h with h | h
  · exact ⟨p, ys, rfl, .inl ⟨SqL.of h, fun l hl => k l _ (same_upd hl) (fun e => by rw [e, hL] at hl; cases hl) upd_same⟩⟩
  · exact ⟨p, ys, rfl, .inr ⟨SqT.of h, k p H (Same.refl _) (fun e => by rw [e, hL] at h; cases h) h⟩⟩
def rTupA : List V → Hp → VK → Prop := fun xs H Q => ∃ (p L C dx : Addr) (fs : List (Str × V)) (ys : List V), xs = [.ref p] ∧ IsQ H p ys ∧ H L = some (.ins C dx fs) ∧ ∀ t H', Same H H' → t ≠ L → H' t = some (.tup ys) → Q (.ref t) H'
theorem call_tupleA {X : Cx} : CallR X (.type "tuple") rTupA := by
  intro pins s σ H xs us Q I r h
  obtain ⟨p, L, C, dx, fs, ys, rfl, hq, hL, k⟩ := h
  exact call_tuple_of pins s σ H _ us Q I r (tup_of hq hL k)
def spCkF (K : Frag) : Sp := fun vs H Q _ => ∃ (p : Addr) (ys : List V), vs = [.ref p] ∧ IsQ H p ys ∧ FsK K H ys ∧ ys.length ≤ 1000 ∧ ys ≠ [] ∧ ∀ H', Same H H' → Q .non H'
def spJn : Sp := fun vs H Q _ => ∃ j : Str, vs = [.str j] ∧ j ∈ JN ∧ ∀ H', Same H H' → Q (.bl true) H'
/-- a layout of these fields -/
def LyAt (K : Frag) (H : Hp) (L : Addr) (ys : List V) (js : List Str) : Prop := ∃ dx t u, H L = some (.ins (CA K "Layout") dx (fLayout (.ref t) (.ref u))) ∧ H t = some (.tup ys) ∧ H u = some (.tup (js.map V.str))
theorem LyAt.kp {K : Frag} {H H' : Hp} {p : Addr} {xs : List V} {js : List Str} (k : Kp H H') : LyAt K H p xs js → LyAt K H' p xs js
  | ⟨dx, t, u, a, b, c⟩ => ⟨dx, t, u, k _ _ trivial a, k _ _ trivial b, k _ _ trivial c⟩
def spLay (K : Frag) : Sp := fun vs H Q _ => ∃ (L dx p p2 : Addr) (ys : List V) (js : List Str), vs = [.ref L, .ref p, .ref p2] ∧ H L = some (.ins (CA K "Layout") dx []) ∧ IsQ H p ys ∧ FsK K H ys ∧ IsQ H p2 (js.map V.str) ∧ ys.length ≤ 1000 ∧ js.length + 1 = ys.length ∧ (∀ j ∈ js, j ∈ JN) ∧
  ∀ H', But L H H' → LyAt K H' L ys js → Q .non H'
structure H5 (P : Program) (w : World) (K : Frag) (mg : Str → Option Value) (base : Heap) : Prop extends H1 P w K mg base where
  check_fields : FnAt P w K mg base CX0 2 "check_fields" ["fields"] (spCkF K)
  is_joint : FnAt P w K mg base CX0 1 "is_joint" ["thing"] spJn
section
variable {P : Program} {w : World} {K : Frag} {mg : Str → Option Value} {base : Heap} {f : Addr} {fd : FuncData}
theorem kit6 (G : G4 P w K mg base) : ∀ i, i < 6 → kitAny K (.ref (ca K i)) [.ref (ca K 0), .ref (ca K 1), .ref (ca K 2), .ref (ca K 3), .ref (ca K 4), .ref (ca K 5)] = some true
  | 0, h => by
    have k := fun j (hj : j < 6) => G.kit 0 j h hj
    exact kitAny_cons (b := true) (k 0 (by decide)) (fun z => nomatch z) (fun _ => rfl)
  | 1, h => by
    have k := fun j (hj : j < 6) => G.kit 1 j h hj
    exact kitAny_cons (b := false) (k 0 (by decide)) (fun _ => kitAny_cons (b := true) (k 1 (by decide)) (fun z => nomatch z) (fun _ => rfl)) (fun z => nomatch z)
  | 2, h => by
    have k := fun j (hj : j < 6) => G.kit 2 j h hj
    exact kitAny_cons (b := false) (k 0 (by decide)) (fun _ => kitAny_cons (b := false) (k 1 (by decide)) (fun _ => kitAny_cons (b := true) (k 2 (by decide)) (fun z => nomatch z) (fun _ => rfl)) (fun z => nomatch z)) (fun z => nomatch z)
  | 3, h => by
    have k := fun j (hj : j < 6) => G.kit 3 j h hj
    exact kitAny_cons (b := false) (k 0 (by decide)) (fun _ => kitAny_cons (b := false) (k 1 (by decide)) (fun _ => kitAny_cons (b := false) (k 2 (by decide)) (fun _ => kitAny_cons (b := true) (k 3 (by decide)) (fun z => nomatch z) (fun _ => rfl)) (fun z => nomatch z)) (fun z => nomatch z)) (fun z => nomatch z)
  | 4, h => by
    have k := fun j (hj : j < 6) => G.kit 4 j h hj
    exact kitAny_cons (b := false) (k 0 (by decide)) (fun _ => kitAny_cons (b := false) (k 1 (by decide)) (fun _ => kitAny_cons (b := false) (k 2 (by decide)) (fun _ => kitAny_cons (b := false) (k 3 (by decide)) (fun _ => kitAny_cons (b := true) (k 4 (by decide)) (fun z => nomatch z) (fun _ => rfl)) (fun z => nomatch z)) (fun z => nomatch z)) (fun z => nomatch z)) (fun z => nomatch z)
  | 5, h => by
    have k := fun j (hj : j < 6) => G.kit 5 j h hj
    exact kitAny_cons (b := false) (k 0 (by decide)) (fun _ => kitAny_cons (b := false) (k 1 (by decide)) (fun _ => kitAny_cons (b := false) (k 2 (by decide)) (fun _ => kitAny_cons (b := false) (k 3 (by decide)) (fun _ => kitAny_cons (b := false) (k 4 (by decide)) (fun _ => kitAny_cons (b := true) (k 5 (by decide)) (fun z => nomatch z) (fun _ => rfl)) (fun z => nomatch z)) (fun z => nomatch z)) (fun z => nomatch z)) (fun z => nomatch z)) (fun z => nomatch z)
  | n + 6, h => absurd h (by omega)

abbrev s_check_fields : Stmt := top 28
theorem sc_check_fields : FnScope ["fields", "field"] ["fields"] (defScope s_check_fields) := ⟨rfl, rfl, rfl, by decide +kernel, rfl, by decide +kernel, by decide +kernel⟩

theorem ok_check_fields (F : FunD K "check_fields" "check_fields" (defArgs s_check_fields) (defBody s_check_fields) (defScope s_check_fields) [] [] f fd) (G : H1 P w K mg base) : FnOk P w K mg base CX0 2 f fd ["fields"] (spCkF K) := by
  refine F.ok (CX := CX0) sc_check_fields (fun vs H Q E h => ?_) (fun cdv A outer s H vs Q E hr h => ?_)
  · obtain ⟨p, ys, rfl, _⟩ := h
    rfl
  · refine ⟨_, PSs.nox (pss_cons (ps_if (PW.pt (pw_or (pt_not (pt_val (pe_fn G.is_sequence (hr.mono (by decide)) pass0 (by rfl) (pa_cons (pv 0) pa_nil)))) (pw_or1 (pt_cmpR op_eq (pe_callB call_len_seq (by rfl) G.len (by decide +kernel) (pa_cons (pv 0) pa_nil)) pe_int (nomark _)))))
      (pss_one ps_never)
      pss_nil)
    (pss_one (ps_if (pt_not (pt_val (pe_callB (cr_all rfl) (by rfl) G.all (by decide +kernel) (pa_cons (pe_lc (own := [("field", 1)]) (g := gName 1) (tt := tYes) rfl sc_check_fields.nd (pi_or (pi_list (pv 0)) (pi_tup (pv 0))) (blkOk_by (N := ["fields", "field"]) (sc := defScope s_check_fields) (by decide +kernel)) (fun _ _ _ _ _ => pg_name (i := 1) sc_check_fields.nd rfl (Or.inl rfl)) (fun _ _ _ _ _ => pts_nil) (fun _ _ _ _ _ => (pe_callB (call_ieTK (K := K) rfl) (by rfl) G.isinstance (by decide +kernel) (pa_cons (pv 1) (pa_cons (pe_tupS (pa_cons (pe_gref (by rfl) G.cWord.mgC) (pa_cons (pe_gref (by rfl) G.cNumber.mgC) (pa_cons (pe_gref (by rfl) G.cFixed.mgC) (pa_cons (pe_gref (by rfl) G.cListed.mgC) (pa_cons (pe_gref (by rfl) G.cEnded.mgC) (pa_cons (pe_gref (by rfl) G.cMarked.mgC) pa_nil))))))) pa_nil))))) pa_nil))))
      (pss_one ps_never)
      pss_nil))), ?_⟩
    obtain ⟨p, ys, rfl, hp, hF, hz, hne, q⟩ := h
    refine ⟨_, rfl, .ref p, rfl, .inr ⟨p, ys, rfl, hp, fun H0 S0 => ?_⟩⟩
    have hp0 := hp.same S0
    refine ⟨_, rfl, iteF ?_⟩
    refine ⟨_, rfl, p, ys, rfl, hp0.sq, rfl, _, rfl, ?_⟩
    rw [decide_eq_false (show ¬ V.int (ys.length : Nat) = V.int 0 from fun z => hne (List.length_eq_zero_iff.mp (by injection z with z; omega)))]
    refine iteF ?_
    have turn : ∀ (D : Addr) (i : Nat) (v : V) (J : Hp), ys[i]? = some v → LcP H0 D (fun n => (ys.take n).map fun _ => V.bl true) i J → ∀ p1 H1, J p1 = none → Same J H1 → H1 p1 = some (.tup [.ref (ca K 0), .ref (ca K 1), .ref (ca K 2), .ref (ca K 3), .ref (ca K 4), .ref (ca K 5)]) → rIeT K [v, .ref p1] H1 (fun y H4 => ∃ acc, H4 D = some (.lst acc) ∧ acc.length < sizeLine ∧ LcP H0 D (fun n => (ys.take n).map fun _ => V.bl true) (i + 1) (upd H4 D (.lst (acc ++ [y])))) := fun D i v J hv pJ p1 H1 hp1 S1 e1 => by
      have hlt := (List.getElem?_eq_some_iff.mp hv).1
      obtain ⟨b, j, dx, fs, rfl, hj, e⟩ := (hF.kp (Kp.of (S0.trans pJ.1))) v (List.mem_of_getElem? hv)
      exact ⟨_, p1, _, _, _, true, rfl, e1, .cons (.own _) (.cons (.own _) (.cons (.own _) (.cons (.own _) (.cons (.own _) (.cons (.own _) Paired.nil))))), G.ty hj (S1 _ _ e), kit6 G.toG4 _ hj, pJ.put S1 (take_succ_map _ hv) (by omega)⟩
    have last : ∀ (D : Addr) (J : Hp), LcP H0 D (fun n => (ys.take n).map fun _ => V.bl true) ys.length J → ∃ bs : List Bool, J D = some (.lst (bs.map V.bl)) ∧ bs.all id = true ∧ Same H0 J := fun D J pJ => by
      obtain ⟨S1, _, eJ, _⟩ := pJ
      have eJ2 : J D = some (.lst ((ys.map fun _ => true).map V.bl)) := by rw [eJ]; show some (HO.lst ((ys.take ys.length).map fun _ => V.bl true)) = _; rw [List.take_length, List.map_map]; rfl
      exact ⟨_, eJ2, by rw [List.all_map]; exact List.all_eq_true.mpr fun _ _ => rfl, S1⟩
    have fin : ∀ (D : Addr) (J : Hp), LcP H0 D (fun n => (ys.take n).map fun _ => V.bl true) ys.length J → ∃ (a : Addr) (bs : List Bool), [V.ref D] = [.ref a] ∧ SqL K J a (bs.map V.bl) ∧ bs.all id = true ∧ Same H0 J := fun D J pJ => by
      obtain ⟨bs, e, h, S⟩ := last D J pJ
      exact ⟨D, bs, rfl, SqL.of e, h, S⟩
    rcases hp0 with hp0 | hp0
    · refine .inl ⟨_, rfl, p, rfl, ⟨_, SqL.of hp0⟩, fun D hD => ?_⟩
      refine lc_list (K := K) (a := p) (xs := ys) (LcP H0 D fun n => (ys.take n).map fun _ => V.bl true) (LcP.start hD rfl) (fun i J hi pJ => SqL.of (pJ.1 _ _ hp0)) (fun i v J hv pJ => ⟨rfl, _, rfl, by show 6 ≤ 1000; decide, fun p1 H1 hp1 S1 e1 => turn D i v J hv pJ p1 H1 hp1 S1 e1⟩) ?_
      intro J pJ
      obtain ⟨a, bs, e, hs, ha, S1⟩ := fin D J pJ
      refine ⟨a, bs, e, hs, _, rfl, ?_⟩
      rw [ha]
      exact iteF (q _ (S0.trans S1))
    · refine .inr ⟨_, rfl, p, rfl, ⟨_, SqT.of hp0⟩, fun D hD => ?_⟩
      refine lc_tup (K := K) (a := p) (xs := ys) (LcP H0 D fun n => (ys.take n).map fun _ => V.bl true) (LcP.start hD rfl) (fun i J hi pJ => SqT.of (pJ.1 _ _ hp0)) (fun i v J hv pJ => ⟨rfl, _, rfl, by show 6 ≤ 1000; decide, fun p1 H1 hp1 S1 e1 => turn D i v J hv pJ p1 H1 hp1 S1 e1⟩) ?_
      intro J pJ
      obtain ⟨a, bs, e, hs, ha, S1⟩ := fin D J pJ
      refine ⟨a, bs, e, hs, _, rfl, ?_⟩
      rw [ha]
      exact iteF (q _ (S0.trans S1))

abbrev s_is_joint : Stmt := top 29
theorem sc_is_joint : FnScope ["thing"] ["thing"] (defScope s_is_joint) := ⟨rfl, rfl, rfl, by decide +kernel, rfl, by decide +kernel, by decide +kernel⟩

theorem ok_is_joint (F : FunD K "is_joint" "is_joint" (defArgs s_is_joint) (defBody s_is_joint) (defScope s_is_joint) [] [] f fd) (G : H1 P w K mg base) : FnOk P w K mg base CX0 1 f fd ["thing"] spJn := by
  refine F.ok (CX := CX0) sc_is_joint (fun vs H Q E h => ?_) (fun cdv A outer s H vs Q E hr h => ?_)
  · obtain ⟨j, rfl, _⟩ := h
    rfl
  · refine ⟨_, PSs.nox (pss_one (ps_ret (pe_and (pe_callB call_ie (by rfl) G.isinstance (by decide +kernel) (pa_cons (pv 0) (pa_cons (pe_bty (n := "str") (by rfl) G.str (by decide +kernel)) pa_nil))) (pe_one (pe_cmpR op_in_seq (pv 0) (pe_tupS (pa_cons pe_str (pa_cons (pe_sg G.low) (pa_cons (pe_sg G.high) pa_nil)))) (by rfl)))))), ?_⟩
    obtain ⟨j, rfl, hj, q⟩ := h
    refine ⟨_, rfl, _, _, _, _, _, rfl, .ty _, flat_ty (v := .str j) rfl, kit_ty (kit_str (v := .str j) rfl), _, rfl, ?_⟩
    refine iteT ⟨_, rfl, by show 3 ≤ 1000; decide, fun p H1 hp S1 e1 => ⟨p, _, rfl, .inr (SqT.of e1), rfl, rfl, ?_⟩⟩
    have e : inV (.str j) [V.str "", V.str "!", V.str "~"] = true := by
      rcases List.mem_cons.mp hj with rfl | h
      · decide +kernel
      rcases List.mem_cons.mp h with rfl | h
      · decide +kernel
      rcases List.mem_cons.mp h with rfl | h
      · decide +kernel
      cases h
    rw [e]
    exact q _ S1

abbrev s_Layout_init : Stmt := inClass (top 30) 0
theorem sc_Layout_init : FnScope ["self", "fields", "joints", "joint"] ["self", "fields", "joints"] (defScope s_Layout_init) := ⟨rfl, rfl, rfl, by decide +kernel, rfl, by decide +kernel, by decide +kernel⟩

theorem ok_Layout_init (F : FunD K "__init__" "Layout.__init__" (defArgs s_Layout_init) (defBody s_Layout_init) (defScope s_Layout_init) [] [] f fd) (G : H5 P w K mg base) : FnOk P w K mg base CX0 3 f fd ["self", "fields", "joints"] (spLay K) := by
  refine F.ok (CX := CX0) sc_Layout_init (fun vs H Q E h => ?_) (fun cdv A outer s H vs Q E hr h => ?_)
  · obtain ⟨_, _, _, _, _, _, rfl, _⟩ := h
    rfl
  · refine ⟨_, PSs.nox (pss_cons (ps_expr (pe_fn G.check_fields (hr.mono (by decide)) pass0 (by rfl) (pa_cons (pv 1) pa_nil)))
    (pss_cons (ps_if (PW.pt (pw_or (pt_not (pt_val (pe_fn G.is_sequence (hr.mono (by decide)) pass0 (by rfl) (pa_cons (pv 2) pa_nil)))) (pw_or1 (pt_cmpR op_ne (pe_callB call_len_seq (by rfl) G.len (by decide +kernel) (pa_cons (pv 2) pa_nil)) (pe_op op_sub (pe_callB call_len_seq (by rfl) G.len (by decide +kernel) (pa_cons (pv 1) pa_nil)) pe_int) (nomark _)))))
      (pss_one ps_never)
      pss_nil)
    (pss_cons (ps_if (pt_not (pt_val (pe_callB (cr_all rfl) (by rfl) G.all (by decide +kernel) (pa_cons (pe_lc (own := [("joint", 3)]) (g := gName 3) (tt := tYes) rfl sc_Layout_init.nd (pi_or (pi_list (pv 2)) (pi_tup (pv 2))) (blkOk_by (N := ["self", "fields", "joints", "joint"]) (sc := defScope s_Layout_init) (by decide +kernel)) (fun _ _ _ _ _ => pg_name (i := 3) sc_Layout_init.nd rfl (Or.inl rfl)) (fun _ _ _ _ _ => pts_nil) (fun _ _ _ _ _ => (pe_fn G.is_joint (hr.mono (by decide)) pass0 (by rfl) (pa_cons (pv 3) pa_nil)))) pa_nil))))
      (pss_one ps_never)
      pss_nil)
    (pss_cons (ps_fld (pv 0) (pe_callTy call_tupleA (by rfl) G.tuple (by decide +kernel) (pa_cons (pv 1) pa_nil)) rfl)
    (pss_one (ps_fld (pv 0) (pe_callTy call_tupleA (by rfl) G.tuple (by decide +kernel) (pa_cons (pv 2) pa_nil)) rfl)))))), ?_⟩
    obtain ⟨L, dx, p, p2, ys, js, rfl, hL, hp, hF, hp2, lz, lj, hj, q⟩ := h
    refine ⟨_, rfl, p, ys, rfl, hp, hF, lz, (fun z => by rw [z] at lj; cases lj), fun H0 S0 => ?_⟩
    refine ⟨_, rfl, .ref p2, rfl, .inr ⟨p2, _, rfl, hp2.same S0, fun H1 S1 => ⟨_, rfl, iteF ?_⟩⟩⟩
    have T1 : Same H H1 := S0.trans S1
    refine ⟨_, rfl, p2, _, rfl, (hp2.same T1).sq, _, rfl, p, _, rfl, (hp.same T1).sq, _, _, rfl, rfl, rfl, _, rfl, ?_⟩
    refine ite2 (fun h => absurd h ?_) (fun _ => ?_)
    · rw [show decide (V.int (((js.map V.str).length : Nat) : Int) = V.int ((ys.length : Int) - 1)) = true from decide_eq_true (congrArg V.int (by rw [List.length_map]; omega))]
      decide
    have turn : ∀ (D : Addr) (i : Nat) (v : V) (J : Hp), (js.map V.str)[i]? = some v → LcP H1 D (fun n => (js.take n).map fun _ => V.bl true) i J → spJn [v] J (fun y H4 => ∃ acc, H4 D = some (.lst acc) ∧ acc.length < sizeLine ∧ LcP H1 D (fun n => (js.take n).map fun _ => V.bl true) (i + 1) (upd H4 D (.lst (acc ++ [y])))) (fun _ _ _ => False) := fun D i v J hv pJ => by
      rw [List.getElem?_map] at hv
      obtain ⟨j, ej, rfl⟩ := Option.map_eq_some_iff.mp hv
      have hlt := (List.getElem?_eq_some_iff.mp ej).1
      exact ⟨j, rfl, hj j (List.mem_of_getElem? ej), fun H2 S2 => pJ.put S2 (take_succ_map _ ej) (by omega)⟩
    have fin : ∀ (D : Addr) (J : Hp), LcP H1 D (fun n => (js.take n).map fun _ => V.bl true) (js.map V.str).length J → ∃ bs : List Bool, J D = some (.lst (bs.map V.bl)) ∧ bs.all id = true ∧ Same H1 J := fun D J pJ => by
      obtain ⟨S2, _, eJ, _⟩ := pJ
      have eJ2 : J D = some (.lst ((js.map fun _ => true).map V.bl)) := by rw [eJ]; show some (HO.lst ((js.take (js.map V.str).length).map fun _ => V.bl true)) = _; rw [List.length_map, List.take_length, List.map_map]; rfl
      exact ⟨_, eJ2, by rw [List.all_map]; exact List.all_eq_true.mpr fun _ _ => rfl, S2⟩
    rcases (hp2.same T1) with h2 | h2
    · refine .inl ⟨_, rfl, p2, rfl, ⟨_, SqL.of h2⟩, fun D hD => ?_⟩
      refine lc_list (K := K) (a := p2) (xs := js.map V.str) (LcP H1 D fun n => (js.take n).map fun _ => V.bl true) (LcP.start hD rfl) (fun i J hi pJ => SqL.of (pJ.1 _ _ h2)) (fun i v J hv pJ => ⟨rfl, _, rfl, turn D i v J hv pJ⟩) (fun J pJ => ?_)
      obtain ⟨bs, e, hb, S2⟩ := fin D J pJ
      refine ⟨D, bs, rfl, SqL.of e, _, rfl, ?_⟩
      rw [hb]
      refine iteF ⟨_, rfl, p, L, _, _, _, ys, rfl, hp.same (T1.trans S2), (T1.trans S2) _ _ hL, fun t1 H3 S3 n1 tz1 => ?_⟩
      have T3 := (T1.trans S2).trans S3
      refine ⟨_, rfl, L, _, dx, _, rfl, T3 _ _ hL, G.cLayout.cl, G.cLayout.no _ (by decide +kernel), (by show 0 < 1000; decide), ?_⟩
      obtain ⟨H4, e4⟩ : ∃ H4, upd H3 L (.ins (CA K "Layout") dx (putF "fields" (.ref t1) [])) = H4 := ⟨_, rfl⟩
      have hL4 : H4 L = some (.ins (CA K "Layout") dx (putF "fields" (.ref t1) [])) := by rw [← e4]; exact upd_same
      have hq4 : IsQ H4 p2 (js.map V.str) := by rw [← e4]; exact (hp2.same T3).put (T3 _ _ hL)
      have ht4 : H4 t1 = some (.tup ys) := by rw [← e4, upd_ne n1]; exact tz1
      have b4 : But L H H4 := by rw [← e4]; exact but_new hL T3
      show _
      rw [e4]
      refine ⟨_, rfl, p2, L, _, _, _, _, rfl, hq4, hL4, fun t2 H5 S5 n2 tz2 => ?_⟩
      refine ⟨_, rfl, L, _, dx, _, rfl, S5 _ _ hL4, G.cLayout.cl, G.cLayout.no _ (by decide +kernel), (by show 1 < 1000; decide), ?_⟩
      exact q _ (b4.trans (but_new hL4 S5)) ⟨dx, t1, t2, upd_same, by rw [upd_ne n1]; exact S5 _ _ ht4, by rw [upd_ne n2]; exact tz2⟩
    · refine .inr ⟨_, rfl, p2, rfl, ⟨_, SqT.of h2⟩, fun D hD => ?_⟩
      refine lc_tup (K := K) (a := p2) (xs := js.map V.str) (LcP H1 D fun n => (js.take n).map fun _ => V.bl true) (LcP.start hD rfl) (fun i J hi pJ => SqT.of (pJ.1 _ _ h2)) (fun i v J hv pJ => ⟨rfl, _, rfl, turn D i v J hv pJ⟩) (fun J pJ => ?_)
      obtain ⟨bs, e, hb, S2⟩ := fin D J pJ
      refine ⟨D, bs, rfl, SqL.of e, _, rfl, ?_⟩
      rw [hb]
      refine iteF ⟨_, rfl, p, L, _, _, _, ys, rfl, hp.same (T1.trans S2), (T1.trans S2) _ _ hL, fun t1 H3 S3 n1 tz1 => ?_⟩
      have T3 := (T1.trans S2).trans S3
      refine ⟨_, rfl, L, _, dx, _, rfl, T3 _ _ hL, G.cLayout.cl, G.cLayout.no _ (by decide +kernel), (by show 0 < 1000; decide), ?_⟩
      obtain ⟨H4, e4⟩ : ∃ H4, upd H3 L (.ins (CA K "Layout") dx (putF "fields" (.ref t1) [])) = H4 := ⟨_, rfl⟩
      have hL4 : H4 L = some (.ins (CA K "Layout") dx (putF "fields" (.ref t1) [])) := by rw [← e4]; exact upd_same
      have hq4 : IsQ H4 p2 (js.map V.str) := by rw [← e4]; exact (hp2.same T3).put (T3 _ _ hL)
      have ht4 : H4 t1 = some (.tup ys) := by rw [← e4, upd_ne n1]; exact tz1
      have b4 : But L H H4 := by rw [← e4]; exact but_new hL T3
      show _
      rw [e4]
      refine ⟨_, rfl, p2, L, _, _, _, _, rfl, hq4, hL4, fun t2 H5 S5 n2 tz2 => ?_⟩
      refine ⟨_, rfl, L, _, dx, _, rfl, S5 _ _ hL4, G.cLayout.cl, G.cLayout.no _ (by decide +kernel), (by show 1 < 1000; decide), ?_⟩
      exact q _ (b4.trans (but_new hL4 S5)) ⟨dx, t1, t2, upd_same, by rw [upd_ne n1]; exact S5 _ _ ht4, by rw [upd_ne n2]; exact tz2⟩

end
end L2.K07

set_option Elab.async false
set_option linter.all false
set_option maxRecDepth 100000
set_option maxHeartbeats 4000000
/-! The law: its numbers, its things. -/
namespace L2.K07
open PySem PySem.W PySem.Spec PySem.Calls PyProof.Rows L2.Jk
def StD (H : Hp) (a : Addr) : Prop := ∃ p q r : Int, H a = some (.lst [.int p, .int q, .int r]) ∧ 0 ≤ p ∧ 0 ≤ q ∧ q < 2147483700 ∧ 0 ≤ r ∧ r < 2147483700
def spState : Sp := fun vs H Q _ => ∃ n : Int, vs = [.int n] ∧ ∀ a H', H a = none → Same H H' → StD H' a → Q (.ref a) H'
def spDigit : Sp := fun vs H Q _ => ∃ (a : Addr) (b : Int), vs = [.ref a, .int b] ∧ StD H a ∧ 0 < b ∧ b < 1073741824 ∧ ∀ d H', 0 ≤ d → d < b → But a H H' → StD H' a → Q (.int d) H'
theorem state_line (n : Int) : 0 ≤ (if n < 0 then -n else n) * (if decide (10 ^ (18 : Int).toNat ≤ (if n < 0 then -n else n)) = true then 1 else 0) := by
  by_cases h : n < 0
  · simp only [if_pos h]
    split <;> omega
  · simp only [if_neg h]
    split <;> omega
theorem same_made {H H2 : Hp} {a dx C : Addr} (ha : H a = none) (hd : H dx = none) (B : But a (upd (upd H dx (.own a)) a (.ins C dx [])) H2) : Same H H2 := fun c o e => B c o (ne_of_none e ha) (by
  rw [upd_ne (ne_of_none e ha), upd_ne (ne_of_none e hd)]
  exact e)
theorem but_put {a p : Addr} {H H1 : Hp} {o : HO} (B : But a H H1) (h : H p = none) : But a H (upd H1 p o) := fun c u n e => by
  rw [upd_ne (ne_of_none e h)]
  exact B c u n e
theorem useP {K : Frag} {H : Hp} {a dx p q : Addr} {xs ys : List V} {R : Hp → Prop} {E : XK} (ha : H a = none) (hd : H dx = none) (hp : IsQ H p xs) (hq : IsQ H q ys) (ok : PkOk xs ys) (k : ∀ H', Same H H' → PAt K H' a xs ys → R H') :
    spPair K [.ref a, .ref p, .ref q] (upd (upd H dx (.own a)) a (.ins (CA K "Pair") dx [])) (fun v H2 => v = .non ∧ R H2) E :=
  ⟨a, dx, p, q, xs, ys, rfl, upd_same, hp.same (same_new ha hd), hq.same (same_new ha hd), ok, fun H' B h => ⟨rfl, k H' (same_made ha hd B) h⟩⟩
theorem useW {K : Frag} {H : Hp} {a dx p : Addr} {b : Bool} {js : List Int} {R : Hp → Prop} {E : XK} (ha : H a = none) (hd : H dx = none) (hp : IsQ H p (js.map V.int)) (l : js.length ≤ 1000) (k : ∀ H', Same H H' → WAt K H' a b js → R H') :
    spWish K [.ref a, .bl b, .ref p] (upd (upd H dx (.own a)) a (.ins (CA K "Wish") dx [])) (fun v H2 => v = .non ∧ R H2) E :=
  ⟨a, dx, p, b, js, rfl, upd_same, hp.same (same_new ha hd), l, fun H' B h => ⟨rfl, k H' (same_made ha hd B) h⟩⟩
theorem useS {K : Frag} {H : Hp} {a dx c : Addr} {k : Str} {l h : Int} {xs ys : List V} {R : Hp → Prop} {E : XK} (ha : H a = none) (hd : H dx = none) (hc : PAt K H c xs ys) (q : ∀ H', Same H H' → SAt K H' a k l h c → R H') :
    spStretch K [.ref a, .str k, .int l, .int h, .ref c] (upd (upd H dx (.own a)) a (.ins (CA K "Stretch") dx [])) (fun v H2 => v = .non ∧ R H2) E := by
  refine ⟨a, dx, c, k, l, h, xs, ys, rfl, upd_same, hc.kp (Kp.of (same_new ha hd)), fun e => ?_, fun H' B h => ⟨rfl, q H' (same_made ha hd B) h⟩⟩
  obtain ⟨_, _, _, z, _⟩ := hc
  rw [e, ha] at z
  cases z
theorem useM {K : Frag} {H : Hp} {a dx p q : Addr} {js : List Int} {ss : List Addr} {R : Hp → Prop} {E : XK} (ha : H a = none) (hd : H dx = none) (hp : IsQ H p (js.map V.int)) (hq : IsQ H q (ss.map V.ref)) (lj : js.length ≤ 1000) (ls : ss.length ≤ 1000)
    (hs : ∀ s ∈ ss, ∃ dx fs, H s = some (.ins (CA K "Stretch") dx fs)) (k : ∀ H', Same H H' → MAt K H' a js ss → R H') :
    spMend K [.ref a, .ref p, .ref q] (upd (upd H dx (.own a)) a (.ins (CA K "Mend") dx [])) (fun v H2 => v = .non ∧ R H2) E :=
  ⟨a, dx, p, q, js, ss, rfl, upd_same, hp.same (same_new ha hd), hq.same (same_new ha hd), lj, ls, fun s m => (by obtain ⟨y, fs, e⟩ := hs s m; exact ⟨y, fs, same_new ha hd _ _ e⟩), fun H' B h => ⟨rfl, k H' (same_made ha hd B) h⟩⟩

theorem made_field {H : Hp} {a dx C : Addr} {fs : List (Str × V)} (ha : H a = none) (hd : H dx = none) : Same H (upd (upd (upd H dx (.own a)) a (.ins C dx [])) a (.ins C dx fs)) := same_made ha hd (but_upd _ _ _)
theorem useWord {K : Frag} {H : Hp} {a dx : Addr} {s l m : V} {R : Hp → Prop} {E : XK} (ha : H a = none) (hd : H dx = none) (hs : s ∈ sM) (hl : l ∈ nM) (hm : m ∈ nM) (due : oDue s l m = none) (k : ∀ H', Same H H' → FieldAt K H' a (.word s l m) → R H') :
    spWord K [.ref a, s, l, m] (upd (upd H dx (.own a)) a (.ins (He.ga K "Word") dx [])) (fun v H2 => v = .non ∧ R H2) E :=
  ⟨a, dx, s, l, m, rfl, upd_same, hs, hl, hm, fun _ => ⟨rfl, k _ (made_field ha hd) ⟨dx, upd_same⟩⟩, fun z e => (by rw [due] at e; cases e)⟩
theorem useNumber {K : Frag} {H : Hp} {a dx : Addr} {l m : V} {R : Hp → Prop} {E : XK} (ha : H a = none) (hd : H dx = none) (hl : l ∈ nM) (hm : m ∈ hM) (due : bDue l m = none) (k : ∀ H', Same H H' → FieldAt K H' a (.number l m) → R H') :
    spNumber K [.ref a, l, m] (upd (upd H dx (.own a)) a (.ins (He.ga K "Number") dx [])) (fun v H2 => v = .non ∧ R H2) E :=
  ⟨a, dx, l, m, rfl, upd_same, hl, hm, fun _ => ⟨rfl, k _ (made_field ha hd) ⟨dx, upd_same⟩⟩, fun z e => (by rw [due] at e; cases e)⟩
theorem useFixed {K : Frag} {H : Hp} {a dx : Addr} {v : V} {R : Hp → Prop} {E : XK} (ha : H a = none) (hd : H dx = none) (hv : v ∈ wM) (due : wDue v = none) (k : ∀ H', Same H H' → FieldAt K H' a (.fixed v) → R H') :
    spFixed K [.ref a, v] (upd (upd H dx (.own a)) a (.ins (He.ga K "Fixed") dx [])) (fun v H2 => v = .non ∧ R H2) E :=
  ⟨a, dx, v, rfl, upd_same, hv, fun _ => ⟨rfl, k _ (made_field ha hd) ⟨dx, upd_same⟩⟩, fun z e => (by rw [due] at e; cases e)⟩
theorem useEnded {K : Frag} {H : Hp} {a dx : Addr} {s e l m : V} {R : Hp → Prop} {E : XK} (ha : H a = none) (hd : H dx = none) (hs : s ∈ sM) (he : e ∈ eM) (hl : l ∈ nM) (hm : m ∈ nM) (due : eDue s e l m = none) (k : ∀ H', Same H H' → FieldAt K H' a (.ended s e l m) → R H') :
    spEnded K [.ref a, s, e, l, m] (upd (upd H dx (.own a)) a (.ins (He.ga K "Ended") dx [])) (fun v H2 => v = .non ∧ R H2) E :=
  ⟨a, dx, s, e, l, m, rfl, upd_same, hs, he, hl, hm, fun _ => ⟨rfl, k _ (made_field ha hd) ⟨dx, upd_same⟩⟩, fun z e => (by rw [due] at e; cases e)⟩
theorem useListed {K : Frag} {H : Hp} {a dx p : Addr} {xs : List V} {R : Hp → Prop} {E : XK} (ha : H a = none) (hd : H dx = none) (hx : LX.lst xs ∈ lM) (hp : H p = some (.lst xs)) (due : lxDue (.lst xs) = none) (k : ∀ H', Same H H' → FieldAt K H' a (.listed (.lst xs)) → R H') :
    spListed K [.ref a, .ref p] (upd (upd H dx (.own a)) a (.ins (He.ga K "Listed") dx [])) (fun v H2 => v = .non ∧ R H2) E :=
  ⟨a, dx, _, .lst xs, rfl, upd_same, hx, ⟨p, rfl, same_new ha hd _ _ hp⟩, fun _ t H2 S2 ht => ⟨rfl, k _ (same_made ha hd ((But.of_same S2).trans (but_upd _ _ _))) ⟨dx, t, upd_same, (by
    obtain ⟨o, c, d, e⟩ := ht
    refine ⟨o, c, d, ?_⟩
    rw [upd_ne (fun z => ?_)]
    · exact e
    · rw [z, S2 _ _ upd_same] at e
      cases e)⟩⟩, fun z e => (by rw [due] at e; cases e)⟩
theorem useMarked {K : Frag} {H : Hp} {a dx y : Addr} {n m : V} {d : PD} {R : Hp → Prop} {E : XK} (ha : H a = none) (hd : H dx = none) (hn : n ∈ mQ) (hm : m ∈ mQ) (hy : FieldAt K H y d) (hi : d.In) (hu : d.due = none) (due : OD.due (.mk n m (.pl d)) = none)
    (k : ∀ H' dy, Same H H' → H' a = some (.ins (ca K 5) dy (fMarked n m (.ref y))) → R H') : spMarked K [.ref a, n, m, .ref y] (upd (upd H dx (.own a)) a (.ins (ca K 5) dx [])) (fun v H2 => v = .non ∧ R H2) E :=
  ⟨a, dx, n, m, _, .pl d, rfl, upd_same, hn, hm, ⟨y, rfl, hy.same (same_new ha hd), hi, hu⟩, fun _ H2 S2 => ⟨rfl, k _ dx (same_made ha hd ((But.of_same S2).trans (but_upd _ _ _))) upd_same⟩, fun z e => (by rw [due] at e; cases e)⟩
theorem useL {K : Frag} {H : Hp} {a dx p q : Addr} {ys : List V} {js : List Str} {R : Hp → Prop} {E : XK} (ha : H a = none) (hd : H dx = none) (hp : IsQ H p ys) (hF : FsK K H ys) (hq : IsQ H q (js.map V.str)) (l : ys.length ≤ 1000) (lj : js.length + 1 = ys.length) (hj : ∀ j ∈ js, j ∈ JN)
    (k : ∀ H', Same H H' → LyAt K H' a ys js → R H') : spLay K [.ref a, .ref p, .ref q] (upd (upd H dx (.own a)) a (.ins (CA K "Layout") dx [])) (fun v H2 => v = .non ∧ R H2) E :=
  ⟨a, dx, p, q, ys, js, rfl, upd_same, hp.same (same_new ha hd), hF.kp (Kp.of (same_new ha hd)), hq.same (same_new ha hd), l, lj, hj, fun H' B h => ⟨rfl, k H' (same_made ha hd B) h⟩⟩
/-! ### the things -/
def sA (x y : Int) (k : Str) : SD := ⟨k, x, y, [.int x, .str "a"], [.int y, .str "a"]⟩
def ths (x y : Int) : List Th := [.word "ab" x (some y), .word "ba" x (some y), .word "ab" x none, .ended "ab" "z" x (some y), .number x (some y), .number x none, .fixed (x + 1), .fixed (y + 1), .listed ["a", "b"], .listed ["b", "a"], .listed [""],
  .marked "N" "m" (y + 1), .marked "m" "N" (y + 1), .pair [.int x] [.int y], .pair [.int y] [.int x], .wish true [x], .wish false [x], .wish true [x, y], .wish true [], .str (sA x y "alike"), .str (sA x y "open"), .mend [x] [sA x y "alike"], .mend [] [],
  .lay [x + 1] [], .lay [x + 1, y + 1] [""], .lay [x + 1, y + 1] ["!"]]
def ThsAt (K : Frag) (H : Hp) (vs : List V) (ts : List Th) : Prop := vs.length = ts.length ∧ ∀ (i : Nat) v t, vs[i]? = some v → ts[i]? = some t → ∃ a, v = .ref a ∧ ThAt K H a t ∧ t.Ok
theorem ThsAt.kp {K : Frag} {H H' : Hp} {vs : List V} {ts : List Th} (k : Kp H H') (h : ThsAt K H vs ts) : ThsAt K H' vs ts := ⟨h.1, fun i v t x y => by
  obtain ⟨a, e, z, o⟩ := h.2 i v t x y
  exact ⟨a, e, z.kp k, o⟩⟩
theorem ThsAt.nil {K : Frag} {H : Hp} : ThsAt K H [] [] := ⟨rfl, fun i v t x _ => by simp at x⟩
theorem ThsAt.snoc {K : Frag} {H H' : Hp} {vs : List V} {ts : List Th} {a : Addr} {t : Th} (h : ThsAt K H vs ts) (S : Same H H') (k : ThAt K H' a t) (o : t.Ok) : ThsAt K H' (vs ++ [.ref a]) (ts ++ [t]) := by
  have h' := h.kp (Kp.of S)
  refine ⟨by rw [List.length_append, List.length_append, h.1]; rfl, fun i x y hx hy => ?_⟩
  have hl := h.1
  by_cases hi : i < vs.length
  · rw [List.getElem?_append_left hi] at hx
    rw [List.getElem?_append_left (by omega)] at hy
    exact h'.2 i x y hx hy
  · rw [List.getElem?_append_right (by omega)] at hx
    rw [List.getElem?_append_right (by omega)] at hy
    have e : i - vs.length = 0 := by
      have := (List.getElem?_eq_some_iff.mp hx).1
      have : i - vs.length < 1 := this
      omega
    rw [← hl, e] at hy
    rw [e] at hx
    cases hx
    cases hy
    exact ⟨a, rfl, k, o⟩
theorem ThsAt.app {K : Frag} {H : Hp} {vs us : List V} {ts rs : List Th} (h : ThsAt K H vs ts) (g : ThsAt K H us rs) : ThsAt K H (vs ++ us) (ts ++ rs) := by
  refine ⟨by rw [List.length_append, List.length_append, h.1, g.1], fun i x y hx hy => ?_⟩
  have hl := h.1
  by_cases hi : i < vs.length
  · rw [List.getElem?_append_left hi] at hx
    rw [List.getElem?_append_left (by omega)] at hy
    exact h.2 i x y hx hy
  · rw [List.getElem?_append_right (by omega)] at hx
    rw [List.getElem?_append_right (by omega), ← hl] at hy
    exact g.2 _ x y hx hy
theorem due_menu : ∀ x, x < 4 → ∀ y, y < 9 → 4 ≤ y → (∀ s ∈ (["ab", "ba"] : List Str), oDue (.str s) (.int (x : Nat)) (.int (y : Nat)) = none ∧ oDue (.str s) (.int (x : Nat)) .non = none) ∧ eDue (.str "ab") (.str "z") (.int (x : Nat)) (.int (y : Nat)) = none ∧
  bDue (.int (x : Nat)) (.int (y : Nat)) = none ∧ bDue (.int (x : Nat)) .non = none := by decide +kernel
theorem fix_menu : ∀ w, w < 12 → wDue (.int ((w : Nat) + 1)) = none ∧ OD.due (.mk (.str "N") (.str "m") (.pl (.fixed (.int ((w : Nat) + 1))))) = none ∧ OD.due (.mk (.str "m") (.str "N") (.pl (.fixed (.int ((w : Nat) + 1))))) = none := by decide +kernel
def LT : List (List Str) := [["a", "b"], ["b", "a"], [""], ["a"]]
theorem list_menu : ∀ ts ∈ LT, lxDue (.lst (ts.map V.str)) = none ∧ SeqAt.shaped (strsD ts) = true ∧ (ts.map V.str).length ≤ 20 ∧ (ts.all fun t => decide (t.length ≤ 20)) = true := by decide +kernel
theorem list_in {ts : List Str} (h : ts ∈ LT) : LX.lst (ts.map V.str) ∈ lM := by
  obtain ⟨_, a, b, c⟩ := list_menu ts h
  refine ⟨.inl rfl, b, fun v hv => ?_, a⟩
  obtain ⟨t, ht, rfl⟩ := List.mem_map.mp hv
  exact ⟨rfl, of_decide_eq_true (List.all_eq_true.mp c t ht)⟩
theorem nM_nat {n : Nat} (h : n ≤ 300) : V.int (n : Nat) ∈ nM := ⟨rfl, fun i e => by injection e with e; omega⟩
theorem nM_non : V.non ∈ nM := ⟨rfl, fun i e => by cases e⟩
theorem wM_nat {n : Nat} (h : n ≤ 50) : V.int ((n : Nat) + 1) ∈ wM := ⟨_, rfl, by omega, by omega⟩
theorem sM_of {s : Str} (h : decide (s.length ≤ 20) = true) : V.str s ∈ sM := ⟨rfl, of_decide_eq_true h⟩
theorem pk_ints (x y : Int) : PkOk [.int x] [.int y] := ⟨rfl, rfl, by show 1 ≤ 1000; decide, by show 1 ≤ 1000; decide, rfl, rfl⟩
theorem lay_a : (PyData.str "a").canLay0 = true := by decide +kernel
theorem shp_xa (x : Int) : SeqAt.shaped (.tuple ([V.int x, .str "a"].map dV)) = true := by
  refine Bool.and_eq_true_iff.mpr ⟨?_, decide_eq_true (show max 0 (max 0 0) + 1 ≤ 64 by decide)⟩
  show (true && ((PyData.str "a").canLay0 && true)) = true
  rw [lay_a]
  rfl
theorem pk_xa (x y : Int) : PkOk [.int x, .str "a"] [.int y, .str "a"] := ⟨rfl, rfl, by show 2 ≤ 1000; decide, by show 2 ≤ 1000; decide, shp_xa x, shp_xa y⟩
theorem js_menu : ∀ js ∈ ([[], [""], ["!"]] : List (List Str)), SeqAt.shaped (strsD js) = true ∧ (js.all fun j => decide (j ∈ JN)) = true := by decide +kernel
theorem js_jn {js : List Str} (h : js ∈ ([[], [""], ["!"]] : List (List Str))) : ∀ j ∈ js, j ∈ JN := fun j hj => of_decide_eq_true (List.all_eq_true.mp (js_menu js h).2 j hj)
theorem fsk_fix {K : Frag} {H : Hp} {as : List Addr} {ws : List Int} (hl : as.length = ws.length) (h : ∀ (i : Nat) b w, as[i]? = some b → ws[i]? = some w → FieldAt K H b (.fixed (.int w))) : FsK K H (as.map V.ref) := fun y hy => by
  obtain ⟨b, hb, rfl⟩ := List.mem_map.mp hy
  obtain ⟨i, hi, e⟩ := List.mem_iff_getElem.mp hb
  obtain ⟨dx, z⟩ := h i b _ (by rw [List.getElem?_eq_getElem hi, e]) (List.getElem?_eq_getElem (by omega))
  exact ⟨b, 2, dx, _, rfl, by decide, z⟩
theorem lay_th {K : Frag} {H : Hp} {L : Addr} {as : List Addr} {ws : List Int} {js : List Str} (h : LyAt K H L (as.map V.ref) js) (hl : as.length = ws.length) (k : ∀ (i : Nat) b w, as[i]? = some b → ws[i]? = some w → FieldAt K H b (.fixed (.int w))) : ThAt K H L (.lay ws js) := by
  obtain ⟨dx, t, u, a, b, c⟩ := h
  exact ⟨dx, t, u, as, a, b, c, hl, k⟩
theorem fix1 {K : Frag} {H : Hp} {a : Addr} {w : Int} (h : FieldAt K H a (.fixed (.int w))) : ∀ (i : Nat) b v, [a][i]? = some b → [w][i]? = some v → FieldAt K H b (.fixed (.int v))
  | 0, b, v, h1, h2 => by cases h1; cases h2; exact h
  | i + 1, b, v, h1, _ => by cases h1
theorem fix2 {K : Frag} {H : Hp} {a c : Addr} {w z : Int} (h : FieldAt K H a (.fixed (.int w))) (h' : FieldAt K H c (.fixed (.int z))) : ∀ (i : Nat) b v, [a, c][i]? = some b → [w, z][i]? = some v → FieldAt K H b (.fixed (.int v))
  | 0, b, v, h1, h2 => by cases h1; cases h2; exact h
  | 1, b, v, h1, h2 => by cases h1; cases h2; exact h'
  | i + 2, b, v, h1, _ => by cases h1
structure HT (P : Program) (w : World) (K : Frag) (mg : Str → Option Value) (base : Heap) : Prop extends H4 P w K mg base where
  check_fields : FnAt P w K mg base CX0 2 "check_fields" ["fields"] (spCkF K)
  kWord : ClsAt P w K mg base (L2.CX P w) 4 "Word" (ca K 0) ["self", "signs", "least", "most"] (spWord K)
  kNumber : ClsAt P w K mg base (L2.CX P w) 4 "Number" (ca K 1) ["self", "least", "most"] (spNumber K)
  kFixed : ClsAt P w K mg base (L2.CX P w) 4 "Fixed" (ca K 2) ["self", "width"] (spFixed K)
  kListed : ClsAt P w K mg base (L2.CX P w) 4 "Listed" (ca K 3) ["self", "texts"] (spListed K)
  kEnded : ClsAt P w K mg base (L2.CX P w) 4 "Ended" (ca K 4) ["self", "signs", "sign", "least", "most"] (spEnded K)
  nPair : ClsAt P w K mg base CX0 5 "Pair" (CA K "Pair") ["self", "one", "other"] (spPair K)
  nWish : ClsAt P w K mg base CX0 5 "Wish" (CA K "Wish") ["self", "order", "scans"] (spWish K)
  nStr : ClsAt P w K mg base CX0 5 "Stretch" (CA K "Stretch") ["self", "kind", "first", "last", "pair"] (spStretch K)
  nMend : ClsAt P w K mg base CX0 5 "Mend" (CA K "Mend") ["self", "joints", "stretches"] (spMend K)
  nLay : ClsAt P w K mg base CX0 3 "Layout" (CA K "Layout") ["self", "fields", "joints"] (spLay K)
def spBare (K : Frag) : Sp := fun vs H Q _ => ∃ (p : Addr) (a b : Addr) (w v : Int), vs = [.ref p] ∧ H p = some (.lst [.ref a, .ref b]) ∧ FieldAt K H a (.fixed (.int w)) ∧ FieldAt K H b (.fixed (.int v)) ∧ ∀ L H', Same H H' → ThAt K H' L (.lay [w, v] [""]) → Q (.ref L) H'
def spThs (K : Frag) : Sp := fun vs H Q _ => ∃ x y : Nat, vs = [.int (x : Nat), .int (y : Nat)] ∧ x < 4 ∧ 4 ≤ y ∧ y < 9 ∧ ∀ L ws H', Same H H' → H' L = some (.lst ws) → ThsAt K H' ws (ths x y) → Q (.ref L) H'
section
variable {P : Program} {w : World} {K : Frag} {mg : Str → Option Value} {base : Heap} {f : Addr} {fd : FuncData}

abbrev s_state : Stmt := top 41
theorem sc_state : FnScope ["_law_source"] ["_law_source"] (defScope s_state) := ⟨rfl, rfl, rfl, by decide +kernel, rfl, by decide +kernel, by decide +kernel⟩

theorem ok_state (F : FunD K "_law_state" "_law_state" (defArgs s_state) (defBody s_state) (defScope s_state) [] [] f fd) (G : Bl mg) : FnOk P w K mg base CX0 1 f fd ["_law_source"] spState := by
  refine F.ok sc_state (fun vs H Q E h => ?_) (fun cdv A outer s H vs Q E hr h => ?_)
  · obtain ⟨n, rfl, _⟩ := h
    rfl
  · obtain ⟨n, rfl, q⟩ := h
    refine ⟨_, PSs.nox (pss_cons (ps_set (i := 0) sc_state.nd rfl (Or.inl rfl) (pe_callB call_abs (by rfl) G.abs (by decide +kernel) (pa_cons (pv 0) pa_nil)))
    (pss_one (ps_ret (pe_lstS (pa_cons (pe_op op_mul (pv 0) (pe_callTy call_int1 (by rfl) G.int (by decide +kernel) (pa_cons (pe_cmpR op_ge (pv 0) (pe_op op_pow pe_int pe_int) (nomark _)) pa_nil))) (pa_cons (pe_op op_add (pe_op op_mod (pe_callTy call_int1 (by rfl) G.int (by decide +kernel) (pa_cons (pv 0) pa_nil)) pe_int) pe_int) (pa_cons (pe_op op_mod (pe_callTy call_int1 (by rfl) G.int (by decide +kernel) (pa_cons (pv 0) pa_nil)) pe_int) pa_nil))))))), ?_⟩
    refine ⟨_, rfl, n, rfl, ?_⟩
    refine ⟨_, rfl, _, rfl, _, _, rfl, rfl, ⟨by decide, by decide, by decide⟩, _, _, rfl, rfl, .inr ⟨_, rfl, ?_⟩⟩
    refine ⟨_, _, rfl, rfl, .inr (bit_line _), _, rfl, .inl ⟨_, rfl, _, _, rfl, rfl, (by show (0 : Int) < 2147483629; decide), _, _, rfl, rfl, ?_⟩⟩
    refine ⟨_, rfl, .inl ⟨_, rfl, _, _, rfl, rfl, (by show (0 : Int) < 2147483587; decide), ?_⟩⟩
    refine ⟨by show 3 ≤ 1000; decide, fun p H' hp S e => q p H' hp S ⟨_, _, _, e, state_line n, ?_, ?_, ?_, ?_⟩⟩
    · have := Int.emod_nonneg (if n < 0 then -n else n) (show (2147483629 : Int) ≠ 0 by decide)
      omega
    · have := Int.emod_lt_of_pos (if n < 0 then -n else n) (show (0 : Int) < 2147483629 by decide)
      omega
    · exact Int.emod_nonneg _ (by decide)
    · have := Int.emod_lt_of_pos (if n < 0 then -n else n) (show (0 : Int) < 2147483587 by decide)
      omega

abbrev s_digit : Stmt := top 42
theorem sc_digit : FnScope ["_law_state_here", "_law_base", "_law_found", "_law_mixed"] ["_law_state_here", "_law_base"] (defScope s_digit) := ⟨rfl, rfl, rfl, by decide +kernel, rfl, by decide +kernel, by decide +kernel⟩

theorem ok_digit (F : FunD K "_law_digit" "_law_digit" (defArgs s_digit) (defBody s_digit) (defScope s_digit) [] [] f fd) (G : Bl mg) : FnOk P w K mg base CX0 1 f fd ["_law_state_here", "_law_base"] spDigit := by
  refine F.ok sc_digit (fun vs H Q E h => ?_) (fun cdv A outer s H vs Q E hr h => ?_)
  · obtain ⟨a, b, rfl, _⟩ := h
    rfl
  · obtain ⟨a, b, rfl, ⟨x, y, z, ha, hx, hy, hy2, hz, hz2⟩, hb, hb2, q⟩ := h
    refine ⟨_, PSs.nox (pss_cons (ps_if (pt_cmpR op_gt (pe_ix ix_list (pv 0) pe_int (fun _ _ => rfl)) pe_int (nomark _))
      (pss_cons (ps_set (i := 2) sc_digit.nd rfl (Or.inl rfl) (pe_op op_mod (pe_callTy call_int1 (by rfl) G.int (by decide +kernel) (pa_cons (pe_ix ix_list (pv 0) pe_int (fun _ _ => rfl)) pa_nil)) (pv 1)))
      (pss_cons (ps_asg (pe_op op_fdiv (pe_ix ix_list (pv 0) pe_int (fun _ _ => rfl)) (pv 1)) (pg_sub (pv 0) pe_int set_list))
      (pss_one (ps_ret (pv 2)))))
      pss_nil)
    (pss_cons (ps_set (i := 3) sc_digit.nd rfl (Or.inl rfl) (pe_op op_mul (pe_ix ix_list (pv 0) pe_int (fun _ _ => rfl)) (pe_op op_add (pe_op op_fdiv (pe_ix ix_list (pv 0) pe_int (fun _ _ => rfl)) pe_int) pe_int)))
    (pss_cons (ps_asg (pe_op op_add (pe_op op_mod (pe_callTy call_int1 (by rfl) G.int (by decide +kernel) (pa_cons (pe_op op_add (pv 3) (pe_ix ix_list (pv 0) pe_int (fun _ _ => rfl))) pa_nil)) pe_int) pe_int) (pg_sub (pv 0) pe_int set_list))
    (pss_one (ps_ret (pe_op op_mod (pe_callTy call_int1 (by rfl) G.int (by decide +kernel) (pa_cons (pe_op op_fdiv (pe_ix ix_list (pv 0) pe_int (fun _ _ => rfl)) pe_int) pa_nil)) (pv 1))))))), ?_⟩
    refine ⟨_, rfl, _, _, _, _, rfl, rfl, SqL.of ha, atI_nat (j := 0) rfl, _, _, rfl, rfl, _, rfl, ?_⟩
    refine ite2 (fun h0 => ?_) (fun h0 => ?_)
    · refine ⟨_, rfl, _, _, _, _, rfl, rfl, SqL.of ha, atI_nat (j := 0) rfl, .inl ⟨_, rfl, _, rfl, _, _, rfl, rfl, hb, ?_⟩⟩
      refine ⟨_, rfl, _, _, _, _, rfl, rfl, SqL.of ha, atI_nat (j := 0) rfl, _, rfl, _, _, rfl, rfl, ⟨hb, hb2⟩, ?_⟩
      refine ⟨_, rfl, _, _, _, 0, rfl, rfl, ha, rfl, ?_⟩
      refine ⟨_, rfl, q _ _ (Int.emod_nonneg _ (by omega)) (Int.emod_lt_of_pos _ hb) (but_upd _ _ _) ⟨_, _, _, upd_same, Int.ediv_nonneg hx (by omega), hy, hy2, hz, hz2⟩⟩
    · refine ⟨_, rfl, _, _, _, _, rfl, rfl, SqL.of ha, atI_nat (j := 1) rfl, _, rfl, _, _, _, _, rfl, rfl, SqL.of ha, atI_nat (j := 1) rfl, _, _, rfl, rfl, ⟨by decide, by decide⟩, _, _, rfl, rfl, _, _, rfl, rfl, .inl ⟨by omega, by omega⟩, ?_⟩
      refine ⟨_, rfl, _, rfl, _, _, _, _, rfl, rfl, SqL.of ha, atI_nat (j := 2) rfl, _, _, rfl, rfl, .inl ⟨_, rfl, _, _, rfl, rfl, (by show (0 : Int) < 2147483629; decide), _, _, rfl, rfl, ?_⟩⟩
      refine ⟨_, rfl, _, _, _, 1, rfl, rfl, ha, rfl, ?_⟩
      refine ⟨_, rfl, _, _, _, _, rfl, rfl, SqL.of upd_same, atI_nat (j := 1) rfl, _, _, rfl, rfl, ⟨by decide, by decide⟩, .inl ⟨_, rfl, _, rfl, _, _, rfl, rfl, hb, ?_⟩⟩
      have m1 := Int.emod_nonneg (y * (y / 1009 + 69621) + z) (show (2147483629 : Int) ≠ 0 by decide)
      have m2 := Int.emod_lt_of_pos (y * (y / 1009 + 69621) + z) (show (0 : Int) < 2147483629 by decide)
      exact q _ _ (Int.emod_nonneg _ (by omega)) (Int.emod_lt_of_pos _ hb) (but_upd _ _ _) ⟨_, _, _, upd_same, hx, by omega, by omega, hz, hz2⟩



abbrev s_bare : Stmt := top 31
theorem sc_bare : FnScope ["fields"] ["fields"] (defScope s_bare) := ⟨rfl, rfl, rfl, by decide +kernel, rfl, by decide +kernel, by decide +kernel⟩

theorem ok_bare (F : FunD K "bare_layout" "bare_layout" (defArgs s_bare) (defBody s_bare) (defScope s_bare) [] [] f fd) (G : HT P w K mg base) : FnOk P w K mg base CX0 5 f fd ["fields"] (spBare K) := by
  refine F.ok (CX := CX0) sc_bare (fun vs H Q E h => ?_) (fun cdv A outer s H vs Q E hr h => ?_)
  · obtain ⟨_, _, _, _, _, rfl, _⟩ := h
    rfl
  · refine ⟨_, PSs.nox (pss_cons (ps_expr (pe_fn G.check_fields (hr.mono (by decide)) pass0 (by rfl) (pa_cons (pv 0) pa_nil)))
    (pss_one (ps_ret (pe_newS (E := fun _ => E0) G.nLay (hr.mono (by decide)) (fun σ => fun _ _ _ _ _ _ h => h.elim) (by rfl) (pa_cons (pv 0) (pa_cons (pe_op op_rep (pe_lstS (pa_cons pe_str pa_nil)) (pe_op op_sub (pe_callB call_len_seq (by rfl) G.len (by decide +kernel) (pa_cons (pv 0) pa_nil)) pe_int)) pa_nil)))))), ?_⟩
    obtain ⟨p, a, b, w_, v_, rfl, hp, ha, hb, q⟩ := h
    have hF : FsK K H [.ref a, .ref b] := fsk_fix (as := [a, b]) (ws := [w_, v_]) rfl (fix2 ha hb)
    refine ⟨_, rfl, p, _, rfl, .inl hp, hF, by show 2 ≤ 1000; decide, (fun z => by cases z), fun H0 S0 => ?_⟩
    refine ⟨_, rfl, by show 1 ≤ 1000; decide, fun p1 H1 hp1 S1 e1 => ?_⟩
    refine ⟨_, rfl, p, _, rfl, .inl (SqL.of (S1 _ _ (S0 _ _ hp))), _, _, rfl, rfl, p1, _, _, rfl, rfl, e1, by show -(2 ^ 63) ≤ (((2 : Nat) : Int) - 1); decide, by show (((2 : Nat) : Int) - 1) < 2 ^ 63; decide, by rw [sizeLine_eq]; show 1 * 1 ≤ 16777216; decide, fun p2 hp2 => ?_⟩
    obtain ⟨H2, e2⟩ : ∃ H2, upd H1 p2 (.lst (List.replicate (((2 : Nat) : Int) - 1).toNat [V.str ""]).flatten) = H2 := ⟨_, rfl⟩
    have S2 : Same H1 H2 := by rw [← e2]; exact same_upd hp2
    have eJ : H2 p2 = some (.lst (([""] : List Str).map V.str)) := by rw [← e2]; exact upd_same
    have S02 := (S0.trans S1).trans S2
    refine fun L dx hL hdx _ => ?_
    show spLay K _ (upd (upd (upd H1 p2 (.lst (List.replicate (((2 : Nat) : Int) - 1).toNat [V.str ""]).flatten)) dx (.own L)) L (.ins (CA K "Layout") dx [])) _ _
    have hL2 : H2 L = none := by rw [← e2]; exact hL
    have hd2 : H2 dx = none := by rw [← e2]; exact hdx
    rw [e2]
    exact useL (ys := [.ref a, .ref b]) (js := [""]) hL2 hd2 (.inl (S02 _ _ hp)) (hF.kp (Kp.of S02)) (.inl eJ) (by show 2 ≤ 1000; decide) rfl (js_jn (by decide)) fun H3 S3 hLy => q L H3 (S02.trans S3) (lay_th (as := [a, b]) hLy rfl (fix2 (ha.kp (Kp.of (S02.trans S3))) (hb.kp (Kp.of (S02.trans S3)))))

abbrev s_things : Stmt := top 43
theorem sc_things : FnScope ["_law_x", "_law_y", "_law_found", "_law_pair", "_law_stretch"] ["_law_x", "_law_y"] (defScope s_things) := ⟨rfl, rfl, rfl, by decide +kernel, rfl, by decide +kernel, by decide +kernel⟩

theorem ok_things (F : FunD K "_law_things" "_law_things" (defArgs s_things) (defBody s_things) (defScope s_things) [] [] f fd) (G : HT P w K mg base) : FnOk P w K mg base CX0 7 f fd ["_law_x", "_law_y"] (spThs K) := by
  refine F.ok (CX := CX0) sc_things (fun vs H Q E h => ?_) (fun cdv A outer s H vs Q E hr h => ?_)
  · obtain ⟨_, _, rfl, _⟩ := h
    rfl
  · refine ⟨_, PSs.nox (pss_cons (ps_set (i := 2) sc_things.nd rfl (Or.inl rfl) (pe_lstS (pa_cons (pe_newS G.kWord (hr.mono (by decide)) (fun σ => passAt takes0 σ) (by rfl) (pa_cons pe_str (pa_cons (pv 0) (pa_cons (pv 1) pa_nil)))) (pa_cons (pe_newS G.kWord (hr.mono (by decide)) (fun σ => passAt takes0 σ) (by rfl) (pa_cons pe_str (pa_cons (pv 0) (pa_cons (pv 1) pa_nil)))) (pa_cons (pe_newS G.kWord (hr.mono (by decide)) (fun σ => passAt takes0 σ) (by rfl) (pa_cons pe_str (pa_cons (pv 0) (pa_cons pe_non pa_nil)))) (pa_cons (pe_newS G.kEnded (hr.mono (by decide)) (fun σ => passAt takes0 σ) (by rfl) (pa_cons pe_str (pa_cons pe_str (pa_cons (pv 0) (pa_cons (pv 1) pa_nil))))) (pa_cons (pe_newS G.kNumber (hr.mono (by decide)) (fun σ => passAt takes0 σ) (by rfl) (pa_cons (pv 0) (pa_cons (pv 1) pa_nil))) pa_nil)))))))
    (pss_cons (ps_set (i := 2) sc_things.nd rfl (Or.inl rfl) (pe_op op_catS (pv 2) (pe_lstS (pa_cons (pe_newS G.kNumber (hr.mono (by decide)) (fun σ => passAt takes0 σ) (by rfl) (pa_cons (pv 0) (pa_cons pe_non pa_nil))) (pa_cons (pe_newS G.kFixed (hr.mono (by decide)) (fun σ => passAt takes0 σ) (by rfl) (pa_cons (pe_op op_add (pv 0) pe_int) pa_nil)) (pa_cons (pe_newS G.kFixed (hr.mono (by decide)) (fun σ => passAt takes0 σ) (by rfl) (pa_cons (pe_op op_add (pv 1) pe_int) pa_nil)) (pa_cons (pe_newS G.kListed (hr.mono (by decide)) (fun σ => passAt takes0 σ) (by rfl) (pa_cons (pe_lstS (pa_cons pe_str (pa_cons pe_str pa_nil))) pa_nil)) (pa_cons (pe_newS G.kListed (hr.mono (by decide)) (fun σ => passAt takes0 σ) (by rfl) (pa_cons (pe_lstS (pa_cons pe_str (pa_cons pe_str pa_nil))) pa_nil)) (pa_cons (pe_newS G.kListed (hr.mono (by decide)) (fun σ => passAt takes0 σ) (by rfl) (pa_cons (pe_lstS (pa_cons pe_str pa_nil)) pa_nil)) pa_nil)))))))))
    (pss_cons (ps_set (i := 2) sc_things.nd rfl (Or.inl rfl) (pe_op op_catS (pv 2) (pe_lstS (pa_cons (pe_newS G.kMarked (hr.mono (by decide)) (fun σ => passAt takes0 σ) (by rfl) (pa_cons pe_str (pa_cons pe_str (pa_cons (pe_newS G.kFixed (hr.mono (by decide)) (fun σ => passAt takes0 σ) (by rfl) (pa_cons (pe_op op_add (pv 1) pe_int) pa_nil)) pa_nil)))) (pa_cons (pe_newS G.kMarked (hr.mono (by decide)) (fun σ => passAt takes0 σ) (by rfl) (pa_cons pe_str (pa_cons pe_str (pa_cons (pe_newS G.kFixed (hr.mono (by decide)) (fun σ => passAt takes0 σ) (by rfl) (pa_cons (pe_op op_add (pv 1) pe_int) pa_nil)) pa_nil)))) (pa_cons (pe_newS (E := fun _ => E0) G.nPair (hr.mono (by decide)) (fun σ => fun _ _ _ _ _ _ h => h.elim) (by rfl) (pa_cons (pe_tupS (pa_cons (pv 0) pa_nil)) (pa_cons (pe_tupS (pa_cons (pv 1) pa_nil)) pa_nil))) (pa_cons (pe_newS (E := fun _ => E0) G.nPair (hr.mono (by decide)) (fun σ => fun _ _ _ _ _ _ h => h.elim) (by rfl) (pa_cons (pe_tupS (pa_cons (pv 1) pa_nil)) (pa_cons (pe_tupS (pa_cons (pv 0) pa_nil)) pa_nil))) pa_nil)))))))
    (pss_cons (ps_set (i := 2) sc_things.nd rfl (Or.inl rfl) (pe_op op_catS (pv 2) (pe_lstS (pa_cons (pe_newS (E := fun _ => E0) G.nWish (hr.mono (by decide)) (fun σ => fun _ _ _ _ _ _ h => h.elim) (by rfl) (pa_cons pe_bl (pa_cons (pe_lstS (pa_cons (pv 0) pa_nil)) pa_nil))) (pa_cons (pe_newS (E := fun _ => E0) G.nWish (hr.mono (by decide)) (fun σ => fun _ _ _ _ _ _ h => h.elim) (by rfl) (pa_cons pe_bl (pa_cons (pe_lstS (pa_cons (pv 0) pa_nil)) pa_nil))) (pa_cons (pe_newS (E := fun _ => E0) G.nWish (hr.mono (by decide)) (fun σ => fun _ _ _ _ _ _ h => h.elim) (by rfl) (pa_cons pe_bl (pa_cons (pe_lstS (pa_cons (pv 0) (pa_cons (pv 1) pa_nil))) pa_nil))) (pa_cons (pe_newS (E := fun _ => E0) G.nWish (hr.mono (by decide)) (fun σ => fun _ _ _ _ _ _ h => h.elim) (by rfl) (pa_cons pe_bl (pa_cons (pe_lstS pa_nil) pa_nil))) pa_nil)))))))
    (pss_cons (ps_set (i := 3) sc_things.nd rfl (Or.inl rfl) (pe_newS (E := fun _ => E0) G.nPair (hr.mono (by decide)) (fun σ => fun _ _ _ _ _ _ h => h.elim) (by rfl) (pa_cons (pe_tupS (pa_cons (pv 0) (pa_cons pe_str pa_nil))) (pa_cons (pe_tupS (pa_cons (pv 1) (pa_cons pe_str pa_nil))) pa_nil))))
    (pss_cons (ps_set (i := 4) sc_things.nd rfl (Or.inl rfl) (pe_newS (E := fun _ => E0) G.nStr (hr.mono (by decide)) (fun σ => fun _ _ _ _ _ _ h => h.elim) (by rfl) (pa_cons pe_str (pa_cons (pv 0) (pa_cons (pv 1) (pa_cons (pv 3) pa_nil))))))
    (pss_cons (ps_set (i := 2) sc_things.nd rfl (Or.inl rfl) (pe_op op_catS (pv 2) (pe_lstS (pa_cons (pv 4) (pa_cons (pe_newS (E := fun _ => E0) G.nStr (hr.mono (by decide)) (fun σ => fun _ _ _ _ _ _ h => h.elim) (by rfl) (pa_cons pe_str (pa_cons (pv 0) (pa_cons (pv 1) (pa_cons (pv 3) pa_nil))))) (pa_cons (pe_newS (E := fun _ => E0) G.nMend (hr.mono (by decide)) (fun σ => fun _ _ _ _ _ _ h => h.elim) (by rfl) (pa_cons (pe_lstS (pa_cons (pv 0) pa_nil)) (pa_cons (pe_lstS (pa_cons (pv 4) pa_nil)) pa_nil))) (pa_cons (pe_newS (E := fun _ => E0) G.nMend (hr.mono (by decide)) (fun σ => fun _ _ _ _ _ _ h => h.elim) (by rfl) (pa_cons (pe_lstS pa_nil) (pa_cons (pe_lstS pa_nil) pa_nil))) pa_nil)))))))
    (pss_cons (ps_set (i := 2) sc_things.nd rfl (Or.inl rfl) (pe_op op_catS (pv 2) (pe_lstS (pa_cons (pe_newS (E := fun _ => E0) G.nLay (hr.mono (by decide)) (fun σ => fun _ _ _ _ _ _ h => h.elim) (by rfl) (pa_cons (pe_lstS (pa_cons (pe_newS G.kFixed (hr.mono (by decide)) (fun σ => passAt takes0 σ) (by rfl) (pa_cons (pe_op op_add (pv 0) pe_int) pa_nil)) pa_nil)) (pa_cons (pe_lstS pa_nil) pa_nil))) (pa_cons (pe_newS (E := fun _ => E0) G.nLay (hr.mono (by decide)) (fun σ => fun _ _ _ _ _ _ h => h.elim) (by rfl) (pa_cons (pe_lstS (pa_cons (pe_newS G.kFixed (hr.mono (by decide)) (fun σ => passAt takes0 σ) (by rfl) (pa_cons (pe_op op_add (pv 0) pe_int) pa_nil)) (pa_cons (pe_newS G.kFixed (hr.mono (by decide)) (fun σ => passAt takes0 σ) (by rfl) (pa_cons (pe_op op_add (pv 1) pe_int) pa_nil)) pa_nil))) (pa_cons (pe_lstS (pa_cons pe_str pa_nil)) pa_nil))) pa_nil)))))
    (pss_one (ps_ret (pe_op op_catS (pv 2) (pe_lstS (pa_cons (pe_newS (E := fun _ => E0) G.nLay (hr.mono (by decide)) (fun σ => fun _ _ _ _ _ _ h => h.elim) (by rfl) (pa_cons (pe_lstS (pa_cons (pe_newS G.kFixed (hr.mono (by decide)) (fun σ => passAt takes0 σ) (by rfl) (pa_cons (pe_op op_add (pv 0) pe_int) pa_nil)) (pa_cons (pe_newS G.kFixed (hr.mono (by decide)) (fun σ => passAt takes0 σ) (by rfl) (pa_cons (pe_op op_add (pv 1) pe_int) pa_nil)) pa_nil))) (pa_cons (pe_lstS (pa_cons pe_str pa_nil)) pa_nil))) pa_nil))))))))))))), ?_⟩
    obtain ⟨x, y, rfl, hx, hy4, hy, q⟩ := h
    obtain ⟨dO, dE, dN, dN2⟩ := due_menu x hx y hy hy4
    obtain ⟨fx1, fx2, fx3⟩ := fix_menu x (by omega)
    obtain ⟨fy1, fy2, fy3⟩ := fix_menu y (by omega)
    have nx : V.int ((x : Nat) : Int) ∈ nM := nM_nat (by omega)
    have ny : V.int ((y : Nat) : Int) ∈ nM := nM_nat (by omega)
    have wx : V.int (((x : Nat) : Int) + 1) ∈ wM := wM_nat (by omega)
    have wy : V.int (((y : Nat) : Int) + 1) ∈ wM := wM_nat (by omega)
    have F0 : ThsAt K H [] [] := ThsAt.nil
    have tot : Same H H := Same.refl _
    refine ⟨_, rfl, _, rfl, fun a1 dx1 ha1 hd1 _ => useWord ha1 hd1 (sM_of (by decide +kernel)) nx ny (dO _ (by decide)).1 fun H1 S1 h1 => ?_⟩
    replace tot := tot.trans S1
    have F2 := F0.snoc S1 (t := .word "ab" (x : Nat) (some (y : Nat))) (a := a1) h1 trivial
    refine ⟨_, rfl, _, rfl, fun a3 dx3 ha3 hd3 _ => useWord ha3 hd3 (sM_of (by decide +kernel)) nx ny (dO _ (by decide)).1 fun H3 S3 h3 => ?_⟩
    replace tot := tot.trans S3
    have F4 := F2.snoc S3 (t := .word "ba" (x : Nat) (some (y : Nat))) (a := a3) h3 trivial
    refine ⟨_, rfl, fun a5 dx5 ha5 hd5 _ => useWord ha5 hd5 (sM_of (by decide +kernel)) nx nM_non (dO _ (by decide)).2 fun H5 S5 h5 => ?_⟩
    replace tot := tot.trans S5
    have F6 := F4.snoc S5 (t := .word "ab" (x : Nat) none) (a := a5) h5 trivial
    refine ⟨_, rfl, _, rfl, fun a7 dx7 ha7 hd7 _ => useEnded ha7 hd7 (sM_of (by decide +kernel)) (sM_of (by decide +kernel)) nx ny dE fun H7 S7 h7 => ?_⟩
    replace tot := tot.trans S7
    have F8 := F6.snoc S7 (t := .ended "ab" "z" (x : Nat) (some (y : Nat))) (a := a7) h7 trivial
    refine ⟨_, rfl, _, rfl, fun a9 dx9 ha9 hd9 _ => useNumber ha9 hd9 nx ny dN fun H9 S9 h9 => ?_⟩
    replace tot := tot.trans S9
    have F10 := F8.snoc S9 (t := .number (x : Nat) (some (y : Nat))) (a := a9) h9 trivial
    refine ⟨by show 5 ≤ 1000; decide, fun p11 H11 hp11 S11 e11 => ?_⟩
    replace tot := tot.trans S11
    have F12 := F10.kp (Kp.of S11)
    refine ⟨_, rfl, ?_⟩
    have G13 := F12
    have F14 : ThsAt K H11 [] [] := ThsAt.nil
    refine ⟨_, rfl, fun a15 dx15 ha15 hd15 _ => useNumber ha15 hd15 nx nM_non dN2 fun H15 S15 h15 => ?_⟩
    replace G13 := G13.kp (Kp.of S15)
    replace e11 := S15 _ _ e11
    replace tot := tot.trans S15
    have F16 := F14.snoc S15 (t := .number (x : Nat) none) (a := a15) h15 trivial
    refine ⟨_, rfl, _, _, rfl, rfl, fun a17 dx17 ha17 hd17 _ => useFixed ha17 hd17 wx fx1 fun H17 S17 h17 => ?_⟩
    replace G13 := G13.kp (Kp.of S17)
    replace e11 := S17 _ _ e11
    replace tot := tot.trans S17
    have F18 := F16.snoc S17 (t := .fixed ((x : Nat) + 1)) (a := a17) h17 trivial
    refine ⟨_, rfl, _, _, rfl, rfl, fun a19 dx19 ha19 hd19 _ => useFixed ha19 hd19 wy fy1 fun H19 S19 h19 => ?_⟩
    replace G13 := G13.kp (Kp.of S19)
    replace e11 := S19 _ _ e11
    replace tot := tot.trans S19
    have F20 := F18.snoc S19 (t := .fixed ((y : Nat) + 1)) (a := a19) h19 trivial
    refine ⟨by show 2 ≤ 1000; decide, fun p21 H21 hp21 S21 e21 => ?_⟩
    replace G13 := G13.kp (Kp.of S21)
    replace e11 := S21 _ _ e11
    replace tot := tot.trans S21
    have F22 := F20.kp (Kp.of S21)
    refine fun a23 dx23 ha23 hd23 _ => useListed (xs := (["a", "b"] : List Str).map V.str) ha23 hd23 (list_in (by decide)) e21 (list_menu _ (by decide)).1 fun H23 S23 h23 => ?_
    replace G13 := G13.kp (Kp.of S23)
    replace e11 := S23 _ _ e11
    replace tot := tot.trans S23
    have F24 := F22.snoc S23 (t := .listed ["a", "b"]) (a := a23) h23 (list_menu _ (by decide)).2.1
    refine ⟨by show 2 ≤ 1000; decide, fun p25 H25 hp25 S25 e25 => ?_⟩
    replace G13 := G13.kp (Kp.of S25)
    replace e11 := S25 _ _ e11
    replace tot := tot.trans S25
    have F26 := F24.kp (Kp.of S25)
    refine fun a27 dx27 ha27 hd27 _ => useListed (xs := (["b", "a"] : List Str).map V.str) ha27 hd27 (list_in (by decide)) e25 (list_menu _ (by decide)).1 fun H27 S27 h27 => ?_
    replace G13 := G13.kp (Kp.of S27)
    replace e11 := S27 _ _ e11
    replace tot := tot.trans S27
    have F28 := F26.snoc S27 (t := .listed ["b", "a"]) (a := a27) h27 (list_menu _ (by decide)).2.1
    refine ⟨by show 1 ≤ 1000; decide, fun p29 H29 hp29 S29 e29 => ?_⟩
    replace G13 := G13.kp (Kp.of S29)
    replace e11 := S29 _ _ e11
    replace tot := tot.trans S29
    have F30 := F28.kp (Kp.of S29)
    refine fun a31 dx31 ha31 hd31 _ => useListed (xs := ([""] : List Str).map V.str) ha31 hd31 (list_in (by decide)) e29 (list_menu _ (by decide)).1 fun H31 S31 h31 => ?_
    replace G13 := G13.kp (Kp.of S31)
    replace e11 := S31 _ _ e11
    replace tot := tot.trans S31
    have F32 := F30.snoc S31 (t := .listed [""]) (a := a31) h31 (list_menu _ (by decide)).2.1
    refine ⟨by show 6 ≤ 1000; decide, fun p33 H33 hp33 S33 e33 => ?_⟩
    replace G13 := G13.kp (Kp.of S33)
    replace e11 := S33 _ _ e11
    replace tot := tot.trans S33
    have F34 := F32.kp (Kp.of S33)
    refine ⟨p11, p33, _, _, rfl, rfl, SqL.of e11, SqL.of e33, by rw [sizeLine_eq]; simp, fun p35 H35 hp35 S35 e35 => ?_⟩
    have F36 := (G13.app F34).kp (Kp.of S35)
    replace tot := tot.trans S35
    refine ⟨_, rfl, ?_⟩
    have G37 := F36
    have F38 : ThsAt K H35 [] [] := ThsAt.nil
    refine ⟨_, rfl, _, _, rfl, rfl, fun a39 dx39 ha39 hd39 _ => useFixed ha39 hd39 wy fy1 fun H39 S39 h39 => ?_⟩
    replace G37 := G37.kp (Kp.of S39)
    replace e35 := S39 _ _ e35
    replace tot := tot.trans S39
    have F40 := F38.kp (Kp.of S39)
    refine fun a41 dx41 ha41 hd41 _ => useMarked ha41 hd41 (sM_of (by decide +kernel)) (sM_of (by decide +kernel)) h39 wy fy1 fy2 fun H41 dm41 S41 h41 => ?_
    have g41 : ThAt K H41 a41 (.marked "N" "m" ((y : Nat) + 1)) := ⟨dm41, a39, h41, h39.kp (Kp.of S41)⟩
    replace G37 := G37.kp (Kp.of S41)
    replace e35 := S41 _ _ e35
    replace tot := tot.trans S41
    have F42 := F40.snoc S41 (t := .marked "N" "m" ((y : Nat) + 1)) (a := a41) g41 trivial
    refine ⟨_, rfl, _, _, rfl, rfl, fun a43 dx43 ha43 hd43 _ => useFixed ha43 hd43 wy fy1 fun H43 S43 h43 => ?_⟩
    replace G37 := G37.kp (Kp.of S43)
    replace e35 := S43 _ _ e35
    replace tot := tot.trans S43
    have F44 := F42.kp (Kp.of S43)
    refine fun a45 dx45 ha45 hd45 _ => useMarked ha45 hd45 (sM_of (by decide +kernel)) (sM_of (by decide +kernel)) h43 wy fy1 fy3 fun H45 dm45 S45 h45 => ?_
    have g45 : ThAt K H45 a45 (.marked "m" "N" ((y : Nat) + 1)) := ⟨dm45, a43, h45, h43.kp (Kp.of S45)⟩
    replace G37 := G37.kp (Kp.of S45)
    replace e35 := S45 _ _ e35
    replace tot := tot.trans S45
    have F46 := F44.snoc S45 (t := .marked "m" "N" ((y : Nat) + 1)) (a := a45) g45 trivial
    refine ⟨_, rfl, by show 1 ≤ 1000; decide, fun p47 H47 hp47 S47 e47 => ?_⟩
    replace G37 := G37.kp (Kp.of S47)
    replace e35 := S47 _ _ e35
    replace tot := tot.trans S47
    have F48 := F46.kp (Kp.of S47)
    refine ⟨_, rfl, by show 1 ≤ 1000; decide, fun p49 H49 hp49 S49 e49 => ?_⟩
    replace G37 := G37.kp (Kp.of S49)
    replace e35 := S49 _ _ e35
    replace e47 := S49 _ _ e47
    replace tot := tot.trans S49
    have F50 := F48.kp (Kp.of S49)
    refine fun a51 dx51 ha51 hd51 _ => useP ha51 hd51 (.inr e47) (.inr e49) (pk_ints _ _) fun H51 S51 h51 => ?_
    replace G37 := G37.kp (Kp.of S51)
    replace e35 := S51 _ _ e35
    replace tot := tot.trans S51
    have F52 := F50.snoc S51 (t := .pair [.int (x : Nat)] [.int (y : Nat)]) (a := a51) h51 (pk_ints _ _)
    refine ⟨_, rfl, by show 1 ≤ 1000; decide, fun p53 H53 hp53 S53 e53 => ?_⟩
    replace G37 := G37.kp (Kp.of S53)
    replace e35 := S53 _ _ e35
    replace tot := tot.trans S53
    have F54 := F52.kp (Kp.of S53)
    refine ⟨_, rfl, by show 1 ≤ 1000; decide, fun p55 H55 hp55 S55 e55 => ?_⟩
    replace G37 := G37.kp (Kp.of S55)
    replace e35 := S55 _ _ e35
    replace e53 := S55 _ _ e53
    replace tot := tot.trans S55
    have F56 := F54.kp (Kp.of S55)
    refine fun a57 dx57 ha57 hd57 _ => useP ha57 hd57 (.inr e53) (.inr e55) (pk_ints _ _) fun H57 S57 h57 => ?_
    replace G37 := G37.kp (Kp.of S57)
    replace e35 := S57 _ _ e35
    replace tot := tot.trans S57
    have F58 := F56.snoc S57 (t := .pair [.int (y : Nat)] [.int (x : Nat)]) (a := a57) h57 (pk_ints _ _)
    refine ⟨by show 4 ≤ 1000; decide, fun p59 H59 hp59 S59 e59 => ?_⟩
    replace G37 := G37.kp (Kp.of S59)
    replace e35 := S59 _ _ e35
    replace tot := tot.trans S59
    have F60 := F58.kp (Kp.of S59)
    refine ⟨p35, p59, _, _, rfl, rfl, SqL.of e35, SqL.of e59, by rw [sizeLine_eq]; simp, fun p61 H61 hp61 S61 e61 => ?_⟩
    have F62 := (G37.app F60).kp (Kp.of S61)
    replace tot := tot.trans S61
    refine ⟨_, rfl, ?_⟩
    have G63 := F62
    have F64 : ThsAt K H61 [] [] := ThsAt.nil
    refine ⟨_, rfl, by show 1 ≤ 1000; decide, fun p65 H65 hp65 S65 e65 => ?_⟩
    replace G63 := G63.kp (Kp.of S65)
    replace e61 := S65 _ _ e61
    replace tot := tot.trans S65
    have F66 := F64.kp (Kp.of S65)
    refine fun a67 dx67 ha67 hd67 _ => useW (js := [((x : Nat) : Int)]) ha67 hd67 (.inl e65) (by show 1 ≤ 1000; decide) fun H67 S67 h67 => ?_
    replace G63 := G63.kp (Kp.of S67)
    replace e61 := S67 _ _ e61
    replace tot := tot.trans S67
    have F68 := F66.snoc S67 (t := .wish true [((x : Nat) : Int)]) (a := a67) h67 trivial
    refine ⟨_, rfl, by show 1 ≤ 1000; decide, fun p69 H69 hp69 S69 e69 => ?_⟩
    replace G63 := G63.kp (Kp.of S69)
    replace e61 := S69 _ _ e61
    replace tot := tot.trans S69
    have F70 := F68.kp (Kp.of S69)
    refine fun a71 dx71 ha71 hd71 _ => useW (js := [((x : Nat) : Int)]) ha71 hd71 (.inl e69) (by show 1 ≤ 1000; decide) fun H71 S71 h71 => ?_
    replace G63 := G63.kp (Kp.of S71)
    replace e61 := S71 _ _ e61
    replace tot := tot.trans S71
    have F72 := F70.snoc S71 (t := .wish false [((x : Nat) : Int)]) (a := a71) h71 trivial
    refine ⟨_, rfl, _, rfl, by show 2 ≤ 1000; decide, fun p73 H73 hp73 S73 e73 => ?_⟩
    replace G63 := G63.kp (Kp.of S73)
    replace e61 := S73 _ _ e61
    replace tot := tot.trans S73
    have F74 := F72.kp (Kp.of S73)
    refine fun a75 dx75 ha75 hd75 _ => useW (js := [((x : Nat) : Int), ((y : Nat) : Int)]) ha75 hd75 (.inl e73) (by show 2 ≤ 1000; decide) fun H75 S75 h75 => ?_
    replace G63 := G63.kp (Kp.of S75)
    replace e61 := S75 _ _ e61
    replace tot := tot.trans S75
    have F76 := F74.snoc S75 (t := .wish true [((x : Nat) : Int), ((y : Nat) : Int)]) (a := a75) h75 trivial
    refine ⟨by show 0 ≤ 1000; decide, fun p77 H77 hp77 S77 e77 => ?_⟩
    replace G63 := G63.kp (Kp.of S77)
    replace e61 := S77 _ _ e61
    replace tot := tot.trans S77
    have F78 := F76.kp (Kp.of S77)
    refine fun a79 dx79 ha79 hd79 _ => useW (js := []) ha79 hd79 (.inl e77) (by show 0 ≤ 1000; decide) fun H79 S79 h79 => ?_
    replace G63 := G63.kp (Kp.of S79)
    replace e61 := S79 _ _ e61
    replace tot := tot.trans S79
    have F80 := F78.snoc S79 (t := .wish true []) (a := a79) h79 trivial
    refine ⟨by show 4 ≤ 1000; decide, fun p81 H81 hp81 S81 e81 => ?_⟩
    replace G63 := G63.kp (Kp.of S81)
    replace e61 := S81 _ _ e61
    replace tot := tot.trans S81
    have F82 := F80.kp (Kp.of S81)
    refine ⟨p61, p81, _, _, rfl, rfl, SqL.of e61, SqL.of e81, by rw [sizeLine_eq]; simp, fun p83 H83 hp83 S83 e83 => ?_⟩
    have F84 := (G63.app F82).kp (Kp.of S83)
    replace tot := tot.trans S83
    refine ⟨_, rfl, by show 2 ≤ 1000; decide, fun p85 H85 hp85 S85 e85 => ?_⟩
    replace e83 := S85 _ _ e83
    replace tot := tot.trans S85
    have F86 := F84.kp (Kp.of S85)
    refine ⟨_, rfl, by show 2 ≤ 1000; decide, fun p87 H87 hp87 S87 e87 => ?_⟩
    replace e83 := S87 _ _ e83
    replace e85 := S87 _ _ e85
    replace tot := tot.trans S87
    have F88 := F86.kp (Kp.of S87)
    refine fun a89 dx89 ha89 hd89 _ => useP ha89 hd89 (.inr e85) (.inr e87) (pk_xa _ _) fun H89 S89 h89 => ?_
    replace e83 := S89 _ _ e83
    replace tot := tot.trans S89
    have F90 := F88.kp (Kp.of S89)
    refine ⟨_, rfl, _, rfl, _, rfl, fun a91 dx91 ha91 hd91 _ => useS ha91 hd91 h89 fun H91 S91 h91 => ?_⟩
    replace e83 := S91 _ _ e83
    replace h89 := h89.kp (Kp.of S91)
    replace tot := tot.trans S91
    have F92 := F90.kp (Kp.of S91)
    have gs : SdAt K H91 a91 (sA (x : Nat) (y : Nat) "alike") := ⟨a89, h91, h89⟩
    refine ⟨_, rfl, ?_⟩
    have G93 := F92
    have F94 : ThsAt K H91 [] [] := ThsAt.nil
    refine ⟨_, rfl, ?_⟩
    have F95 := F94.snoc (Same.refl _) (t := .str (sA (x : Nat) (y : Nat) "alike")) (a := a91) gs (pk_xa _ _)
    refine ⟨_, rfl, _, rfl, _, rfl, fun a96 dx96 ha96 hd96 _ => useS ha96 hd96 h89 fun H96 S96 h96 => ?_⟩
    replace h89 := h89.kp (Kp.of S96)
    replace gs := gs.kp (Kp.of S96)
    replace G93 := G93.kp (Kp.of S96)
    replace e83 := S96 _ _ e83
    replace tot := tot.trans S96
    have F97 := F95.snoc S96 (t := .str (sA (x : Nat) (y : Nat) "open")) (a := a96) ⟨a89, h96, h89⟩ (pk_xa _ _)
    refine ⟨_, rfl, by show 1 ≤ 1000; decide, fun p98 H98 hp98 S98 e98 => ?_⟩
    replace h89 := h89.kp (Kp.of S98)
    replace gs := gs.kp (Kp.of S98)
    replace G93 := G93.kp (Kp.of S98)
    replace e83 := S98 _ _ e83
    replace tot := tot.trans S98
    have F99 := F97.kp (Kp.of S98)
    refine ⟨_, rfl, by show 1 ≤ 1000; decide, fun p100 H100 hp100 S100 e100 => ?_⟩
    replace h89 := h89.kp (Kp.of S100)
    replace gs := gs.kp (Kp.of S100)
    replace G93 := G93.kp (Kp.of S100)
    replace e83 := S100 _ _ e83
    replace e98 := S100 _ _ e98
    replace tot := tot.trans S100
    have F101 := F99.kp (Kp.of S100)
    have is102 : ∀ s ∈ [a91], ∃ dx fs, H100 s = some (.ins (CA K "Stretch") dx fs) := fun s hs => by
      obtain ⟨_, ⟨dz, z⟩, _⟩ := id gs
      exact (List.mem_singleton.mp hs) ▸ ⟨dz, _, z⟩
    refine fun a102 dx102 ha102 hd102 _ => useM (js := [((x : Nat) : Int)]) (ss := [a91]) ha102 hd102 (.inl e98) (.inl e100) (by show 1 ≤ 1000; decide) (by show 1 ≤ 1000; decide) is102 fun H102 S102 h102 => ?_
    replace h89 := h89.kp (Kp.of S102)
    replace gs := gs.kp (Kp.of S102)
    replace G93 := G93.kp (Kp.of S102)
    replace e83 := S102 _ _ e83
    replace tot := tot.trans S102
    have g102 : ThAt K H102 a102 (.mend [((x : Nat) : Int)] [sA (x : Nat) (y : Nat) "alike"]) := by
      obtain ⟨dz, t, u, k1, k2, k3⟩ := h102
      refine ⟨dz, t, u, [a91], k1, k2, k3, rfl, fun i b d hb hd => ?_⟩
      match i, hb, hd with
      | 0, hb, hd => cases hb; cases hd; exact gs
    have F103 := F101.snoc S102 (a := a102) g102 (fun d hd => (List.mem_singleton.mp hd) ▸ pk_xa _ _)
    refine ⟨by show 0 ≤ 1000; decide, fun p104 H104 hp104 S104 e104 => ?_⟩
    replace h89 := h89.kp (Kp.of S104)
    replace gs := gs.kp (Kp.of S104)
    replace G93 := G93.kp (Kp.of S104)
    replace e83 := S104 _ _ e83
    replace tot := tot.trans S104
    have F105 := F103.kp (Kp.of S104)
    refine ⟨by show 0 ≤ 1000; decide, fun p106 H106 hp106 S106 e106 => ?_⟩
    replace h89 := h89.kp (Kp.of S106)
    replace gs := gs.kp (Kp.of S106)
    replace G93 := G93.kp (Kp.of S106)
    replace e83 := S106 _ _ e83
    replace e104 := S106 _ _ e104
    replace tot := tot.trans S106
    have F107 := F105.kp (Kp.of S106)
    refine fun a108 dx108 ha108 hd108 _ => useM (js := []) (ss := []) ha108 hd108 (.inl e104) (.inl e106) (by decide) (by decide) (fun s hs => by cases hs) fun H108 S108 h108 => ?_
    replace h89 := h89.kp (Kp.of S108)
    replace gs := gs.kp (Kp.of S108)
    replace G93 := G93.kp (Kp.of S108)
    replace e83 := S108 _ _ e83
    replace tot := tot.trans S108
    have g108 : ThAt K H108 a108 (.mend [] []) := by
      obtain ⟨dz, t, u, k1, k2, k3⟩ := h108
      exact ⟨dz, t, u, [], k1, k2, k3, rfl, fun i b d hb hd => by simp at hb⟩
    have F109 := F107.snoc S108 (a := a108) g108 (fun d hd => by cases hd)
    refine ⟨by show 4 ≤ 1000; decide, fun p110 H110 hp110 S110 e110 => ?_⟩
    replace h89 := h89.kp (Kp.of S110)
    replace gs := gs.kp (Kp.of S110)
    replace G93 := G93.kp (Kp.of S110)
    replace e83 := S110 _ _ e83
    replace tot := tot.trans S110
    have F111 := F109.kp (Kp.of S110)
    refine ⟨p83, p110, _, _, rfl, rfl, SqL.of e83, SqL.of e110, by rw [sizeLine_eq]; simp, fun p112 H112 hp112 S112 e112 => ?_⟩
    have F113 := (G93.app F111).kp (Kp.of S112)
    replace h89 := h89.kp (Kp.of S112)
    replace gs := gs.kp (Kp.of S112)
    replace tot := tot.trans S112
    refine ⟨_, rfl, ?_⟩
    have G114 := F113
    have F115 : ThsAt K H112 [] [] := ThsAt.nil
    refine ⟨_, rfl, _, _, rfl, rfl, fun a116 dx116 ha116 hd116 _ => useFixed ha116 hd116 wx fx1 fun H116 S116 h116 => ?_⟩
    replace h89 := h89.kp (Kp.of S116)
    replace gs := gs.kp (Kp.of S116)
    replace G114 := G114.kp (Kp.of S116)
    replace e112 := S116 _ _ e112
    replace tot := tot.trans S116
    have F117 := F115.kp (Kp.of S116)
    refine ⟨by show 1 ≤ 1000; decide, fun p118 H118 hp118 S118 e118 => ?_⟩
    replace h89 := h89.kp (Kp.of S118)
    replace gs := gs.kp (Kp.of S118)
    replace G114 := G114.kp (Kp.of S118)
    replace e112 := S118 _ _ e112
    replace h116 := h116.kp (Kp.of S118)
    replace tot := tot.trans S118
    have F119 := F117.kp (Kp.of S118)
    refine ⟨by show 0 ≤ 1000; decide, fun p120 H120 hp120 S120 e120 => ?_⟩
    replace h89 := h89.kp (Kp.of S120)
    replace gs := gs.kp (Kp.of S120)
    replace G114 := G114.kp (Kp.of S120)
    replace e112 := S120 _ _ e112
    replace h116 := h116.kp (Kp.of S120)
    replace e118 := S120 _ _ e118
    replace tot := tot.trans S120
    have F121 := F119.kp (Kp.of S120)
    refine fun a122 dx122 ha122 hd122 _ => useL (ys := ([a116] : List Addr).map V.ref) (js := []) ha122 hd122 (.inl e118) (fsk_fix (ws := [((x : Nat) : Int) + 1]) rfl (fix1 h116)) (.inl e120) (by show 1 ≤ 1000; decide) rfl (js_jn (by decide)) fun H122 S122 h122 => ?_
    replace h89 := h89.kp (Kp.of S122)
    replace gs := gs.kp (Kp.of S122)
    replace G114 := G114.kp (Kp.of S122)
    replace e112 := S122 _ _ e112
    replace h116 := h116.kp (Kp.of S122)
    replace tot := tot.trans S122
    have F123 := F121.snoc S122 (t := .lay [((x : Nat) : Int) + 1] []) (a := a122) (lay_th h122 rfl (fix1 h116)) (js_menu _ (by decide)).1
    refine ⟨_, rfl, _, _, rfl, rfl, fun a124 dx124 ha124 hd124 _ => useFixed ha124 hd124 wx fx1 fun H124 S124 h124 => ?_⟩
    replace h89 := h89.kp (Kp.of S124)
    replace gs := gs.kp (Kp.of S124)
    replace G114 := G114.kp (Kp.of S124)
    replace e112 := S124 _ _ e112
    replace tot := tot.trans S124
    have F125 := F123.kp (Kp.of S124)
    refine ⟨_, rfl, _, _, rfl, rfl, fun a126 dx126 ha126 hd126 _ => useFixed ha126 hd126 wy fy1 fun H126 S126 h126 => ?_⟩
    replace h89 := h89.kp (Kp.of S126)
    replace gs := gs.kp (Kp.of S126)
    replace G114 := G114.kp (Kp.of S126)
    replace e112 := S126 _ _ e112
    replace h124 := h124.kp (Kp.of S126)
    replace tot := tot.trans S126
    have F127 := F125.kp (Kp.of S126)
    refine ⟨by show 2 ≤ 1000; decide, fun p128 H128 hp128 S128 e128 => ?_⟩
    replace h89 := h89.kp (Kp.of S128)
    replace gs := gs.kp (Kp.of S128)
    replace G114 := G114.kp (Kp.of S128)
    replace e112 := S128 _ _ e112
    replace h124 := h124.kp (Kp.of S128)
    replace h126 := h126.kp (Kp.of S128)
    replace tot := tot.trans S128
    have F129 := F127.kp (Kp.of S128)
    refine ⟨by show 1 ≤ 1000; decide, fun p130 H130 hp130 S130 e130 => ?_⟩
    replace h89 := h89.kp (Kp.of S130)
    replace gs := gs.kp (Kp.of S130)
    replace G114 := G114.kp (Kp.of S130)
    replace e112 := S130 _ _ e112
    replace h124 := h124.kp (Kp.of S130)
    replace h126 := h126.kp (Kp.of S130)
    replace e128 := S130 _ _ e128
    replace tot := tot.trans S130
    have F131 := F129.kp (Kp.of S130)
    refine fun a132 dx132 ha132 hd132 _ => useL (ys := ([a124, a126] : List Addr).map V.ref) (js := [""]) ha132 hd132 (.inl e128) (fsk_fix (ws := [((x : Nat) : Int) + 1, ((y : Nat) : Int) + 1]) rfl (fix2 h124 h126)) (.inl e130) (by show 2 ≤ 1000; decide) rfl (js_jn (by decide)) fun H132 S132 h132 => ?_
    replace h89 := h89.kp (Kp.of S132)
    replace gs := gs.kp (Kp.of S132)
    replace G114 := G114.kp (Kp.of S132)
    replace e112 := S132 _ _ e112
    replace h124 := h124.kp (Kp.of S132)
    replace h126 := h126.kp (Kp.of S132)
    replace tot := tot.trans S132
    have F133 := F131.snoc S132 (t := .lay [((x : Nat) : Int) + 1, ((y : Nat) : Int) + 1] [""]) (a := a132) (lay_th h132 rfl (fix2 h124 h126)) (js_menu _ (by decide)).1
    refine ⟨by show 2 ≤ 1000; decide, fun p134 H134 hp134 S134 e134 => ?_⟩
    replace h89 := h89.kp (Kp.of S134)
    replace gs := gs.kp (Kp.of S134)
    replace G114 := G114.kp (Kp.of S134)
    replace e112 := S134 _ _ e112
    replace tot := tot.trans S134
    have F135 := F133.kp (Kp.of S134)
    refine ⟨p112, p134, _, _, rfl, rfl, SqL.of e112, SqL.of e134, by rw [sizeLine_eq]; simp, fun p136 H136 hp136 S136 e136 => ?_⟩
    have F137 := (G114.app F135).kp (Kp.of S136)
    replace h89 := h89.kp (Kp.of S136)
    replace gs := gs.kp (Kp.of S136)
    replace tot := tot.trans S136
    refine ⟨_, rfl, ?_⟩
    have G138 := F137
    have F139 : ThsAt K H136 [] [] := ThsAt.nil
    refine ⟨_, rfl, _, _, rfl, rfl, fun a140 dx140 ha140 hd140 _ => useFixed ha140 hd140 wx fx1 fun H140 S140 h140 => ?_⟩
    replace h89 := h89.kp (Kp.of S140)
    replace gs := gs.kp (Kp.of S140)
    replace G138 := G138.kp (Kp.of S140)
    replace e136 := S140 _ _ e136
    replace tot := tot.trans S140
    have F141 := F139.kp (Kp.of S140)
    refine ⟨_, rfl, _, _, rfl, rfl, fun a142 dx142 ha142 hd142 _ => useFixed ha142 hd142 wy fy1 fun H142 S142 h142 => ?_⟩
    replace h89 := h89.kp (Kp.of S142)
    replace gs := gs.kp (Kp.of S142)
    replace G138 := G138.kp (Kp.of S142)
    replace e136 := S142 _ _ e136
    replace h140 := h140.kp (Kp.of S142)
    replace tot := tot.trans S142
    have F143 := F141.kp (Kp.of S142)
    refine ⟨by show 2 ≤ 1000; decide, fun p144 H144 hp144 S144 e144 => ?_⟩
    replace h89 := h89.kp (Kp.of S144)
    replace gs := gs.kp (Kp.of S144)
    replace G138 := G138.kp (Kp.of S144)
    replace e136 := S144 _ _ e136
    replace h140 := h140.kp (Kp.of S144)
    replace h142 := h142.kp (Kp.of S144)
    replace tot := tot.trans S144
    have F145 := F143.kp (Kp.of S144)
    refine ⟨by show 1 ≤ 1000; decide, fun p146 H146 hp146 S146 e146 => ?_⟩
    replace h89 := h89.kp (Kp.of S146)
    replace gs := gs.kp (Kp.of S146)
    replace G138 := G138.kp (Kp.of S146)
    replace e136 := S146 _ _ e136
    replace h140 := h140.kp (Kp.of S146)
    replace h142 := h142.kp (Kp.of S146)
    replace e144 := S146 _ _ e144
    replace tot := tot.trans S146
    have F147 := F145.kp (Kp.of S146)
    refine fun a148 dx148 ha148 hd148 _ => useL (ys := ([a140, a142] : List Addr).map V.ref) (js := ["!"]) ha148 hd148 (.inl e144) (fsk_fix (ws := [((x : Nat) : Int) + 1, ((y : Nat) : Int) + 1]) rfl (fix2 h140 h142)) (.inl e146) (by show 2 ≤ 1000; decide) rfl (js_jn (by decide)) fun H148 S148 h148 => ?_
    replace h89 := h89.kp (Kp.of S148)
    replace gs := gs.kp (Kp.of S148)
    replace G138 := G138.kp (Kp.of S148)
    replace e136 := S148 _ _ e136
    replace h140 := h140.kp (Kp.of S148)
    replace h142 := h142.kp (Kp.of S148)
    replace tot := tot.trans S148
    have F149 := F147.snoc S148 (t := .lay [((x : Nat) : Int) + 1, ((y : Nat) : Int) + 1] ["!"]) (a := a148) (lay_th h148 rfl (fix2 h140 h142)) (js_menu _ (by decide)).1
    refine ⟨by show 1 ≤ 1000; decide, fun p150 H150 hp150 S150 e150 => ?_⟩
    replace h89 := h89.kp (Kp.of S150)
    replace gs := gs.kp (Kp.of S150)
    replace G138 := G138.kp (Kp.of S150)
    replace e136 := S150 _ _ e136
    replace tot := tot.trans S150
    have F151 := F149.kp (Kp.of S150)
    refine ⟨p136, p150, _, _, rfl, rfl, SqL.of e136, SqL.of e150, by rw [sizeLine_eq]; simp, fun p152 H152 hp152 S152 e152 => ?_⟩
    have F153 := (G138.app F151).kp (Kp.of S152)
    replace h89 := h89.kp (Kp.of S152)
    replace gs := gs.kp (Kp.of S152)
    replace tot := tot.trans S152
    exact q p152 _ _ tot e152 F153

end
end L2.K07

set_option Elab.async false
set_option linter.all false
set_option maxRecDepth 100000
set_option maxHeartbeats 4000000
/-! The law: what it looks at. -/
namespace L2.K07
open PySem PySem.W PySem.Spec PySem.Calls PyProof.Rows L2.Jk
/-- everything that == needs, class by class -/
structure HQ (P : Program) (w : World) (K : Frag) (mg : Str → Option Value) (base : Heap) : Prop extends HT P w K mg base where
  eqq : ∀ i, i < 11 → EQT P w K mg base 4 i
/-- == of a thing and something -/
def rTh (K : Frag) : R2 := fun x y H Q => ∃ (a : Addr) (t : Th), x = .ref a ∧ ThAt K H a t ∧ t.Ok ∧
  ((∃ c z, y = .ref c ∧ ThAt K H c z ∧ z.Ok ∧ ∀ H', Same H H' → Q (.bl (eqT t z)) H') ∨ (∃ c xs, y = .ref c ∧ H c = some (.tup xs) ∧ Q (.bl false) H) ∨ (∃ n, y = .int n ∧ Q (.bl false) H))
theorem op_th {X : Cx} (G : HQ X.prog X.w X.K X.mg X.base) (hr : Room 4 X.A) (hx : Passes CX0 X (fun _ _ _ => False)) : OpR X (compareOp .Eq) (rTh X.K) := by
  intro pins s σ H x y v u Q I rx ry h
  obtain ⟨a, t, rfl, ha, ot, h⟩ := h
  obtain ⟨dx, fs, e⟩ := ha.ins
  obtain ⟨fd, F, B⟩ := (G.eqq t.ci t.ci_lt).ok
  obtain ⟨E1, E2⟩ := G.eqs t.ci t.ci_lt
  obtain ⟨N1, N2⟩ := G.nts t.ci t.ci_lt
  rcases h with ⟨c, z, rfl, hc, oz, q⟩ | ⟨c, xs, rfl, hc, q⟩ | ⟨n, rfl, q⟩
  · obtain ⟨dy, gs, e'⟩ := hc.ins
    exact op_eqO hx pins s σ H _ _ v u Q I rx ry ⟨a, _, dx, fs, _, rfl, e, E1, G.tys z.ci z.ci_lt e', G.nf _ _ t.ci_lt z.ci_lt, 4, fd, _, _, E2, F, hr, B, a, .ref c, t, rfl, ha, ot, rfl, .inl ⟨c, z, rfl, hc, oz, fun H' S => ⟨_, rfl, q H' S⟩⟩⟩
  · exact op_eqO hx pins s σ H _ _ v u Q I rx ry ⟨a, _, dx, fs, _, rfl, e, E1, .x (.base (.tup hc)), N1, 4, fd, _, _, E2, F, hr, B, a, .ref c, t, rfl, ha, ot, rfl, .inr (.inl ⟨c, xs, rfl, hc, _, rfl, q⟩)⟩
  · exact op_eqO hx pins s σ H _ _ v u Q I rx ry ⟨a, _, dx, fs, _, rfl, e, E1, .x (.base (.int n)), N2, 4, fd, _, _, E2, F, hr, B, a, .int n, t, rfl, ha, ot, rfl, .inr (.inr ⟨n, rfl, _, rfl, q⟩)⟩
theorem op_thK {X : Cx} {P : Program} {w : World} {K : Frag} {mg : Str → Option Value} {base : Heap} (G : HQ P w K mg base) (eP : X.prog = P) (ew : X.w = w) (eK : X.K = K) (em : X.mg = mg) (eb : X.base = base) (hr : Room 4 X.A) (hx : Passes CX0 X (fun _ _ _ => False)) : OpR X (compareOp .Eq) (rTh K) := by
  subst eP ew eK em eb
  exact op_th G hr hx
/-- != of two things -/
def rThN (K : Frag) : R2 := fun x y H Q => ∃ (a c : Addr) (t z : Th), x = .ref a ∧ y = .ref c ∧ ThAt K H a t ∧ t.Ok ∧ ThAt K H c z ∧ z.Ok ∧ ∀ H', Same H H' → Q (.bl (!eqT t z)) H'
theorem op_thN {X : Cx} (G : HQ X.prog X.w X.K X.mg X.base) (hr : Room 5 X.A) (hx : Passes CX0 X (fun _ _ _ => False)) : OpR X (compareOp .NotEq) (rThN X.K) := by
  intro pins s σ H x y v u Q I rx ry h
  obtain ⟨a, c, t, z, rfl, rfl, ha, ot, hc, oz, q⟩ := h
  obtain ⟨dx, fs, e⟩ := ha.ins
  obtain ⟨dy, gs, e'⟩ := hc.ins
  obtain ⟨fd, F, B⟩ := (G.eqq t.ci t.ci_lt).ok
  obtain ⟨E1, E2⟩ := G.eqs t.ci t.ci_lt
  exact op_neA hx pins s σ H _ _ v u Q I rx ry ⟨a, c, _, dx, fs, _, rfl, rfl, e, E1, G.tys z.ci z.ci_lt e', G.nf _ _ t.ci_lt z.ci_lt, 4, fd, _, _, E2, F, hr, B, a, .ref c, t, rfl, ha, ot, rfl, .inl ⟨c, z, rfl, hc, oz, fun H' S => ⟨_, rfl, q H' S⟩⟩⟩
theorem pg_tupK {X : Cx} {K : Frag} {es : List Expr} {k : Nat} {t : TGs} {n : Nat} {pos : Pos} (e : X.K = K) (hc : X.calm = true) (h : PGs X es t) (hn : (assignEach es X.env).length = n := by rfl) (hst : (assignEach es X.env).findIdx? (·.1) = none := by rfl) : PG X (.Tuple es k pos) (gTup K n t) := by
  subst e
  exact pg_tup hc h hn hst
def EXV : List V := [.int 2, .int 5, .int 6, .int 8, .int 9, .int 10, .int 15, .int 16, .int 18, .int 21, .int 22, .int 23]
def tAt (x y : Int) (i : Nat) : Th := (ths x y).getD i (.fixed 0)
def chk (x y : Nat) : Bool := (List.range 26).all fun i => decide (((List.range 26).filter fun k => eqT (tAt (x : Nat) (y : Nat) i) (tAt (x : Nat) (y : Nat) k)) = [i]) && (inV (.int (i : Nat)) EXV || !eqT (tAt (x : Nat) (y : Nat) i) (tAt (x : Nat) ((y : Nat) + 1) i))
theorem chk_ok : ∀ x, x < 4 → ∀ y, y < 8 → 4 ≤ y → chk x y = true := by decide +kernel
theorem things_ok (x : Nat) (hx : x < 4) (y : Nat) (hy : y < 8) (h4 : 4 ≤ y) (i : Nat) (hi : i < 26) : ((List.range 26).filter fun k => eqT (tAt (x : Nat) (y : Nat) i) (tAt (x : Nat) (y : Nat) k)) = [i] ∧ ((!inV (.int (i : Nat)) EXV) = true → eqT (tAt (x : Nat) (y : Nat) i) (tAt (x : Nat) ((y : Nat) + 1) i) = false) := by
  obtain ⟨h1, h2⟩ := Bool.and_eq_true_iff.mp (List.all_eq_true.mp (chk_ok x hx y hy h4) i (List.mem_range.mpr hi))
  refine ⟨of_decide_eq_true h1, fun h => ?_⟩
  cases z : inV (.int (i : Nat)) EXV with
  | true => rw [z] at h; cases h
  | false =>
    rw [z] at h2
    cases q : eqT (tAt (x : Nat) (y : Nat) i) (tAt (x : Nat) ((y : Nat) + 1) i) with
    | false => rfl
    | true => rw [q] at h2; cases h2
theorem ThsAt.at {K : Frag} {H : Hp} {vs : List V} {x y : Int} (h : ThsAt K H vs (ths x y)) {i : Nat} (hi : i < 26) : ∃ a, vs[i]? = some (.ref a) ∧ ThAt K H a (tAt x y i) ∧ (tAt x y i).Ok := by
  have l : vs.length = 26 := h.1
  have hv := List.getElem?_eq_getElem (l := vs) (i := i) (by omega)
  have ht := List.getElem?_eq_getElem (l := ths x y) (i := i) (by show i < 26; exact hi)
  obtain ⟨a, e, k, o⟩ := h.2 i _ _ hv ht
  have et : tAt x y i = (ths x y)[i]'(by show i < 26; exact hi) := getD_of ht
  exact ⟨a, by rw [hv, e], by rw [et]; exact k, by rw [et]; exact o⟩
/-- the same object twice -/
def DSame : Eqv := fun x y _ => ∃ a : Addr, x = .ref a ∧ y = .ref a
theorem mon_same : Mon DSame := fun _ _ _ _ _ d => d
theorem eqG_same {X : Cx} : EqG X 0 DSame := by
  intro A pins s σ H x y u v sb I rx ry d
  obtain ⟨a, rfl, rfl⟩ := d
  cases rx
  cases ry
  exact SeqAt.EqAt.same (A := A) (s := s) (.ref a) X.prog X.w X.xe _ ⟨rfl, H, I, Ext.rfl'⟩
/-- two things alike, of the class i -/
def TR (K : Frag) (i : Nat) (a b : Addr) (H : Hp) : Prop := ∃ t, t.ci = i ∧ ThAt K H a t ∧ ThAt K H b t ∧ t.Ok ∧ eqT t t = true
def DF (K : Frag) : Eqv := fun x y H => DIns (ca K 2) (TR K 2) x y H ∨ DIns (ca K 3) (TR K 3) x y H
theorem TR.ext {K : Frag} {i : Nat} {a b : Addr} {H H' : Hp} (e : Ext H H') : TR K i a b H → TR K i a b H'
  | ⟨t, h, x, y, o, z⟩ => ⟨t, h, x.kp (Kp.of e), y.kp (Kp.of e), o, z⟩
theorem mon_df (K : Frag) : Mon (DF K) := (mon_ins fun _ _ _ _ e r => r.ext e).or (mon_ins fun _ _ _ _ e r => r.ext e)
theorem df_i {X : Cx} {i : Nat} (hi : i < 11) (G : HQ X.prog X.w X.K X.mg X.base) (hx : Passes CX0 X (fun _ _ _ => False)) : EqG X 4 (DIns (ca X.K i) (TR X.K i)) := by
  obtain ⟨fd, F, B⟩ := (G.eqq i hi).ok
  obtain ⟨E1, E2⟩ := G.eqs i hi
  exact eqG_ins (CX := CX0) (F.imp fun vs H Q E h => (by
    obtain ⟨a, b, rfl, ⟨t, ti, x, y, o, z⟩, q⟩ := h
    exact ⟨a, .ref b, t, rfl, x, o, ti, .inl ⟨b, t, rfl, y, o, fun H' S => by rw [z]; exact q H' S⟩⟩)) E1.find E1.fn B hx
theorem df_eq {X : Cx} (G : HQ X.prog X.w X.K X.mg X.base) (hx : Passes CX0 X (fun _ _ _ => False)) : EqG X 4 (DF X.K) := (df_i (by decide) G hx).or (df_i (by decide) G hx)
theorem df_of {K : Frag} {H : Hp} {a b : Addr} {t : Th} (x : ThAt K H a t) (y : ThAt K H b t) (o : t.Ok) (z : eqT t t = true) (h : t.ci = 2 ∨ t.ci = 3) : DF K (.ref a) (.ref b) H := by
  obtain ⟨dx, fs, e⟩ := x.ins
  obtain ⟨dy, gs, e'⟩ := y.ins
  rcases h with h | h
  · rw [h] at e e'
    exact .inl ⟨a, b, dx, dy, fs, gs, rfl, rfl, e, e', t, h, x, y, o, z⟩
  · rw [h] at e e'
    exact .inr ⟨a, b, dx, dy, fs, gs, rfl, rfl, e, e', t, h, x, y, o, z⟩
def DC : Eqv := fun x y H => DFlat x y H ∨ DSame x y H
theorem mon_dc : Mon DC := mon_flat.or mon_same
theorem dc_eq {X : Cx} : EqG X 0 DC := eqG_flat.or eqG_same
def DD (K : Frag) : Eqv := DTup K DC
theorem mon_dd (K : Frag) : Mon (DD K) := mon_tup mon_dc
theorem dd_eq {X : Cx} : EqG X 1 (DD X.K) := eqG_tup mon_dc dc_eq
theorem dc_int {H : Hp} (i : Int) : DC (.int i) (.int i) H := .inl ⟨rfl, rfl, by simp [eqV]⟩
theorem dc_str {H : Hp} (z : Str) : DC (.str z) (.str z) H := .inl ⟨rfl, rfl, by simp [eqV]⟩
/-- what stands behind the changes to what was handed in -/
structure Left (K : Frag) (H : Hp) (x y : Nat) (ly pr li wi st me : Addr) : Prop where
  fly : ∃ f l, LyAt K H ly [.ref f, .ref l] ["~"] ∧ ThAt K H f (.fixed 2) ∧ ThAt K H l (.listed ["a"])
  fpr : PAt K H pr [.int (x : Nat), .str "a"] [.int (y : Nat), .str "a"]
  fli : ThAt K H li (.listed ["a", "b"])
  fwi : WAt K H wi true [(x : Nat), (y : Nat)]
  fst : SAt K H st "crossed" 0 1 pr
  fme : MAt K H me [(x : Nat), (y : Nat)] [st]
theorem Left.kp {K : Frag} {H H' : Hp} {x y : Nat} {ly pr li wi st me : Addr} (k : Kp H H') (h : Left K H x y ly pr li wi st me) : Left K H' x y ly pr li wi st me := by
  obtain ⟨⟨f, l, a, b, c⟩, d, e, g, i, j⟩ := h
  exact ⟨⟨f, l, a.kp k, b.kp k, c.kp k⟩, d.kp k, e.kp k, g.kp k, i.kp k, j.kp k⟩
theorem str_menu : (PyData.str "a").canLay0 = true ∧ (PyData.str "~").canLay0 = true ∧ (PyData.str "b").canLay0 = true := by decide +kernel
def datP (x y : Int) : PyData := .tuple [.tuple [.int x, .str "a"], .tuple [.int y, .str "a"]]
def datW (x y : Int) : PyData := .tuple [.bool true, .tuple [.int x, .int y]]
theorem sh_P (x y : Int) : SeqAt.shaped (datP x y) = true := by
  refine Bool.and_eq_true_iff.mpr ⟨?_, decide_eq_true (show max (max 0 (max 0 0) + 1) (max (max 0 (max 0 0) + 1) 0) + 1 ≤ 64 by decide)⟩
  show ((true && ((PyData.str "a").canLay0 && true)) && ((true && ((PyData.str "a").canLay0 && true)) && true)) = true
  rw [str_menu.1]
  rfl
theorem sh_W (x y : Int) : SeqAt.shaped (datW x y) = true := rfl
theorem sh_j : SeqAt.shaped (.tuple [.str "~"]) = true ∧ SeqAt.shaped (.tuple [.str "a", .str "b"]) = true := by decide +kernel
def spLaw (K : Frag) : Sp := fun vs H Q _ => ∃ (a : Addr) (ns : List Int), vs = [.ref a] ∧ SqL K H a (ns.map V.int) ∧ ns.length ≤ 63 ∧ ∀ H', Q (.bl true) H'
structure HG (P : Program) (w : World) (K : Frag) (mg : Str → Option Value) (base : Heap) : Prop extends HQ P w K mg base where
  law_state : FnAt P w K mg base CX0 1 "_law_state" ["_law_source"] spState
  law_digit : FnAt P w K mg base CX0 1 "_law_digit" ["_law_state_here", "_law_base"] spDigit
  law_things : FnAt P w K mg base CX0 7 "_law_things" ["_law_x", "_law_y"] (spThs K)
  bare : FnAt P w K mg base CX0 5 "bare_layout" ["fields"] (spBare K)
theorem cut_int {ns : List Int} {i : Nat} {x : V} (h : (cutV (ns.map V.int ++ [.int 0]) none (some 3))[i]? = some x) : ∃ n, x = .int n := by
  have m : x ∈ ns.map V.int ++ [.int 0] := List.mem_of_mem_drop (List.mem_of_mem_take (List.mem_of_getElem? h))
  rcases List.mem_append.mp m with m | m
  · obtain ⟨n, _, rfl⟩ := List.mem_map.mp m
    exact ⟨n, rfl⟩
  · exact ⟨0, List.mem_singleton.mp m⟩
section
variable {P : Program} {w : World} {K : Frag} {mg : Str → Option Value} {base : Heap} {f : Addr} {fd : FuncData}

abbrev s_law : Stmt := top 44
theorem sc_law : FnScope ["_law_script", "_law_cell", "_law_s", "_law_x", "_law_y", "_law_one", "_law_two", "_law_three", "_law_at", "_law_thing", "_law_k", "_law_other", "_law_some", "_law_joints", "_law_rows", "_law_texts", "_law_scans", "_law_layout", "_law_pair", "_law_listed", "_law_wish", "_law_stretch", "_law_stretches", "_law_mend", "_law_handed"] ["_law_script"] (defScope s_law) := ⟨rfl, rfl, rfl, by decide +kernel, rfl, by decide +kernel, by decide +kernel⟩

theorem ok_law (F : FunD K "law" "law" (defArgs s_law) (defBody s_law) (defScope s_law) [] [] f fd) (G : HG P w K mg base) : FnOk P w K mg base CX0 8 f fd ["_law_script"] (spLaw K) := by
  refine F.ok (CX := CX0) sc_law (fun vs H Q E h => ?_) (fun cdv A outer s H vs Q E hr h => ?_)
  · obtain ⟨_, _, rfl, _⟩ := h
    rfl
  · refine ⟨_, PSs.nox (pss_cons (ps_for PassesOwn.never rfl (pi_list (pe_slice sl_listS (pe_op op_catS (pv 0) (pe_lstS (pa_cons pe_int pa_nil))) po_none (po_some pe_int))) (pg_name (i := 1) sc_law.nd rfl (Or.inl rfl))
      (pss_cons (ps_set (i := 2) sc_law.nd rfl (Or.inl rfl) (pe_fn G.law_state (hr.mono (by decide)) pass0 (by rfl) (pa_cons (pv 1) pa_nil)))
      (pss_cons (ps_par (i := 3) (j := 4) (by rfl) sc_law.nd rfl rfl (by decide) rfl rfl (pa_cons (pe_fn G.law_digit (hr.mono (by decide)) pass0 (by rfl) (pa_cons (pv 2) (pa_cons pe_int pa_nil))) (pa_cons (pe_op op_add pe_int (pe_fn G.law_digit (hr.mono (by decide)) pass0 (by rfl) (pa_cons (pv 2) (pa_cons pe_int pa_nil)))) pa_nil)) (by rfl))
      (C8.pss_cut (ps_par3 (i := 5) (j := 6) (l := 7) (by rfl) sc_law.nd rfl rfl rfl (by decide) (by decide) (by decide) rfl rfl rfl (pa_cons (pe_fn G.law_things hr pass0 (by rfl) (pa_cons (pv 3) (pa_cons (pv 4) pa_nil))) (pa_cons (pe_fn G.law_things hr pass0 (by rfl) (pa_cons (pv 3) (pa_cons (pv 4) pa_nil))) (pa_cons (pe_fn G.law_things hr pass0 (by rfl) (pa_cons (pv 3) (pa_cons (pe_op op_add (pv 4) pe_int) pa_nil))) pa_nil))) (by rfl))
      (C8.pss_cut (ps_for PassesOwn.never rfl (pi_enum (by rfl) G.enumerate (pa_cons (pv 5) pa_nil)) (pg_tup rfl (pgs_cons (pg_name (i := 8) sc_law.nd rfl (Or.inl rfl)) (pgs_cons (pg_name (i := 9) sc_law.nd rfl (Or.inr rfl)) pgs_nil)))
        (C8.pss_cut (ps_if (PW.pt (pw_or (pt_cmpR (op_neD hr.units) (pe_lc (own := [("_law_k", 10), ("_law_other", 11)]) (g := _) (tt := _) rfl sc_law.nd (pi_enum (by rfl) G.enumerate (pa_cons (pv 6) pa_nil)) (blkOk_by (N := ["_law_script", "_law_cell", "_law_s", "_law_x", "_law_y", "_law_one", "_law_two", "_law_three", "_law_at", "_law_thing", "_law_k", "_law_other", "_law_some", "_law_joints", "_law_rows", "_law_texts", "_law_scans", "_law_layout", "_law_pair", "_law_listed", "_law_wish", "_law_stretch", "_law_stretches", "_law_mend", "_law_handed"]) (sc := defScope s_law) (by decide +kernel)) (fun _ _ _ _ _ => pg_tupK (n := 2) (K := K) rfl rfl (pgs_cons (pg_name (i := 10) sc_law.nd rfl (Or.inl rfl)) (pgs_cons (pg_name (i := 11) sc_law.nd rfl (Or.inl rfl)) pgs_nil))) (fun _ _ _ _ _ => pts_one (pt_cmpR (op_thK G.toHQ rfl rfl rfl rfl rfl (hr.mono (by decide)) pass0) (pv 9) (pv 11) (nomark _))) (fun _ _ _ _ _ => (pv 10))) (pe_lstS (pa_cons (pv 8) pa_nil)) (nomark _)) (pw_or1 (pt_cmpR (op_thN G.toHQ (hr.mono (by decide)) pass0) (pv 9) (pe_ix ix_list (pv 6) (pv 8) (fun _ _ => rfl)) (nomark _)))))
          (pss_one (ps_ret pe_bl))
          pss_nil)
        (C8.pss_cut (ps_if (PW.pt (pw_and (pt_cmpR op_notIn_seq (pv 8) (pe_tupS (pa_cons pe_int (pa_cons pe_int (pa_cons pe_int (pa_cons pe_int (pa_cons pe_int (pa_cons pe_int (pa_cons pe_int (pa_cons pe_int (pa_cons pe_int (pa_cons pe_int (pa_cons pe_int (pa_cons pe_int pa_nil))))))))))))) (by rfl)) (pw_and1 (pt_cmpR (op_th G.toHQ (hr.mono (by decide)) pass0) (pv 9) (pe_ix ix_list (pv 7) (pv 8) (fun _ _ => rfl)) (nomark _)))))
          (pss_one (ps_ret pe_bl))
          pss_nil)
        (pss_one (ps_if (PW.pt (pw_or (pt_cmpR (op_th G.toHQ (hr.mono (by decide)) pass0) (pv 9) (pv 3) (nomark _)) (pw_or (pt_cmpR (op_th G.toHQ (hr.mono (by decide)) pass0) (pv 9) (pe_tupS (pa_cons (pv 3) (pa_cons (pv 4) pa_nil))) (nomark _)) (pw_or1 (pt_cmpR op_isN (pv 9) pe_non (nomark _))))))
          (pss_one (ps_ret pe_bl))
          pss_nil)))))
      (pss_cons (ps_par3 (i := 12) (j := 13) (l := 14) (by rfl) sc_law.nd rfl rfl rfl (by decide) (by decide) (by decide) rfl rfl rfl (pa_cons (pe_lstS (pa_cons (pe_newS G.kFixed (hr.mono (by decide)) (fun σ => passAt takes0 σ) (by rfl) (pa_cons pe_int pa_nil)) (pa_cons (pe_newS G.kListed (hr.mono (by decide)) (fun σ => passAt takes0 σ) (by rfl) (pa_cons (pe_lstS (pa_cons pe_str pa_nil)) pa_nil)) pa_nil))) (pa_cons (pe_lstS (pa_cons pe_str pa_nil)) (pa_cons (pe_lstS (pa_cons (pe_lstS (pa_cons (pv 3) (pa_cons pe_str pa_nil))) (pa_cons (pe_lstS (pa_cons (pv 4) (pa_cons pe_str pa_nil))) pa_nil))) pa_nil))) (by rfl))
      (pss_cons (ps_par (i := 15) (j := 16) (by rfl) sc_law.nd rfl rfl (by decide) rfl rfl (pa_cons (pe_lstS (pa_cons pe_str (pa_cons pe_str pa_nil))) (pa_cons (pe_lstS (pa_cons (pv 3) (pa_cons (pv 4) pa_nil))) pa_nil)) (by rfl))
      (C8.pss_cut (ps_asg (pe_tupS (pa_cons (pe_newS (E := fun _ => E0) G.nLay (hr.mono (by decide)) (fun σ => fun _ _ _ _ _ _ h => h.elim) (by rfl) (pa_cons (pv 12) (pa_cons (pv 13) pa_nil))) (pa_cons (pe_newS (E := fun _ => E0) G.nPair (hr.mono (by decide)) (fun σ => fun _ _ _ _ _ _ h => h.elim) (by rfl) (pa_cons (pe_ix ix_list (pv 14) pe_int (fun _ _ => rfl)) (pa_cons (pe_ix ix_list (pv 14) pe_int (fun _ _ => rfl)) pa_nil))) (pa_cons (pe_newS G.kListed (hr.mono (by decide)) (fun σ => passAt takes0 σ) (by rfl) (pa_cons (pv 15) pa_nil)) (pa_cons (pe_newS (E := fun _ => E0) G.nWish (hr.mono (by decide)) (fun σ => fun _ _ _ _ _ _ h => h.elim) (by rfl) (pa_cons pe_bl (pa_cons (pv 16) pa_nil))) pa_nil))))) (pg_tup rfl (pgs_cons (pg_name (i := 17) sc_law.nd rfl (Or.inl rfl)) (pgs_cons (pg_name (i := 18) sc_law.nd rfl (Or.inl rfl)) (pgs_cons (pg_name (i := 19) sc_law.nd rfl (Or.inl rfl)) (pgs_cons (pg_name (i := 20) sc_law.nd rfl (Or.inl rfl)) pgs_nil))))))
      (pss_cons (ps_set (i := 21) sc_law.nd rfl (Or.inl rfl) (pe_newS (E := fun _ => E0) G.nStr (hr.mono (by decide)) (fun σ => fun _ _ _ _ _ _ h => h.elim) (by rfl) (pa_cons pe_str (pa_cons pe_int (pa_cons pe_int (pa_cons (pv 18) pa_nil))))))
      (pss_cons (ps_set (i := 22) sc_law.nd rfl (Or.inl rfl) (pe_lstS (pa_cons (pv 21) pa_nil)))
      (pss_cons (ps_set (i := 23) sc_law.nd rfl (Or.inl rfl) (pe_newS (E := fun _ => E0) G.nMend (hr.mono (by decide)) (fun σ => fun _ _ _ _ _ _ h => h.elim) (by rfl) (pa_cons (pv 16) (pa_cons (pv 22) pa_nil))))
      (C8.pss_cut (ps_for PassesOwn.never rfl (pi_tup (pe_tupS (pa_cons (pv 12) (pa_cons (pv 13) (pa_cons (pe_ix ix_list (pv 14) pe_int (fun _ _ => rfl)) (pa_cons (pe_ix ix_list (pv 14) pe_int (fun _ _ => rfl)) (pa_cons (pv 15) (pa_cons (pv 16) (pa_cons (pv 22) pa_nil))))))))) (pg_name (i := 24) sc_law.nd rfl (Or.inl rfl))
        (pss_one (ps_expr (pe_bm PySem.F.plainAttrs_list PySem.F.slot_list_append PySem.F.type_list_append mt_append (pv 24) (pa_cons pe_int pa_nil)))))
      (C8.pss_cut (ps_if (PW.pt (pw_or (pt_cmpR (op_neT (mon_df K) (df_eq G.toHQ pass0) (hr.mono (by decide))) (pe_fld (pv 17) rfl) (pe_tupS (pa_cons (pe_newS G.kFixed (hr.mono (by decide)) (fun σ => passAt takes0 σ) (by rfl) (pa_cons pe_int pa_nil)) (pa_cons (pe_newS G.kListed (hr.mono (by decide)) (fun σ => passAt takes0 σ) (by rfl) (pa_cons (pe_lstS (pa_cons pe_str pa_nil)) pa_nil)) pa_nil))) (nomark _)) (pw_or (pt_cmpR (op_neD hr.units) (pe_fld (pv 17) rfl) (pe_tupS (pa_cons pe_str pa_nil)) (nomark _)) (pw_or1 (pt_cmpR (op_neD hr.units) (pe_fld (pv 19) rfl) (pe_tupS (pa_cons pe_str (pa_cons pe_str pa_nil))) (nomark _))))))
        (pss_one (ps_ret pe_bl))
        pss_nil)
      (C8.pss_cut (ps_if (PW.pt (pw_or (pt_cmpR (op_neD hr.units) (pe_tupS (pa_cons (pe_fld (pv 18) rfl) (pa_cons (pe_fld (pv 18) rfl) pa_nil))) (pe_tupS (pa_cons (pe_tupS (pa_cons (pv 3) (pa_cons pe_str pa_nil))) (pa_cons (pe_tupS (pa_cons (pv 4) (pa_cons pe_str pa_nil))) pa_nil))) (nomark _)) (pw_or1 (pt_cmpR (op_neD hr.units) (pe_tupS (pa_cons (pe_fld (pv 20) rfl) (pa_cons (pe_fld (pv 20) rfl) pa_nil))) (pe_tupS (pa_cons pe_bl (pa_cons (pe_tupS (pa_cons (pv 3) (pa_cons (pv 4) pa_nil))) pa_nil))) (nomark _)))))
        (pss_one (ps_ret pe_bl))
        pss_nil)
      (C8.pss_cut (ps_if (pt_cmpR (op_neT mon_dc dc_eq (hr.mono (by decide))) (pe_tupS (pa_cons (pe_fld (pv 21) rfl) (pa_cons (pe_fld (pv 21) rfl) (pa_cons (pe_fld (pv 21) rfl) (pa_cons (pe_fld (pv 21) rfl) pa_nil))))) (pe_tupS (pa_cons pe_str (pa_cons pe_int (pa_cons pe_int (pa_cons (pv 18) pa_nil))))) (nomark _))
        (pss_one (ps_ret pe_bl))
        pss_nil)
      (C8.pss_cut (ps_if (pt_cmpR (op_neT (mon_dd K) dd_eq (hr.mono (by decide))) (pe_tupS (pa_cons (pe_fld (pv 23) rfl) (pa_cons (pe_fld (pv 23) rfl) pa_nil))) (pe_tupS (pa_cons (pe_tupS (pa_cons (pv 3) (pa_cons (pv 4) pa_nil))) (pa_cons (pe_tupS (pa_cons (pv 21) pa_nil)) pa_nil))) (nomark _))
        (pss_one (ps_ret pe_bl))
        pss_nil)
      (pss_one (ps_if (pt_cmpR (op_thN G.toHQ (hr.mono (by decide)) pass0) (pe_fn G.bare (hr.mono (by decide)) pass0 (by rfl) (pa_cons (pe_lstS (pa_cons (pe_newS G.kFixed (hr.mono (by decide)) (fun σ => passAt takes0 σ) (by rfl) (pa_cons pe_int pa_nil)) (pa_cons (pe_newS G.kFixed (hr.mono (by decide)) (fun σ => passAt takes0 σ) (by rfl) (pa_cons pe_int pa_nil)) pa_nil))) pa_nil)) (pe_newS (E := fun _ => E0) G.nLay (hr.mono (by decide)) (fun σ => fun _ _ _ _ _ _ h => h.elim) (by rfl) (pa_cons (pe_tupS (pa_cons (pe_newS G.kFixed (hr.mono (by decide)) (fun σ => passAt takes0 σ) (by rfl) (pa_cons pe_int pa_nil)) (pa_cons (pe_newS G.kFixed (hr.mono (by decide)) (fun σ => passAt takes0 σ) (by rfl) (pa_cons pe_int pa_nil)) pa_nil))) (pa_cons (pe_tupS (pa_cons pe_str pa_nil)) pa_nil))) (nomark _))
        (pss_one (ps_ret pe_bl))
        pss_nil))))))))))))))))))
    (pss_one (ps_ret pe_bl))), ?_⟩
    obtain ⟨a, ns, rfl, hS, hl, q⟩ := h
    refine ⟨_, rfl, by show 1 ≤ 1000; decide, fun p0 H0 hp0 S0 e0 => ⟨a, p0, _, _, rfl, rfl, hS.ext S0, SqL.of e0, by rw [List.length_map, sizeLine_eq]; show ns.length + 1 ≤ 16777216; omega, fun p1 H1 hp1 S1 e1 => ?_⟩⟩
    refine ⟨_, rfl, p1, _, rfl, SqL.of e1, fun p2 H2 hp2 S2 e2 => ⟨p2, rfl, ⟨_, SqL.of e2⟩, ?_⟩⟩
    refine for_list (K := K) (a := p2) (xs := cutV (ns.map V.int ++ [.int 0]) none (some 3)) (fun i σ J => Same H2 J ∧ ∃ v1 v2 v3 v4 v5 v6 v7 v8 v9 v10 v11 v12 v13 v14 v15 v16 v17 v18 v19 v20 v21 v22 v23 v24, σ = [some (.ref a), v1, v2, v3, v4, v5, v6, v7, v8, v9, v10, v11, v12, v13, v14, v15, v16, v17, v18, v19, v20, v21, v22, v23, v24]) ⟨Same.refl _, _, _, _, _, _, _, _, _, _, _, _, _, _, _, _, _, _, _, _, _, _, _, _, _, rfl⟩ (fun i σ J _ ⟨S, _⟩ => SqL.of (S _ _ e2)) ?_ (fun σ J _ => q _)
    rintro i0 v σ J hx ⟨S, v1, v2, v3, v4, v5, v6, v7, v8, v9, v10, v11, v12, v13, v14, v15, v16, v17, v18, v19, v20, v21, v22, v23, v24, rfl⟩
    obtain ⟨n, rfl⟩ := cut_int hx
    refine ⟨_, rfl, n, rfl, fun s J1 hs SJ st => ?_⟩
    refine ⟨_, rfl, s, 4, rfl, st, by decide, by decide, fun d1 J2 a1 b1 B1 st1 => ?_⟩
    refine ⟨_, rfl, s, 4, rfl, st1, by decide, by decide, fun d2 J3 a2 b2 B2 st2 => ⟨_, _, rfl, rfl, _, _, rfl, ?_⟩⟩
    obtain ⟨x, rfl⟩ : ∃ x : Nat, d1 = (x : Nat) := ⟨d1.toNat, by omega⟩
    obtain ⟨y, ey⟩ : ∃ y : Nat, 4 + d2 = (y : Nat) := ⟨(4 + d2).toNat, by omega⟩
    have hs2 : H2 s = none := none_of S hs
    have S3 : Same H2 J3 := fun c o e => by
      have nc : c ≠ s := fun z => by rw [z, hs2] at e; cases e
      exact B2 _ _ nc (B1 _ _ nc (SJ _ _ (S _ _ e)))
    have hx4 : x < 4 := by omega
    have hy4 : 4 ≤ y := by omega
    have hy8 : y < 8 := by omega
    show _
    rw [show ((fun i j : Int => V.int (i + j)) 4 d2) = V.int (y : Nat) from congrArg V.int ey]
    -- the things, three times
    refine ⟨fun σ J => ∃ (x y : Nat) (o1 o2 o3 : Addr) (w1 w2 w3 : List V), x < 4 ∧ 4 ≤ y ∧ y < 8 ∧ J o1 = some (.lst w1) ∧ J o2 = some (.lst w2) ∧ J o3 = some (.lst w3) ∧ ThsAt K J w1 (ths (x : Nat) (y : Nat)) ∧ ThsAt K J w2 (ths (x : Nat) (y : Nat)) ∧ ThsAt K J w3 (ths (x : Nat) ((y : Nat) + 1)) ∧ Same H2 J ∧ ∃ v2 v8 v9 v10 v11 v12 v13 v14 v15 v16 v17 v18 v19 v20 v21 v22 v23 v24, σ = [some (.ref a), some (.int n), v2, some (.int (x : Nat)), some (.int (y : Nat)), some (.ref o1), some (.ref o2), some (.ref o3), v8, v9, v10, v11, v12, v13, v14, v15, v16, v17, v18, v19, v20, v21, v22, v23, v24], ?_, ?_⟩
    · refine ⟨_, rfl, _, rfl, x, y, rfl, hx4, hy4, by omega, fun o1 w1 J4 S4 e4 t4 => ?_⟩
      refine ⟨_, rfl, _, rfl, x, y, rfl, hx4, hy4, by omega, fun o2 w2 J5 S5 e5 t5 => ?_⟩
      refine ⟨_, rfl, _, rfl, _, _, rfl, rfl, x, y + 1, rfl, hx4, by omega, by omega, fun o3 w3 J6 S6 e6 t6 => ⟨_, _, _, rfl, ?_⟩⟩
      exact ⟨x, y, o1, o2, o3, w1, w2, w3, hx4, hy4, hy8, S6 _ _ (S5 _ _ e4), S6 _ _ e5, e6, t4.kp (Kp.of (S5.trans S6)), t5.kp (Kp.of S6), t6, ((S3.trans S4).trans S5).trans S6, _, _, _, _, _, _, _, _, _, _, _, _, _, _, _, _, _, _, rfl⟩
    clear S S3 SJ B1 B2 st st1 st2 hs hs2 a1 b1 a2 b2
    rintro σ J ⟨x, y, o1, o2, o3, w1, w2, w3, hx4, hy4, hy8, e1', e2', e3', t1, t2, t3, S, v2, v8, v9, v10, v11, v12, v13, v14, v15, v16, v17, v18, v19, v20, v21, v22, v23, v24, rfl⟩
    -- each one is equal to itself alone
    refine ⟨fun σ J => ∃ (x y : Nat), x < 4 ∧ 4 ≤ y ∧ y < 8 ∧ Same H2 J ∧ ∃ v2 v5 v6 v7 v8 v9 v10 v11 v12 v13 v14 v15 v16 v17 v18 v19 v20 v21 v22 v23 v24, σ = [some (.ref a), some (.int n), v2, some (.int (x : Nat)), some (.int (y : Nat)), v5, v6, v7, v8, v9, v10, v11, v12, v13, v14, v15, v16, v17, v18, v19, v20, v21, v22, v23, v24], ?_, ?_⟩
    · refine ⟨_, rfl, o1, w1, rfl, SqL.of e1', for_it (walk_enum (xs := w1)) (fun i σ J' => Same J J' ∧ ∃ v2 v8 v9 v10 v11 v12 v13 v14 v15 v16 v17 v18 v19 v20 v21 v22 v23 v24, σ = [some (.ref a), some (.int n), v2, some (.int (x : Nat)), some (.int (y : Nat)), some (.ref o1), some (.ref o2), some (.ref o3), v8, v9, v10, v11, v12, v13, v14, v15, v16, v17, v18, v19, v20, v21, v22, v23, v24]) ⟨Same.refl _, _, _, _, _, _, _, _, _, _, _, _, _, _, _, _, _, _, _, rfl⟩ (fun i σ J' _ ⟨S', _⟩ => SqL.of (S' _ _ e1')) ?_ ?_⟩
      · rintro i z σ J1 J2 hi ⟨R1, v2, v8, v9, v10, v11, v12, v13, v14, v15, v16, v17, v18, v19, v20, v21, v22, v23, v24, rfl⟩ ⟨tt, zi, zv, rfl, ht, rfl, ei, ev⟩
        cases ei
        have R2 : Same J1 (upd J1 tt (.tup [V.int (i : Nat), zv])) := same_upd ht
        have r2 : upd J1 tt (.tup [V.int (i : Nat), zv]) tt = some (.tup [V.int (i : Nat), zv]) := upd_same
        generalize upd J1 tt (.tup [V.int (i : Nat), zv]) = J2 at R2 r2 ⊢
        have R := R1.trans R2
        have hi26 : i < 26 := by rw [t1.1] at hi; exact hi
        obtain ⟨ai, evi, ki, oi⟩ := (t1.kp (Kp.of R)).at hi26
        rw [show w1[i]? = some zv from ev] at evi
        obtain rfl : zv = .ref ai := Option.some.inj evi
        obtain ⟨bi, evb, kb, ob⟩ := (t2.kp (Kp.of R)).at hi26
        obtain ⟨ci, evc, kc, oc⟩ := (t3.kp (Kp.of R)).at hi26
        obtain ⟨ok1, ok2⟩ := things_ok x hx4 y hy8 hy4 i hi26
        clear ev evi
        have eii : eqT (tAt (x : Nat) (y : Nat) i) (tAt (x : Nat) (y : Nat) i) = true := by
          have m : i ∈ (List.range 26).filter fun k => eqT (tAt (x : Nat) (y : Nat) i) (tAt (x : Nat) (y : Nat) k) := by rw [ok1]; exact List.mem_singleton_self i
          exact (List.mem_filter.mp m).2
        refine ⟨tt, _, rfl, SqT.of r2, rfl, _, _, rfl, _, _, rfl, rfl, ?_⟩
        refine ⟨fun σ J' => Same J2 J' ∧ ∃ v2 v10 v11 v12 v13 v14 v15 v16 v17 v18 v19 v20 v21 v22 v23 v24, σ = [some (.ref a), some (.int n), v2, some (.int (x : Nat)), some (.int (y : Nat)), some (.ref o1), some (.ref o2), some (.ref o3), some (.int (i : Nat)), some (.ref ai), v10, v11, v12, v13, v14, v15, v16, v17, v18, v19, v20, v21, v22, v23, v24], ?_, ?_⟩
        · refine ⟨_, rfl, o2, w2, rfl, SqL.of (R _ _ e2'), fun D hD => ?_⟩
          have t2' := t2.kp (Kp.of R)
          refine lc_it (walk_enum (xs := w2)) (fun k L => ∃ ks : List Nat, ks = ((List.range k).filter fun k => eqT (tAt (x : Nat) (y : Nat) i) (tAt (x : Nat) (y : Nat) k)) ∧ L D = some (.lst (ks.map fun k => V.int (k : Nat))) ∧ Same J2 L) ⟨[], rfl, upd_same, same_upd hD⟩ (fun k L _ ⟨_, _, _, S'⟩ => SqL.of (S' _ _ (R _ _ e2'))) ?_ ?_
          · rintro k z L L' hk ⟨ks, eks, eD, SL⟩ ⟨uu, zk, zw, rfl, hu, rfl, ek, ew⟩
            cases ek
            have hk26 : k < 26 := by rw [t2.1] at hk; exact hk
            have U2 : Same L (upd L uu (.tup [V.int (k : Nat), zw])) := same_upd hu
            have u2 : upd L uu (.tup [V.int (k : Nat), zw]) uu = some (.tup [V.int (k : Nat), zw]) := upd_same
            generalize upd L uu (.tup [V.int (k : Nat), zw]) = L' at U2 u2 ⊢
            have SL' := SL.trans U2
            obtain ⟨bk, evk, kk, okk⟩ := (t2'.kp (Kp.of SL')).at hk26
            rw [show w2[k]? = some zw from ew] at evk
            obtain rfl : zw = .ref bk := Option.some.inj evk
            refine ⟨uu, _, rfl, SqT.of u2, rfl, _, _, rfl, _, _, rfl, rfl, rfl, ?_⟩
            refine ⟨_, rfl, _, rfl, ai, _, rfl, ki.kp (Kp.of SL'), oi, .inl ⟨bk, _, rfl, kk, okk, fun L3 S3 => ⟨_, rfl, ?_⟩⟩⟩
            have lks : ks.length ≤ 26 := by
              rw [eks]
              have := List.length_filter_le (fun k => eqT (tAt (x : Nat) (y : Nat) i) (tAt (x : Nat) (y : Nat) k)) (List.range k)
              rw [List.length_range] at this
              omega
            refine ite2 (fun hc => ?_) (fun hc => ?_)
            · refine ⟨_, rfl, _, S3 _ _ (U2 _ _ eD), by rw [List.length_map, sizeLine_eq]; omega, ks ++ [k], ?_, by rw [upd_same, List.map_append]; rfl, same_put (SL'.trans S3) hD⟩
              rw [List.range_succ, List.filter_append, ← eks]
              simp [hc]
            · refine ⟨ks, ?_, S3 _ _ (U2 _ _ eD), SL'.trans S3⟩
              rw [List.range_succ, List.filter_append, ← eks]
              simp [hc]
          · rintro L ⟨ks, eks, eD, SL⟩
            rw [t2.1] at eks
            obtain rfl : ks = [i] := eks.trans ok1
            refine ⟨_, rfl, by show 1 ≤ 1000; decide, fun r L2 hr' S2' e2'' => ?_⟩
            have sh1 : SeqAt.shaped (.list [.int (i : Nat)]) = true := rfl
            refine ⟨.list [.int (i : Nat)], .list [.int (i : Nat)], .lst (SqL.of (S2' _ _ eD)) (.cons (.int _) .nil), .lst (SqL.of e2'') (.cons (.int _) .nil), sh1, sh1, _, rfl, ?_⟩
            rw [eqv_same sh1]
            have T := SL.trans S2'
            refine iteF ⟨_, rfl, _, rfl, _, rfl, o2, _, _, _, rfl, rfl, SqL.of (T _ _ (R _ _ e2')), atI_nat (j := i) evb, ai, bi, _, _, rfl, rfl, ki.kp (Kp.of T), oi, kb.kp (Kp.of T), ob, fun L3 S3 => ⟨_, rfl, ?_⟩⟩
            rw [eii]
            exact iteF ⟨T.trans S3, _, _, _, _, _, _, _, _, _, _, _, _, _, _, _, _, rfl⟩
        rintro σ J3 ⟨T, v2, v10, v11, v12, v13, v14, v15, v16, v17, v18, v19, v20, v21, v22, v23, v24, rfl⟩
        refine ⟨fun σ J' => Same J2 J' ∧ ∃ v2 v10 v11 v12 v13 v14 v15 v16 v17 v18 v19 v20 v21 v22 v23 v24, σ = [some (.ref a), some (.int n), v2, some (.int (x : Nat)), some (.int (y : Nat)), some (.ref o1), some (.ref o2), some (.ref o3), some (.int (i : Nat)), some (.ref ai), v10, v11, v12, v13, v14, v15, v16, v17, v18, v19, v20, v21, v22, v23, v24], ?_, ?_⟩
        · refine ⟨_, rfl, by show 12 ≤ 1000; decide, fun pt L hpt S1' ept => ⟨pt, _, rfl, .inr (SqT.of ept), rfl, rfl, _, rfl, ?_⟩⟩
          have T1 := T.trans S1'
          refine ite2 (fun hc => ?_) (fun hc => ?_)
          · have e0 := ok2 hc
            refine ⟨_, rfl, _, rfl, _, rfl, o3, _, _, _, rfl, rfl, SqL.of (T1 _ _ (R _ _ e3')), atI_nat (j := i) evc, ai, _, rfl, ki.kp (Kp.of T1), oi, .inl ⟨ci, _, rfl, kc.kp (Kp.of T1), oc, fun L3 S3 => ⟨_, rfl, ?_⟩⟩⟩
            rw [e0]
            exact iteF ⟨T1.trans S3, _, _, _, _, _, _, _, _, _, _, _, _, _, _, _, _, rfl⟩
          · exact ⟨T1, _, _, _, _, _, _, _, _, _, _, _, _, _, _, _, _, rfl⟩
        rintro σ J3 ⟨T, v2, v10, v11, v12, v13, v14, v15, v16, v17, v18, v19, v20, v21, v22, v23, v24, rfl⟩
        refine ⟨_, rfl, _, rfl, ai, _, rfl, ki.kp (Kp.of T), oi, .inr (.inr ⟨_, rfl, _, rfl, iteF ?_⟩)⟩
        refine ⟨_, rfl, _, rfl, _, rfl, by show 2 ≤ 1000; decide, fun pt L hpt S1' ept => ⟨ai, _, rfl, ki.kp (Kp.of (T.trans S1')), oi, .inr (.inl ⟨pt, _, rfl, ept, _, rfl, iteF ?_⟩)⟩⟩
        refine ⟨_, rfl, rfl, _, rfl, ?_⟩
        rw [decide_eq_false (show ¬ V.ref ai = V.non from fun z => by cases z)]
        refine iteF ?_
        exact ⟨R.trans (T.trans S1'), _, _, _, _, _, _, _, _, _, _, _, _, _, _, _, _, _, _, rfl⟩
      · rintro σ J' ⟨S', v2, v8, v9, v10, v11, v12, v13, v14, v15, v16, v17, v18, v19, v20, v21, v22, v23, v24, rfl⟩
        exact ⟨x, y, hx4, hy4, hy8, S.trans S', _, _, _, _, _, _, _, _, _, _, _, _, _, _, _, _, _, _, _, _, _, rfl⟩
    clear S e1' e2' e3' t1 t2 t3
    rintro σ J ⟨x, y, hx4, hy4, hy8, S, v2, v5, v6, v7, v8, v9, v10, v11, v12, v13, v14, v15, v16, v17, v18, v19, v20, v21, v22, v23, v24, rfl⟩
    have w2 : V.int 2 ∈ wM := ⟨2, rfl, by decide, by decide⟩
    have w2d : wDue (.int 2) = none := by decide +kernel
    have w3 : V.int 3 ∈ wM := ⟨3, rfl, by decide, by decide⟩
    have w3d : wDue (.int 3) = none := by decide +kernel
    have ta : (["a"] : List Str) ∈ LT := by decide
    have tab : (["a", "b"] : List Str) ∈ LT := by decide
    have jt : ∀ j ∈ (["~"] : List Str), j ∈ JN := by decide
    -- what is handed in
    refine fun f dxf h1f h2f _ => useFixed h1f h2f w2 w2d fun J1 S1 hF => ?_
    refine ⟨by show 1 ≤ 1000; decide, fun q1 J2 hq1 S2' eq1 => fun l dxl h1l h2l _ => useListed (xs := (["a"] : List Str).map V.str) h1l h2l (list_in ta) eq1 (list_menu _ ta).1 fun J3 S3 hLi => ?_⟩
    refine ⟨by show 2 ≤ 1000; decide, fun so J4 hso S4 eso => ?_⟩
    refine ⟨by show 1 ≤ 1000; decide, fun jo J5 hjo S5 ejo => ?_⟩
    refine ⟨_, rfl, by show 2 ≤ 1000; decide, fun r0 J6 hr0 S6 er0 => ⟨_, rfl, by show 2 ≤ 1000; decide, fun r1 J7 hr1 S7 er1 => ⟨by show 2 ≤ 1000; decide, fun ro J8 hro S8 ero => ⟨_, _, _, rfl, ?_⟩⟩⟩⟩
    refine ⟨by show 2 ≤ 1000; decide, fun te J9 hte S9 ete => ⟨_, rfl, _, rfl, by show 2 ≤ 1000; decide, fun sc J10 hsc S10 esc => ⟨_, _, rfl, ?_⟩⟩⟩
    have A1 : Same H2 J1 := S.trans S1
    have A3 : Same H2 J3 := (A1.trans S2').trans S3
    have A4 := A3.trans S4
    have A5 := A4.trans S5
    have A6 := A5.trans S6
    have A7 := A6.trans S7
    have A8 := A7.trans S8
    have A9 := A8.trans S9
    have A10 := A9.trans S10
    have C9 : Same J9 J10 := S10
    have C8' : Same J8 J10 := S9.trans C9
    have C7 : Same J7 J10 := S8.trans C8'
    have C6 : Same J6 J10 := S7.trans C7
    have C5 : Same J5 J10 := S6.trans C6
    have C4 : Same J4 J10 := S5.trans C5
    have C3 : Same J3 J10 := S4.trans C4
    have kf : FieldAt K J10 f (.fixed (.int 2)) := hF.kp (Kp.of ((S2'.trans S3).trans C3))
    have kl : FieldAt K J10 l (.listed (.lst ((["a"] : List Str).map V.str))) := hLi.kp (Kp.of C3)
    have hFs : FsK K J10 [.ref f, .ref l] := fun y hy => by
      rcases List.mem_cons.mp hy with e | hy
      · obtain ⟨dz, z⟩ := kf
        exact ⟨f, 2, dz, _, e, by decide, z⟩
      · obtain ⟨dz, t, z, _⟩ := kl
        exact ⟨l, 3, dz, _, List.mem_singleton.mp hy, by decide, z⟩
    refine ⟨fun σ J => ∃ (x y : Nat) (so jo ro te sc ly pr li wi r0 r1 : Addr), x < 4 ∧ 4 ≤ y ∧ y < 8 ∧ Same H2 J ∧ (∀ p ∈ [so, jo, r0, r1, te], ∃ zs, J p = some (.lst zs) ∧ zs.length ≤ 10 ∧ H2 p = none) ∧ J sc = some (.lst [.int (x : Nat), .int (y : Nat)]) ∧ H2 sc = none ∧ J ro = some (.lst [.ref r0, .ref r1]) ∧
      (∃ f l, LyAt K J ly [.ref f, .ref l] ["~"] ∧ ThAt K J f (.fixed 2) ∧ ThAt K J l (.listed ["a"])) ∧ PAt K J pr [.int (x : Nat), .str "a"] [.int (y : Nat), .str "a"] ∧ ThAt K J li (.listed ["a", "b"]) ∧ WAt K J wi true [(x : Nat), (y : Nat)] ∧ ∃ v2 v5 v6 v7 v8 v9 v10 v11 v21 v22 v23 v24, σ = [some (.ref a), some (.int n), v2, some (.int (x : Nat)), some (.int (y : Nat)), v5, v6, v7, v8, v9, v10, v11, some (.ref so), some (.ref jo), some (.ref ro), some (.ref te), some (.ref sc), some (.ref ly), some (.ref pr), some (.ref li), some (.ref wi), v21, v22, v23, v24], ?_, ?_⟩
    · refine ⟨_, rfl, _, rfl, fun ly dx1 h1 h2 _ => useL (ys := [.ref f, .ref l]) (js := ["~"]) h1 h2 (.inl (C4 _ _ eso)) hFs (.inl (C5 _ _ ejo)) (by show 2 ≤ 1000; decide) rfl jt fun J11 S11 hLy => ?_⟩
      refine ⟨_, rfl, ro, _, _, _, rfl, rfl, SqL.of (S11 _ _ (C8' _ _ ero)), atI_nat (j := 0) rfl, _, rfl, ro, _, _, _, rfl, rfl, SqL.of (S11 _ _ (C8' _ _ ero)), atI_nat (j := 1) rfl, fun pr dx2 h1 h2 _ => useP h1 h2 (.inl (S11 _ _ (C6 _ _ er0))) (.inl (S11 _ _ (C7 _ _ er1))) (pk_xa _ _) fun J12 S12 hP => ?_⟩
      have E12 := S11.trans S12
      refine ⟨_, rfl, fun li dx3 h1 h2 _ => useListed (xs := (["a", "b"] : List Str).map V.str) h1 h2 (list_in tab) (E12 _ _ (C9 _ _ ete)) (list_menu _ tab).1 fun J13 S13 hLi2 => ?_⟩
      have E13 := E12.trans S13
      refine ⟨_, rfl, fun wi dx4 h1 h2 _ => useW (js := [((x : Nat) : Int), ((y : Nat) : Int)]) h1 h2 (.inl (E13 _ _ esc)) (by show 2 ≤ 1000; decide) fun J14 S14 hW => ?_⟩
      refine ⟨by show 4 ≤ 1000; decide, fun tu J15 htu S15 etu => ⟨tu, _, rfl, SqT.of etu, rfl, _, _, rfl, _, _, rfl, _, _, rfl, _, _, rfl, rfl, ?_⟩⟩
      have E14 := E13.trans S14
      have E := E14.trans S15
      refine ⟨x, y, so, jo, ro, te, sc, ly, pr, li, wi, r0, r1, hx4, hy4, hy8, A10.trans E, fun p hp => ?_, E _ _ esc, none_of A9 hsc, E _ _ (C8' _ _ ero), ⟨f, l, hLy.kp (Kp.of (((S12.trans S13).trans S14).trans S15)), kf.kp (Kp.of E), kl.kp (Kp.of E)⟩, hP.kp (Kp.of ((S13.trans S14).trans S15)), ThAt.kp (x := .listed ["a", "b"]) (Kp.of (S14.trans S15)) hLi2, hW.kp (Kp.of S15), _, _, _, _, _, _, _, _, _, _, _, _, rfl⟩
      rcases List.mem_cons.mp hp with rfl | hp
      · exact ⟨_, E _ _ (C4 _ _ eso), by show 2 ≤ 10; decide, none_of A3 hso⟩
      rcases List.mem_cons.mp hp with rfl | hp
      · exact ⟨_, E _ _ (C5 _ _ ejo), by show 1 ≤ 10; decide, none_of A4 hjo⟩
      rcases List.mem_cons.mp hp with rfl | hp
      · exact ⟨_, E _ _ (C6 _ _ er0), by show 2 ≤ 10; decide, none_of A5 hr0⟩
      rcases List.mem_cons.mp hp with rfl | hp
      · exact ⟨_, E _ _ (C7 _ _ er1), by show 2 ≤ 10; decide, none_of A6 hr1⟩
      · cases List.mem_singleton.mp hp
        exact ⟨_, E _ _ (C9 _ _ ete), by show 2 ≤ 10; decide, none_of A8 hte⟩
    clear S A1 A3 A4 A5 A6 A7 A8 A9 A10 C3 C4 C5 C6 C7 C8' C9 kf kl hFs S1 S2' S3 S4 S5 S6 S7 S8 S9 S10 eso ejo er0 er1 ero ete esc hF hLi hso hjo hr0 hr1 hro hte hsc eq1 hq1
    rintro σ J ⟨x, y, so, jo, ro, te, sc, ly, pr, li, wi, r0, r1, hx4, hy4, hy8, S, hps, esc, nsc, ero, hly, hP, hli, hW, v2, v5, v6, v7, v8, v9, v10, v11, v21, v22, v23, v24, rfl⟩
    refine ⟨_, rfl, fun st dx1 h1 h2 _ => useS (k := "crossed") (l := 0) (h := 1) h1 h2 hP fun J1 S1 hS => ?_⟩
    refine ⟨_, rfl, by show 1 ≤ 1000; decide, fun ss J2 hss S2' ess => ?_⟩
    have is1 : ∀ s ∈ [st], ∃ dx fs, J2 s = some (.ins (CA K "Stretch") dx fs) := fun s hs => by
      obtain ⟨dz, z⟩ := hS.kp (Kp.of S2')
      exact (List.mem_singleton.mp hs) ▸ ⟨dz, _, z⟩
    refine ⟨_, rfl, _, rfl, fun me dx2 h1 h2 _ => useM (js := [((x : Nat) : Int), ((y : Nat) : Int)]) (ss := [st]) h1 h2 (.inl ((S1.trans S2') _ _ esc)) (.inl ess) (by show 2 ≤ 1000; decide) (by show 1 ≤ 1000; decide) is1 fun J3 S3 hM => ?_⟩
    have E := (S1.trans S2').trans S3
    have S3' := S.trans E
    have left : Left K J3 x y ly pr li wi st me := by
      obtain ⟨f, l, a1, a2, a3⟩ := hly
      exact ⟨⟨f, l, a1.kp (Kp.of E), a2.kp (Kp.of E), a3.kp (Kp.of E)⟩, hP.kp (Kp.of E), hli.kp (Kp.of E), hW.kp (Kp.of E), hS.kp (Kp.of (S2'.trans S3)), hM⟩
    have nss : H2 ss = none := none_of (S.trans S1) hss
    have hps7 : ∀ p ∈ [so, jo, r0, r1, te, sc, ss], ∃ zs, J3 p = some (.lst zs) ∧ zs.length ≤ 10 ∧ H2 p = none := fun p hp => by
      have g : ∀ p ∈ [so, jo, r0, r1, te], ∃ zs, J3 p = some (.lst zs) ∧ zs.length ≤ 10 ∧ H2 p = none := fun p hp => by
        obtain ⟨zs, e, l, n⟩ := hps p hp
        exact ⟨zs, E _ _ e, l, n⟩
      rcases List.mem_cons.mp hp with rfl | hp
      · exact g _ (List.mem_cons_self ..)
      rcases List.mem_cons.mp hp with rfl | hp
      · exact g _ (by simp)
      rcases List.mem_cons.mp hp with rfl | hp
      · exact g _ (by simp)
      rcases List.mem_cons.mp hp with rfl | hp
      · exact g _ (by simp)
      rcases List.mem_cons.mp hp with rfl | hp
      · exact g _ (by simp)
      rcases List.mem_cons.mp hp with rfl | hp
      · exact ⟨_, E _ _ esc, by show 2 ≤ 10; decide, nsc⟩
      · cases List.mem_singleton.mp hp
        exact ⟨_, S3 _ _ ess, by show 1 ≤ 10; decide, nss⟩
    have ero3 := E _ _ ero
    clear hly hP hli hW hS hM hps esc ero is1 S ess hss S1 S2' S3 E
    refine ⟨fun σ J => ∃ (x y : Nat) (ly pr li wi st me : Addr), x < 4 ∧ 4 ≤ y ∧ y < 8 ∧ Same H2 J ∧ Left K J x y ly pr li wi st me ∧ ∃ v2 v5 v6 v7 v8 v9 v10 v11 v12 v13 v14 v15 v16 v22 v24, σ = [some (.ref a), some (.int n), v2, some (.int (x : Nat)), some (.int (y : Nat)), v5, v6, v7, v8, v9, v10, v11, v12, v13, v14, v15, v16, some (.ref ly), some (.ref pr), some (.ref li), some (.ref wi), some (.ref st), v22, some (.ref me), v24], ?_, ?_⟩
    · refine ⟨_, rfl, _, rfl, _, rfl, ro, _, _, _, rfl, rfl, SqL.of ero3, atI_nat (j := 0) rfl, _, rfl, ro, _, _, _, rfl, rfl, SqL.of ero3, atI_nat (j := 1) rfl, _, rfl, _, rfl, _, rfl, by show 7 ≤ 1000; decide, fun tt J4 htt S4 ett => ⟨tt, rfl, ⟨_, SqT.of ett⟩, ?_⟩⟩
      refine for_tup (K := K) (a := tt) (xs := [.ref so, .ref jo, .ref r0, .ref r1, .ref te, .ref sc, .ref ss]) (fun i σ J => Same H2 J ∧ Left K J x y ly pr li wi st me ∧ J tt = some (.tup [.ref so, .ref jo, .ref r0, .ref r1, .ref te, .ref sc, .ref ss]) ∧ (∀ p ∈ [so, jo, r0, r1, te, sc, ss], ∃ zs, J p = some (.lst zs) ∧ zs.length ≤ 10 + i ∧ H2 p = none) ∧ ∃ v2 v5 v6 v7 v8 v9 v10 v11 v24, σ = [some (.ref a), some (.int n), v2, some (.int (x : Nat)), some (.int (y : Nat)), v5, v6, v7, v8, v9, v10, v11, some (.ref so), some (.ref jo), some (.ref ro), some (.ref te), some (.ref sc), some (.ref ly), some (.ref pr), some (.ref li), some (.ref wi), some (.ref st), some (.ref ss), some (.ref me), v24])
        ⟨S3'.trans S4, left.kp (Kp.of S4), ett, (fun p hp => by
          obtain ⟨zs, e, l, n⟩ := hps7 p hp
          exact ⟨zs, S4 _ _ e, l, n⟩), _, _, _, _, _, _, _, _, _, rfl⟩ (fun i σ J _ ⟨_, _, e, _⟩ => SqT.of e) ?_ ?_
      · rintro i v σ J5 hv ⟨S5, l5, e5, hp5, v2, v5, v6, v7, v8, v9, v10, v11, v24, rfl⟩
        have hi : i < 7 := (List.getElem?_eq_some_iff.mp hv).1
        obtain ⟨p, hp, rfl⟩ : ∃ p ∈ [so, jo, r0, r1, te, sc, ss], v = .ref p := by
          have m := List.mem_of_getElem? hv
          obtain ⟨p, hp, e⟩ := List.mem_map.mp (show v ∈ [so, jo, r0, r1, te, sc, ss].map V.ref from m)
          exact ⟨p, hp, e.symm⟩
        obtain ⟨zs, ez, lz, nz⟩ := hp5 p hp
        refine ⟨_, rfl, .inl ⟨rfl, _, SqL.of ez⟩, p, _, _, rfl, rfl, ez, by rw [sizeLine_eq]; omega, ?_⟩
        have kk : Kp J5 (upd J5 p (.lst (zs ++ [.int 7]))) := Kp.updL ez
        refine ⟨same_put S5 nz, l5.kp kk, kk _ _ trivial e5, fun r hr' => ?_, _, _, _, _, _, _, _, _, _, rfl⟩
        by_cases hc : r = p
        · subst hc
          exact ⟨_, upd_same, by rw [List.length_append]; show zs.length + 1 ≤ _; omega, nz⟩
        · obtain ⟨ys, ey, ly', ny⟩ := hp5 r hr'
          exact ⟨ys, by rw [upd_ne hc]; exact ey, by omega, ny⟩
      · rintro σ J5 ⟨S5, l5, _, _, v2, v5, v6, v7, v8, v9, v10, v11, v24, rfl⟩
        exact ⟨x, y, ly, pr, li, wi, st, me, hx4, hy4, hy8, S5, l5, _, _, _, _, _, _, _, _, _, _, _, _, _, _, _, rfl⟩
    clear left hps7 ero3 S3' nss
    have open4 : True := trivial
    rintro σ J ⟨x, y, ly, pr, li, wi, st, me, hx4, hy4, hy8, S, left, v2, v5, v6, v7, v8, v9, v10, v11, v12, v13, v14, v15, v16, v22, v24, rfl⟩
    refine ⟨fun σ J => ∃ (x y : Nat) (ly pr li wi st me : Addr), x < 4 ∧ 4 ≤ y ∧ y < 8 ∧ Same H2 J ∧ Left K J x y ly pr li wi st me ∧ ∃ v2 v5 v6 v7 v8 v9 v10 v11 v12 v13 v14 v15 v16 v22 v24, σ = [some (.ref a), some (.int n), v2, some (.int (x : Nat)), some (.int (y : Nat)), v5, v6, v7, v8, v9, v10, v11, v12, v13, v14, v15, v16, some (.ref ly), some (.ref pr), some (.ref li), some (.ref wi), some (.ref st), v22, some (.ref me), v24], ?_, ?_⟩
    · obtain ⟨⟨f, l, ⟨dly, t, u, aly, at_, au⟩, kf, kl⟩, ⟨dpr, tp, up, apr, atp, aup⟩, kli, ⟨dwi, tw, awi, atw⟩, ⟨dst, ast⟩, ⟨dme, tm, um, ame, atm, aum⟩⟩ := id left
      obtain ⟨dli, tl, ali, ztl⟩ := id kli
      refine ⟨_, rfl, ly, _, _, _, _, rfl, aly, G.cLayout.cl, G.cLayout.no _ (by decide +kernel), lLayout_fields, fun f2 dxf2 h1f2 h2f2 _ => useFixed h1f2 h2f2 w2 w2d fun J1 S1 hF => ?_⟩
      refine ⟨by show 1 ≤ 1000; decide, fun q1 J2 hq1 S2' eq1 => fun l2 dxl h1l h2l _ => useListed (xs := (["a"] : List Str).map V.str) h1l h2l (list_in ta) eq1 (list_menu _ ta).1 fun J3 S3 hL2 => ?_⟩
      refine ⟨by show 2 ≤ 1000; decide, fun tt J4 htt S4 ett => ?_⟩
      have E3 := (S1.trans S2').trans S3
      have E4 := E3.trans S4
      refine ⟨⟨t, tt, _, _, rfl, rfl, SqT.of (E4 _ _ at_), SqT.of ett, Prs.cons (df_of (t := .fixed 2) (kf.kp (Kp.of E4)) (FieldAt.kp (Kp.of ((S2'.trans S3).trans S4)) hF) trivial (by decide +kernel) (.inl rfl)) (Prs.cons (df_of (t := .listed ["a"]) (kl.kp (Kp.of E4)) (FieldAt.kp (Kp.of S4) hL2) (list_menu _ ta).2.1 (by decide +kernel) (.inr rfl)) Prs.nil)⟩, fun J5 S5 => ⟨_, rfl, iteF ?_⟩⟩
      have E5 := E4.trans S5
      refine ⟨_, rfl, ly, _, _, _, _, rfl, E5 _ _ aly, G.cLayout.cl, G.cLayout.no _ (by decide +kernel), lLayout_joints, by show 1 ≤ 1000; decide, fun t2 J6 ht2 S6 e6 => ?_⟩
      refine ⟨.tuple [.str "~"], .tuple [.str "~"], .tup (SqT.of (S6 _ _ (E5 _ _ au))) (.cons (.str _) .nil), .tup (SqT.of e6) (.cons (.str _) .nil), sh_j.1, sh_j.1, _, rfl, ?_⟩
      rw [eqv_same sh_j.1]
      have E6 := E5.trans S6
      refine iteF ⟨_, rfl, li, _, _, _, _, rfl, E6 _ _ ali, G.dListed.cl, G.dListed.no _ (by decide +kernel), lListed_texts, by show 2 ≤ 1000; decide, fun t3 J7 ht3 S7 e7 => ?_⟩
      have E7 := E6.trans S7
      refine ⟨.tuple [.str "a", .str "b"], .tuple [.str "a", .str "b"], .tup (ztl.same E7).sq (.cons (.str _) (.cons (.str _) .nil)), .tup (SqT.of e7) (.cons (.str _) (.cons (.str _) .nil)), sh_j.2, sh_j.2, _, rfl, ?_⟩
      rw [eqv_same sh_j.2]
      refine iteF ?_
      exact ⟨x, y, ly, pr, li, wi, st, me, hx4, hy4, hy8, S.trans E7, left.kp (Kp.of E7), _, _, _, _, _, _, _, _, _, _, _, _, _, _, _, rfl⟩
    rintro σ J ⟨x, y, ly, pr, li, wi, st, me, hx4, hy4, hy8, S, left, v2, v5, v6, v7, v8, v9, v10, v11, v12, v13, v14, v15, v16, v22, v24, rfl⟩
    refine ⟨fun σ J => ∃ (x y : Nat) (ly pr li wi st me : Addr), x < 4 ∧ 4 ≤ y ∧ y < 8 ∧ Same H2 J ∧ Left K J x y ly pr li wi st me ∧ ∃ v2 v5 v6 v7 v8 v9 v10 v11 v12 v13 v14 v15 v16 v22 v24, σ = [some (.ref a), some (.int n), v2, some (.int (x : Nat)), some (.int (y : Nat)), v5, v6, v7, v8, v9, v10, v11, v12, v13, v14, v15, v16, some (.ref ly), some (.ref pr), some (.ref li), some (.ref wi), some (.ref st), v22, some (.ref me), v24], ?_, ?_⟩
    · obtain ⟨⟨f, l, ⟨dly, t, u, aly, at_, au⟩, kf, kl⟩, ⟨dpr, tp, up, apr, atp, aup⟩, kli, ⟨dwi, tw, awi, atw⟩, ⟨dst, ast⟩, ⟨dme, tm, um, ame, atm, aum⟩⟩ := id left
      refine ⟨_, rfl, pr, _, _, _, _, rfl, apr, G.cPair.cl, G.cPair.no _ (by decide +kernel), lPair_one, _, rfl, pr, _, _, _, _, rfl, apr, G.cPair.cl, G.cPair.no _ (by decide +kernel), lPair_other, by show 2 ≤ 1000; decide, fun t1 J1 ht1 S1 e1' => ?_⟩
      refine ⟨_, rfl, by show 2 ≤ 1000; decide, fun u1 J2 hu1 S2' eu1 => ⟨_, rfl, by show 2 ≤ 1000; decide, fun u2 J3 hu2 S3 eu2 => ⟨by show 2 ≤ 1000; decide, fun u3 J4 hu3 S4 eu3 => ?_⟩⟩⟩
      have E4 := ((S1.trans S2').trans S3).trans S4
      refine ⟨datP (x : Nat) (y : Nat), datP (x : Nat) (y : Nat), ?_, ?_, sh_P _ _, sh_P _ _, _, rfl, ?_⟩
      · exact .tup (SqT.of (((S2'.trans S3).trans S4) _ _ e1')) (.cons (.tup (SqT.of (E4 _ _ atp)) (.cons (.int _) (.cons (.str _) .nil))) (.cons (.tup (SqT.of (E4 _ _ aup)) (.cons (.int _) (.cons (.str _) .nil))) .nil))
      · exact .tup (SqT.of eu3) (.cons (.tup (SqT.of ((S3.trans S4) _ _ eu1)) (.cons (.int _) (.cons (.str _) .nil))) (.cons (.tup (SqT.of (S4 _ _ eu2)) (.cons (.int _) (.cons (.str _) .nil))) .nil))
      rw [eqv_same (sh_P _ _)]
      refine iteF ⟨_, rfl, wi, _, _, _, _, rfl, E4 _ _ awi, G.cWish.cl, G.cWish.no _ (by decide +kernel), lWish_order, _, rfl, wi, _, _, _, _, rfl, E4 _ _ awi, G.cWish.cl, G.cWish.no _ (by decide +kernel), lWish_scans, by show 2 ≤ 1000; decide, fun t5 J5 ht5 S5 e5 => ?_⟩
      refine ⟨_, rfl, _, rfl, by show 2 ≤ 1000; decide, fun u6 J6 hu6 S6 e6 => ⟨by show 2 ≤ 1000; decide, fun u7 J7 hu7 S7 e7 => ?_⟩⟩
      have E5 := E4.trans S5
      have E7 := (E5.trans S6).trans S7
      refine ⟨datW (x : Nat) (y : Nat), datW (x : Nat) (y : Nat), ?_, ?_, sh_W _ _, sh_W _ _, _, rfl, ?_⟩
      · exact .tup (SqT.of ((S6.trans S7) _ _ e5)) (.cons (.bl _) (.cons (.tup (SqT.of (E7 _ _ atw)) (.cons (.int _) (.cons (.int _) .nil))) .nil))
      · exact .tup (SqT.of e7) (.cons (.bl _) (.cons (.tup (SqT.of (S7 _ _ e6)) (.cons (.int _) (.cons (.int _) .nil))) .nil))
      rw [eqv_same (sh_W _ _)]
      refine iteF ?_
      exact ⟨x, y, ly, pr, li, wi, st, me, hx4, hy4, hy8, S.trans E7, left.kp (Kp.of E7), _, _, _, _, _, _, _, _, _, _, _, _, _, _, _, rfl⟩
    rintro σ J ⟨x, y, ly, pr, li, wi, st, me, hx4, hy4, hy8, S, left, v2, v5, v6, v7, v8, v9, v10, v11, v12, v13, v14, v15, v16, v22, v24, rfl⟩
    refine ⟨fun σ J => ∃ (x y : Nat) (ly pr li wi st me : Addr), x < 4 ∧ 4 ≤ y ∧ y < 8 ∧ Same H2 J ∧ Left K J x y ly pr li wi st me ∧ ∃ v2 v5 v6 v7 v8 v9 v10 v11 v12 v13 v14 v15 v16 v22 v24, σ = [some (.ref a), some (.int n), v2, some (.int (x : Nat)), some (.int (y : Nat)), v5, v6, v7, v8, v9, v10, v11, v12, v13, v14, v15, v16, some (.ref ly), some (.ref pr), some (.ref li), some (.ref wi), some (.ref st), v22, some (.ref me), v24], ?_, ?_⟩
    · obtain ⟨⟨f, l, ⟨dly, t, u, aly, at_, au⟩, kf, kl⟩, ⟨dpr, tp, up, apr, atp, aup⟩, kli, ⟨dwi, tw, awi, atw⟩, ⟨dst, ast⟩, ⟨dme, tm, um, ame, atm, aum⟩⟩ := id left
      refine ⟨_, rfl, st, _, _, _, _, rfl, ast, G.cStretch.cl, G.cStretch.no _ (by decide +kernel), lStretch_kind, _, rfl, st, _, _, _, _, rfl, ast, G.cStretch.cl, G.cStretch.no _ (by decide +kernel), lStretch_first, _, rfl, st, _, _, _, _, rfl, ast, G.cStretch.cl, G.cStretch.no _ (by decide +kernel), lStretch_last, _, rfl, st, _, _, _, _, rfl, ast, G.cStretch.cl, G.cStretch.no _ (by decide +kernel), lStretch_pair, by show 4 ≤ 1000; decide, fun t1 J1 ht1 S1 e1' => ?_⟩
      refine ⟨_, rfl, by show 4 ≤ 1000; decide, fun t2 J2 ht2 S2' e2' => ?_⟩
      refine ⟨⟨t1, t2, _, _, rfl, rfl, SqT.of (S2' _ _ e1'), SqT.of e2', Prs.cons (dc_str _) (Prs.cons (dc_int _) (Prs.cons (dc_int _) (Prs.cons (.inr ⟨pr, rfl, rfl⟩) Prs.nil)))⟩, fun J3 S3 => ⟨_, rfl, iteF ?_⟩⟩
      have E7 := (S1.trans S2').trans S3
      exact ⟨x, y, ly, pr, li, wi, st, me, hx4, hy4, hy8, S.trans E7, left.kp (Kp.of E7), _, _, _, _, _, _, _, _, _, _, _, _, _, _, _, rfl⟩
    rintro σ J ⟨x, y, ly, pr, li, wi, st, me, hx4, hy4, hy8, S, left, v2, v5, v6, v7, v8, v9, v10, v11, v12, v13, v14, v15, v16, v22, v24, rfl⟩
    refine ⟨fun σ J => ∃ (x y : Nat) (ly pr li wi st me : Addr), x < 4 ∧ 4 ≤ y ∧ y < 8 ∧ Same H2 J ∧ Left K J x y ly pr li wi st me ∧ ∃ v2 v5 v6 v7 v8 v9 v10 v11 v12 v13 v14 v15 v16 v22 v24, σ = [some (.ref a), some (.int n), v2, some (.int (x : Nat)), some (.int (y : Nat)), v5, v6, v7, v8, v9, v10, v11, v12, v13, v14, v15, v16, some (.ref ly), some (.ref pr), some (.ref li), some (.ref wi), some (.ref st), v22, some (.ref me), v24], ?_, ?_⟩
    · obtain ⟨⟨f, l, ⟨dly, t, u, aly, at_, au⟩, kf, kl⟩, ⟨dpr, tp, up, apr, atp, aup⟩, kli, ⟨dwi, tw, awi, atw⟩, ⟨dst, ast⟩, ⟨dme, tm, um, ame, atm, aum⟩⟩ := id left
      refine ⟨_, rfl, me, _, _, _, _, rfl, ame, G.cMend.cl, G.cMend.no _ (by decide +kernel), lMend_joints, _, rfl, me, _, _, _, _, rfl, ame, G.cMend.cl, G.cMend.no _ (by decide +kernel), lMend_stretches, by show 2 ≤ 1000; decide, fun t1 J1 ht1 S1 e1' => ?_⟩
      refine ⟨_, rfl, _, rfl, by show 2 ≤ 1000; decide, fun u1 J2 hu1 S2' eu1 => ⟨_, rfl, by show 1 ≤ 1000; decide, fun u2 J3 hu2 S3 eu2 => ⟨by show 2 ≤ 1000; decide, fun u3 J4 hu3 S4 eu3 => ?_⟩⟩⟩
      have E4 := ((S1.trans S2').trans S3).trans S4
      refine ⟨⟨t1, u3, _, _, rfl, rfl, SqT.of (((S2'.trans S3).trans S4) _ _ e1'), SqT.of eu3, Prs.cons ⟨tm, u1, _, _, rfl, rfl, SqT.of (E4 _ _ atm), SqT.of ((S3.trans S4) _ _ eu1), Prs.cons (dc_int _) (Prs.cons (dc_int _) Prs.nil)⟩ (Prs.cons ⟨um, u2, _, _, rfl, rfl, SqT.of (E4 _ _ aum), SqT.of (S4 _ _ eu2), Prs.cons (.inr ⟨st, rfl, rfl⟩) Prs.nil⟩ Prs.nil)⟩, fun J5 S5 => ⟨_, rfl, iteF ?_⟩⟩
      have E7 := E4.trans S5
      exact ⟨x, y, ly, pr, li, wi, st, me, hx4, hy4, hy8, S.trans E7, left.kp (Kp.of E7), _, _, _, _, _, _, _, _, _, _, _, _, _, _, _, rfl⟩
    rintro σ J ⟨x, y, ly, pr, li, wi, st, me, hx4, hy4, hy8, S, left, v2, v5, v6, v7, v8, v9, v10, v11, v12, v13, v14, v15, v16, v22, v24, rfl⟩
    refine fun f1 dxf1 h1f1 h2f1 _ => useFixed h1f1 h2f1 w2 w2d fun J1 S1 hF1 => ?_
    refine fun f2 dxf2 h1f2 h2f2 _ => useFixed h1f2 h2f2 w3 w3d fun J2 S2' hF2 => ?_
    refine ⟨by show 2 ≤ 1000; decide, fun p J3 hp S3 e3 => ⟨p, f1, f2, 2, 3, rfl, e3, hF1.kp (Kp.of (S2'.trans S3)), hF2.kp (Kp.of S3), fun L1 J4 S4 hL1 => ?_⟩⟩
    refine fun f3 dxf3 h1f3 h2f3 _ => useFixed h1f3 h2f3 w2 w2d fun J5 S5 hF3 => ?_
    refine fun f4 dxf4 h1f4 h2f4 _ => useFixed h1f4 h2f4 w3 w3d fun J6 S6 hF4 => ?_
    refine ⟨by show 2 ≤ 1000; decide, fun p' J7 hp' S7 e7 => ⟨by show 1 ≤ 1000; decide, fun p'' J8 hp'' S8 e8 => fun L2 dxL h1L h2L _ => useL (ys := ([f3, f4] : List Addr).map V.ref) (js := [""]) h1L h2L (.inr (S8 _ _ e7)) (fsk_fix (ws := [2, 3]) rfl (fix2 (hF3.kp (Kp.of ((S6.trans S7).trans S8))) (hF4.kp (Kp.of (S7.trans S8))))) (.inr e8) (by show 2 ≤ 1000; decide) rfl (js_jn (by decide)) fun J9 S9 hL2 => ?_⟩⟩
    have oL : (Th.lay [2, 3] [""]).Ok := (js_menu _ (by decide)).1
    have E49 := (((S5.trans S6).trans S7).trans S8).trans S9
    have hL2' : ThAt K J9 L2 (.lay [2, 3] [""]) := lay_th (as := [f3, f4]) hL2 rfl (fix2 (hF3.kp (Kp.of (((S6.trans S7).trans S8).trans S9))) (hF4.kp (Kp.of ((S7.trans S8).trans S9))))
    refine ⟨L1, L2, .lay [2, 3] [""], .lay [2, 3] [""], rfl, rfl, hL1.kp (Kp.of E49), oL, hL2', oL, fun J10 S10 => ⟨_, rfl, ?_⟩⟩
    rw [show eqT (.lay [2, 3] [""]) (.lay [2, 3] [""]) = true by decide +kernel]
    exact iteF ⟨S.trans ((((S1.trans S2').trans S3).trans S4).trans (E49.trans S10)), _, _, _, _, _, _, _, _, _, _, _, _, _, _, _, _, _, _, _, _, _, _, _, _, rfl⟩

end
end L2.K07

set_option Elab.async false
set_option linter.all false
set_option maxRecDepth 100000
set_option maxHeartbeats 4000000
namespace L2.K07
open PySem PySem.W PySem.Spec PySem.Calls PyProof.Rows L2.Jk

theorem EQT.up {P : Program} {w : World} {K : Frag} {mg : Str → Option Value} {base : Heap} {k n i : Nat} (h : EQT P w K mg base k i) (l : k ≤ n) : EQT P w K mg base n i :=
  ⟨h.ok.imp fun _ z => ⟨z.1.mono l, z.2⟩⟩

theorem facts {P : Program} {w : World} {K : Frag} {h : Heap} {mg : Str → Option Value} {base : Heap} (X : K.In h) (G : h.Ns mainGlobals mg) (c : He.SaysD fa fn K) (m : ex K = true) :
    HG P w K mg base := by
  obtain ⟨m, mC⟩ := Bool.and_eq_true_iff.mp m
  obtain ⟨m0, m1⟩ := Bool.and_eq_true_iff.mp m
  obtain ⟨z1, m0⟩ := Bool.and_eq_true_iff.mp m0
  obtain ⟨z2, m0⟩ := Bool.and_eq_true_iff.mp m0
  obtain ⟨z3, m0⟩ := Bool.and_eq_true_iff.mp m0
  obtain ⟨z4, m0⟩ := Bool.and_eq_true_iff.mp m0
  obtain ⟨z5, z6⟩ := Bool.and_eq_true_iff.mp m0
  have more : ∀ i, i < 6 → kitOne K (.type "NoneType") (.ref (ca K i)) = some false ∧ kitOne K (.type "str") (.ref (ca K i)) = some false ∧ kitOne K (.ref (ca K i)) (.type "str") = some false ∧ ∀ j, j < 6 → kitOne K (.ref (ca K i)) (.ref (ca K j)) = some (decide (i = j)) := fun i hi => by
    have y := List.all_eq_true.mp m1 i (List.mem_range.mpr hi)
    obtain ⟨y2, y⟩ := Bool.and_eq_true_iff.mp y
    obtain ⟨y3, y⟩ := Bool.and_eq_true_iff.mp y
    obtain ⟨y4, y5⟩ := Bool.and_eq_true_iff.mp y
    exact ⟨of_decide_eq_true y2, of_decide_eq_true y3, of_decide_eq_true y4, fun j hj => of_decide_eq_true (List.all_eq_true.mp y5 j (List.mem_range.mpr hj))⟩
  have kc : ∀ i, i < 11 → findIn K (.ref (ca K i)) "__class__" = some (some (.builtin "object.__class__")) ∧ mroIn K (ca K i) (.type "object") = some true ∧ notFirst K (ca K i) (.type "tuple") = true ∧ notFirst K (ca K i) (.type "int") = true ∧ EqcC K (ca K i) ∧ keepIn K (.ref (He.ma K (ca K i) "__eq__")) = true ∧
      kitOne K (.ref (ca K i)) (.type "list") = some false ∧ kitOne K (.ref (ca K i)) (.type "tuple") = some false ∧ ∀ j, j < 11 → notFirst K (ca K i) (.ref (ca K j)) = true ∧ (ca K i = ca K j ↔ i = j) := fun i hi => by
    have y := List.all_eq_true.mp mC i (List.mem_range.mpr hi)
    obtain ⟨y0, y⟩ := Bool.and_eq_true_iff.mp y
    obtain ⟨y6, y⟩ := Bool.and_eq_true_iff.mp y
    obtain ⟨y7, y8⟩ := Bool.and_eq_true_iff.mp y
    obtain ⟨y1, y0⟩ := Bool.and_eq_true_iff.mp y0
    obtain ⟨y2, y0⟩ := Bool.and_eq_true_iff.mp y0
    obtain ⟨y3, y0⟩ := Bool.and_eq_true_iff.mp y0
    obtain ⟨y4, y0⟩ := Bool.and_eq_true_iff.mp y0
    obtain ⟨y5, y9⟩ := Bool.and_eq_true_iff.mp y0
    exact ⟨He.eqO_ok y1, of_decide_eq_true y2, y3, y4, eqcB_ok y5, y9, of_decide_eq_true y6, of_decide_eq_true y7, fun j hj => by
      obtain ⟨u, v⟩ := Bool.and_eq_true_iff.mp (List.all_eq_true.mp y8 j (List.mem_range.mpr hj))
      exact ⟨u, of_decide_eq_true v⟩⟩
  have X0 := errB_ok z1
  obtain ⟨fdbi, Fbi⟩ := c.def_ 0 (d := ⟨("BadField", some "__init__"), "__init__", "BadField.__init__", defArgs (inClass (top 3) 0), defBody (inClass (top 3) 0), defScope (inClass (top 3) 0), [], []⟩) rfl
  obtain ⟨fdbt, Fbt⟩ := c.def_ 1 (d := ⟨("BadField", some "told"), "told", "BadField.told", defArgs (inClass (top 3) 1), defBody (inClass (top 3) 1), defScope (inClass (top 3) 1), [], []⟩) rfl
  have eb : ErrAt P w K mg base "BadField" (BF K) ["what"] "refused badfield" := ⟨He.glo_ok X G (c.fact 1 (f := .glo "BadField") rfl), X0, ⟨He.eqO_ok z2, of_decide_eq_true z3⟩, ⟨fdbi, FunD.bindsN (ps := ["self", "what"]) Fbi (fun _ _ _ _ _ _ us hl => match us, hl with | [_, _], _ => rfl), ok_init1 Fbi (⟨rfl, rfl, rfl, by decide +kernel, rfl, by decide +kernel, by decide +kernel⟩ : FnScope ["self", "what"] ["self", "what"] (defScope (inClass (top 3) 0))) X0 rfl rfl (by decide +kernel) (by decide +kernel)⟩,
    ⟨fdbt, FunD.bindsN (ps := ["self"]) Fbt (fun _ _ _ _ _ _ us hl => match us, hl with | [_], _ => rfl), Fbt.kp, ok_told Fbt (⟨rfl, rfl, rfl, by decide +kernel, rfl, by decide +kernel, by decide +kernel⟩ : FnScope ["self"] ["self"] (defScope (inClass (top 3) 1)))⟩⟩
  have g0 : G0 P w K mg base := ⟨⟨He.free_ok X G (c.fact 30 (f := .free "abs") rfl), He.free_ok X G (c.fact 31 (f := .free "int") rfl), He.free_ok X G (c.fact 32 (f := .free "bool") rfl), He.free_ok X G (c.fact 33 (f := .free "isinstance") rfl), He.free_ok X G (c.fact 34 (f := .free "range") rfl), He.free_ok X G (c.fact 35 (f := .free "len") rfl), He.free_ok X G (c.fact 36 (f := .free "set") rfl), He.free_ok X G (c.fact 37 (f := .free "type") rfl), He.free_ok X G (c.fact 38 (f := .free "str") rfl), He.free_ok X G (c.fact 39 (f := .free "reversed") rfl), He.free_ok X G (c.fact 40 (f := .free "tuple") rfl), He.free_ok X G (c.fact 41 (f := .free "list") rfl), He.free_ok X G (c.fact 42 (f := .free "any") rfl), He.free_ok X G (c.fact 43 (f := .free "all") rfl)⟩, He.str_ok X G (c.fact 45 (f := .str "SIGNS" SG) rfl), He.str_ok X G (c.fact 46 (f := .str "DIGITS" DG) rfl), eb⟩
  obtain ⟨fdf1, Ff1⟩ := c.def_ 29 (d := ⟨("is_made_of", none), "is_made_of", "is_made_of", defArgs (top 10), defBody (top 10), defScope (top 10), [], []⟩) rfl
  have Af1 : FnAt P w K mg base CX0 1 "is_made_of" ["text", "signs"] _ := ⟨_, fdf1, He.glo_ok X G (c.fact 13 (f := .glo "is_made_of") rfl), Ff1.kp, ok_made_of Ff1 g0, FunD.bindsN (ps := ["text", "signs"]) Ff1 (fun _ _ _ _ _ _ us hl => match us, hl with | [_, _], _ => rfl)⟩
  obtain ⟨fdf2, Ff2⟩ := c.def_ 30 (d := ⟨("is_sign", none), "is_sign", "is_sign", defArgs (top 11), defBody (top 11), defScope (top 11), [], []⟩) rfl
  have Af2 : FnAt P w K mg base CX0 1 "is_sign" ["thing"] _ := ⟨_, fdf2, He.glo_ok X G (c.fact 14 (f := .glo "is_sign") rfl), Ff2.kp, ok_is_sign Ff2 g0, FunD.bindsN (ps := ["thing"]) Ff2 (fun _ _ _ _ _ _ us hl => match us, hl with | [_], _ => rfl)⟩
  obtain ⟨fdf3, Ff3⟩ := c.def_ 32 (d := ⟨("is_number", none), "is_number", "is_number", defArgs (top 14), defBody (top 14), defScope (top 14), [], []⟩) rfl
  have Af3 : FnAt P w K mg base CX0 1 "is_number" ["thing"] _ := ⟨_, fdf3, He.glo_ok X G (c.fact 16 (f := .glo "is_number") rfl), Ff3.kp, ok_is_number Ff3 g0, FunD.bindsN (ps := ["thing"]) Ff3 (fun _ _ _ _ _ _ us hl => match us, hl with | [_], _ => rfl)⟩
  obtain ⟨fdf4, Ff4⟩ := c.def_ 33 (d := ⟨("digits_of", none), "digits_of", "digits_of", defArgs (top 15), defBody (top 15), defScope (top 15), [], []⟩) rfl
  have Af4 : FnAt P w K mg base CX0 1 "digits_of" ["number"] _ := ⟨_, fdf4, He.glo_ok X G (c.fact 17 (f := .glo "digits_of") rfl), Ff4.kp, ok_digits_of Ff4 g0, FunD.bindsN (ps := ["number"]) Ff4 (fun _ _ _ _ _ _ us hl => match us, hl with | [_], _ => rfl)⟩
  have g1 : G1 P w K mg base := ⟨g0, Af1, Af2, Af3, Af4⟩
  obtain ⟨fdf5, Ff5⟩ := c.def_ 31 (d := ⟨("are_signs", none), "are_signs", "are_signs", defArgs (top 12), defBody (top 12), defScope (top 12), [], []⟩) rfl
  have Af5 : FnAt P w K mg base CX0 2 "are_signs" ["thing"] _ := ⟨_, fdf5, He.glo_ok X G (c.fact 15 (f := .glo "are_signs") rfl), Ff5.kp, ok_are_signs Ff5 g1, FunD.bindsN (ps := ["thing"]) Ff5 (fun _ _ _ _ _ _ us hl => match us, hl with | [_], _ => rfl)⟩
  have g2 : G2 P w K mg base := ⟨g1, Af5⟩
  obtain ⟨fdf6, Ff6⟩ := c.def_ 34 (d := ⟨("check_signs", none), "check_signs", "check_signs", defArgs (top 17), defBody (top 17), defScope (top 17), [], []⟩) rfl
  have Af6 : FnAt P w K mg base (L2.CX P w) 3 "check_signs" ["signs"] _ := ⟨_, fdf6, He.glo_ok X G (c.fact 18 (f := .glo "check_signs") rfl), Ff6.kp, ok_check_signs Ff6 g2, FunD.bindsN (ps := ["signs"]) Ff6 (fun _ _ _ _ _ _ us hl => match us, hl with | [_], _ => rfl)⟩
  obtain ⟨fdf7, Ff7⟩ := c.def_ 35 (d := ⟨("check_span", none), "check_span", "check_span", defArgs (top 18), defBody (top 18), defScope (top 18), [], []⟩) rfl
  have Af7 : FnAt P w K mg base (L2.CX P w) 3 "check_span" ["least", "most"] _ := ⟨_, fdf7, He.glo_ok X G (c.fact 19 (f := .glo "check_span") rfl), Ff7.kp, ok_check_span Ff7 g2, FunD.bindsN (ps := ["least", "most"]) Ff7 (fun _ _ _ _ _ _ us hl => match us, hl with | [_, _], _ => rfl)⟩
  obtain ⟨fdf8, Ff8⟩ := c.def_ 36 (d := ⟨("has_words_with", none), "has_words_with", "has_words_with", defArgs (top 19), defBody (top 19), defScope (top 19), [], []⟩) rfl
  have Af8 : FnAt P w K mg base CX0 1 "has_words_with" ["field", "sign"] _ := ⟨_, fdf8, He.glo_ok X G (c.fact 20 (f := .glo "has_words_with") rfl), Ff8.kp, ok_has_words Ff8 g0, FunD.bindsN (ps := ["field", "sign"]) Ff8 (fun _ _ _ _ _ _ us hl => match us, hl with | [_, _], _ => rfl)⟩
  have cWord : C0 K mg "Word" ["signs", "least", "most"] := ⟨He.glo_ok X G (c.fact 2 (f := .glo "Word") rfl), He.cls_ok (c.fact 49 (f := .cls "Word") rfl), (fun f hf => by
    rcases List.mem_cons.mp hf with rfl | hf
    · exact He.noat_ok (c.fact 51 (f := .noat "Word" "signs") rfl)
    rcases List.mem_cons.mp hf with rfl | hf
    · exact He.noat_ok (c.fact 52 (f := .noat "Word" "least") rfl)
    rcases List.mem_cons.mp hf with rfl | hf
    · exact He.noat_ok (c.fact 53 (f := .noat "Word" "most") rfl)
    cases hf)⟩
  have cNumber : C0 K mg "Number" ["least", "most"] := ⟨He.glo_ok X G (c.fact 3 (f := .glo "Number") rfl), He.cls_ok (c.fact 55 (f := .cls "Number") rfl), (fun f hf => by
    rcases List.mem_cons.mp hf with rfl | hf
    · exact He.noat_ok (c.fact 57 (f := .noat "Number" "least") rfl)
    rcases List.mem_cons.mp hf with rfl | hf
    · exact He.noat_ok (c.fact 58 (f := .noat "Number" "most") rfl)
    cases hf)⟩
  have cFixed : C0 K mg "Fixed" ["width"] := ⟨He.glo_ok X G (c.fact 4 (f := .glo "Fixed") rfl), He.cls_ok (c.fact 60 (f := .cls "Fixed") rfl), (fun f hf => by
    rcases List.mem_cons.mp hf with rfl | hf
    · exact He.noat_ok (c.fact 62 (f := .noat "Fixed" "width") rfl)
    cases hf)⟩
  have cListed : C0 K mg "Listed" ["texts"] := ⟨He.glo_ok X G (c.fact 5 (f := .glo "Listed") rfl), He.cls_ok (c.fact 64 (f := .cls "Listed") rfl), (fun f hf => by
    rcases List.mem_cons.mp hf with rfl | hf
    · exact He.noat_ok (c.fact 66 (f := .noat "Listed" "texts") rfl)
    cases hf)⟩
  have cEnded : C0 K mg "Ended" ["signs", "sign", "least", "most"] := ⟨He.glo_ok X G (c.fact 6 (f := .glo "Ended") rfl), He.cls_ok (c.fact 68 (f := .cls "Ended") rfl), (fun f hf => by
    rcases List.mem_cons.mp hf with rfl | hf
    · exact He.noat_ok (c.fact 70 (f := .noat "Ended" "signs") rfl)
    rcases List.mem_cons.mp hf with rfl | hf
    · exact He.noat_ok (c.fact 71 (f := .noat "Ended" "sign") rfl)
    rcases List.mem_cons.mp hf with rfl | hf
    · exact He.noat_ok (c.fact 72 (f := .noat "Ended" "least") rfl)
    rcases List.mem_cons.mp hf with rfl | hf
    · exact He.noat_ok (c.fact 73 (f := .noat "Ended" "most") rfl)
    cases hf)⟩
  have cMarked : C0 K mg "Marked" ["none", "mark", "field"] := ⟨He.glo_ok X G (c.fact 7 (f := .glo "Marked") rfl), He.cls_ok (c.fact 75 (f := .cls "Marked") rfl), (fun f hf => by
    rcases List.mem_cons.mp hf with rfl | hf
    · exact He.noat_ok (c.fact 77 (f := .noat "Marked" "none") rfl)
    rcases List.mem_cons.mp hf with rfl | hf
    · exact He.noat_ok (c.fact 78 (f := .noat "Marked" "mark") rfl)
    rcases List.mem_cons.mp hf with rfl | hf
    · exact He.noat_ok (c.fact 79 (f := .noat "Marked" "field") rfl)
    cases hf)⟩
  have g3 : G3 P w K mg base := ⟨g2, Af6, Af7, Af8, cWord, cNumber, cFixed, cListed, cEnded, cMarked⟩
  have g4 : G4 P w K mg base := ⟨g3, fun i hi => (have k := kc i (by omega); ⟨k.1, k.2.1, k.2.2.1, k.2.2.2.2.1, k.2.2.2.2.2.1⟩), He.eqO_ok z5, of_decide_eq_true z6, fun i j hi hj => (more i hi).2.2.2 j hj, fun j hj => (more j hj).1, fun j hj => (more j hj).2.1⟩
  obtain ⟨fdhWord, FhWord⟩ := c.def_ 4 (d := ⟨("Word", some "has_sign"), "has_sign", "Word.has_sign", defArgs (inClass (top 20) 7), defBody (inClass (top 20) 7), defScope (inClass (top 20) 7), [], []⟩) rfl
  obtain ⟨fdeWord, FeWord⟩ := c.def_ 3 (d := ⟨("Word", some "__eq__"), "__eq__", "Word.__eq__", defArgs (inClass (top 20) 1), defBody (inClass (top 20) 1), defScope (inClass (top 20) 1), [], []⟩) rfl
  have hWord : HM P w K mg base 2 (ca K 0) "has_sign" ["self", "sign"] (spHasWord K) := ⟨He.meth_ok (c.fact 54 (f := .meth "Word" "has_sign") rfl), fdhWord, ok_Word_has FhWord g3, FunD.bindsN (ps := ["self", "sign"]) FhWord (fun _ _ _ _ _ _ us hl => match us, hl with | [_, _], _ => rfl)⟩
  have eWord : EQ P w K mg base (ca K 0) (spEqWord K) := ⟨fdeWord, ok_Word_eq FeWord g4, FunD.bindsN (ps := ["self", "other"]) FeWord (fun _ _ _ _ _ _ us hl => match us, hl with | [_, _], _ => rfl)⟩
  obtain ⟨fdhNumber, FhNumber⟩ := c.def_ 7 (d := ⟨("Number", some "has_sign"), "has_sign", "Number.has_sign", defArgs (inClass (top 21) 7), defBody (inClass (top 21) 7), defScope (inClass (top 21) 7), [], []⟩) rfl
  obtain ⟨fdeNumber, FeNumber⟩ := c.def_ 6 (d := ⟨("Number", some "__eq__"), "__eq__", "Number.__eq__", defArgs (inClass (top 21) 1), defBody (inClass (top 21) 1), defScope (inClass (top 21) 1), [], []⟩) rfl
  have hNumber : HM P w K mg base 2 (ca K 1) "has_sign" ["self", "sign"] (spHasNumber K) := ⟨He.meth_ok (c.fact 59 (f := .meth "Number" "has_sign") rfl), fdhNumber, ok_Number_has FhNumber g3, FunD.bindsN (ps := ["self", "sign"]) FhNumber (fun _ _ _ _ _ _ us hl => match us, hl with | [_, _], _ => rfl)⟩
  have eNumber : EQ P w K mg base (ca K 1) (spEqNumber K) := ⟨fdeNumber, ok_Number_eq FeNumber g4, FunD.bindsN (ps := ["self", "other"]) FeNumber (fun _ _ _ _ _ _ us hl => match us, hl with | [_, _], _ => rfl)⟩
  obtain ⟨fdhFixed, FhFixed⟩ := c.def_ 10 (d := ⟨("Fixed", some "has_sign"), "has_sign", "Fixed.has_sign", defArgs (inClass (top 22) 7), defBody (inClass (top 22) 7), defScope (inClass (top 22) 7), [], []⟩) rfl
  obtain ⟨fdeFixed, FeFixed⟩ := c.def_ 9 (d := ⟨("Fixed", some "__eq__"), "__eq__", "Fixed.__eq__", defArgs (inClass (top 22) 1), defBody (inClass (top 22) 1), defScope (inClass (top 22) 1), [], []⟩) rfl
  have hFixed : HM P w K mg base 2 (ca K 2) "has_sign" ["self", "sign"] (spHasFixed K) := ⟨He.meth_ok (c.fact 63 (f := .meth "Fixed" "has_sign") rfl), fdhFixed, ok_Fixed_has FhFixed g3, FunD.bindsN (ps := ["self", "sign"]) FhFixed (fun _ _ _ _ _ _ us hl => match us, hl with | [_, _], _ => rfl)⟩
  have eFixed : EQ P w K mg base (ca K 2) (spEqFixed K) := ⟨fdeFixed, ok_Fixed_eq FeFixed g4, FunD.bindsN (ps := ["self", "other"]) FeFixed (fun _ _ _ _ _ _ us hl => match us, hl with | [_, _], _ => rfl)⟩
  obtain ⟨fdhListed, FhListed⟩ := c.def_ 13 (d := ⟨("Listed", some "has_sign"), "has_sign", "Listed.has_sign", defArgs (inClass (top 23) 7), defBody (inClass (top 23) 7), defScope (inClass (top 23) 7), [], []⟩) rfl
  obtain ⟨fdeListed, FeListed⟩ := c.def_ 12 (d := ⟨("Listed", some "__eq__"), "__eq__", "Listed.__eq__", defArgs (inClass (top 23) 1), defBody (inClass (top 23) 1), defScope (inClass (top 23) 1), [], []⟩) rfl
  have hListed : HM P w K mg base 2 (ca K 3) "has_sign" ["self", "sign"] (spHasListed K) := ⟨He.meth_ok (c.fact 67 (f := .meth "Listed" "has_sign") rfl), fdhListed, ok_Listed_has FhListed g3, FunD.bindsN (ps := ["self", "sign"]) FhListed (fun _ _ _ _ _ _ us hl => match us, hl with | [_, _], _ => rfl)⟩
  have eListed : EQ P w K mg base (ca K 3) (spEqListed K) := ⟨fdeListed, ok_Listed_eq FeListed g4, FunD.bindsN (ps := ["self", "other"]) FeListed (fun _ _ _ _ _ _ us hl => match us, hl with | [_, _], _ => rfl)⟩
  obtain ⟨fdhEnded, FhEnded⟩ := c.def_ 16 (d := ⟨("Ended", some "has_sign"), "has_sign", "Ended.has_sign", defArgs (inClass (top 24) 7), defBody (inClass (top 24) 7), defScope (inClass (top 24) 7), [], []⟩) rfl
  obtain ⟨fdeEnded, FeEnded⟩ := c.def_ 15 (d := ⟨("Ended", some "__eq__"), "__eq__", "Ended.__eq__", defArgs (inClass (top 24) 1), defBody (inClass (top 24) 1), defScope (inClass (top 24) 1), [], []⟩) rfl
  have hEnded : HM P w K mg base 2 (ca K 4) "has_sign" ["self", "sign"] (spHasEnded K) := ⟨He.meth_ok (c.fact 74 (f := .meth "Ended" "has_sign") rfl), fdhEnded, ok_Ended_has FhEnded g3, FunD.bindsN (ps := ["self", "sign"]) FhEnded (fun _ _ _ _ _ _ us hl => match us, hl with | [_, _], _ => rfl)⟩
  have eEnded : EQ P w K mg base (ca K 4) (spEqEnded K) := ⟨fdeEnded, ok_Ended_eq FeEnded g4, FunD.bindsN (ps := ["self", "other"]) FeEnded (fun _ _ _ _ _ _ us hl => match us, hl with | [_, _], _ => rfl)⟩
  have g5 : G5 P w K mg base := ⟨g4, hWord, eWord, hNumber, eNumber, hFixed, eFixed, hListed, eListed, hEnded, eEnded⟩
  have dWord : D0 K mg "Word" ["signs", "least", "most"] := (have k := kc 0 (by decide); ⟨He.glo_ok X G (c.fact 2 (f := .glo "Word") rfl), He.cls_ok (c.fact 49 (f := .cls "Word") rfl), (fun f hf => by
    rcases List.mem_cons.mp hf with rfl | hf
    · exact He.noat_ok (c.fact 51 (f := .noat "Word" "signs") rfl)
    rcases List.mem_cons.mp hf with rfl | hf
    · exact He.noat_ok (c.fact 52 (f := .noat "Word" "least") rfl)
    rcases List.mem_cons.mp hf with rfl | hf
    · exact He.noat_ok (c.fact 53 (f := .noat "Word" "most") rfl)
    cases hf), k.1, k.2.1, k.2.2.2.2.1, k.2.2.2.2.2.1, He.mkr_ok (c.fact 50 (f := .mkr "Word") rfl), k.2.2.1, k.2.2.2.1, k.2.2.2.2.2.2.1, k.2.2.2.2.2.2.2.1⟩)
  have dNumber : D0 K mg "Number" ["least", "most"] := (have k := kc 1 (by decide); ⟨He.glo_ok X G (c.fact 3 (f := .glo "Number") rfl), He.cls_ok (c.fact 55 (f := .cls "Number") rfl), (fun f hf => by
    rcases List.mem_cons.mp hf with rfl | hf
    · exact He.noat_ok (c.fact 57 (f := .noat "Number" "least") rfl)
    rcases List.mem_cons.mp hf with rfl | hf
    · exact He.noat_ok (c.fact 58 (f := .noat "Number" "most") rfl)
    cases hf), k.1, k.2.1, k.2.2.2.2.1, k.2.2.2.2.2.1, He.mkr_ok (c.fact 56 (f := .mkr "Number") rfl), k.2.2.1, k.2.2.2.1, k.2.2.2.2.2.2.1, k.2.2.2.2.2.2.2.1⟩)
  have dFixed : D0 K mg "Fixed" ["width"] := (have k := kc 2 (by decide); ⟨He.glo_ok X G (c.fact 4 (f := .glo "Fixed") rfl), He.cls_ok (c.fact 60 (f := .cls "Fixed") rfl), (fun f hf => by
    rcases List.mem_cons.mp hf with rfl | hf
    · exact He.noat_ok (c.fact 62 (f := .noat "Fixed" "width") rfl)
    cases hf), k.1, k.2.1, k.2.2.2.2.1, k.2.2.2.2.2.1, He.mkr_ok (c.fact 61 (f := .mkr "Fixed") rfl), k.2.2.1, k.2.2.2.1, k.2.2.2.2.2.2.1, k.2.2.2.2.2.2.2.1⟩)
  have dListed : D0 K mg "Listed" ["texts"] := (have k := kc 3 (by decide); ⟨He.glo_ok X G (c.fact 5 (f := .glo "Listed") rfl), He.cls_ok (c.fact 64 (f := .cls "Listed") rfl), (fun f hf => by
    rcases List.mem_cons.mp hf with rfl | hf
    · exact He.noat_ok (c.fact 66 (f := .noat "Listed" "texts") rfl)
    cases hf), k.1, k.2.1, k.2.2.2.2.1, k.2.2.2.2.2.1, He.mkr_ok (c.fact 65 (f := .mkr "Listed") rfl), k.2.2.1, k.2.2.2.1, k.2.2.2.2.2.2.1, k.2.2.2.2.2.2.2.1⟩)
  have dEnded : D0 K mg "Ended" ["signs", "sign", "least", "most"] := (have k := kc 4 (by decide); ⟨He.glo_ok X G (c.fact 6 (f := .glo "Ended") rfl), He.cls_ok (c.fact 68 (f := .cls "Ended") rfl), (fun f hf => by
    rcases List.mem_cons.mp hf with rfl | hf
    · exact He.noat_ok (c.fact 70 (f := .noat "Ended" "signs") rfl)
    rcases List.mem_cons.mp hf with rfl | hf
    · exact He.noat_ok (c.fact 71 (f := .noat "Ended" "sign") rfl)
    rcases List.mem_cons.mp hf with rfl | hf
    · exact He.noat_ok (c.fact 72 (f := .noat "Ended" "least") rfl)
    rcases List.mem_cons.mp hf with rfl | hf
    · exact He.noat_ok (c.fact 73 (f := .noat "Ended" "most") rfl)
    cases hf), k.1, k.2.1, k.2.2.2.2.1, k.2.2.2.2.2.1, He.mkr_ok (c.fact 69 (f := .mkr "Ended") rfl), k.2.2.1, k.2.2.2.1, k.2.2.2.2.2.2.1, k.2.2.2.2.2.2.2.1⟩)
  have dMarked : D0 K mg "Marked" ["none", "mark", "field"] := (have k := kc 5 (by decide); ⟨He.glo_ok X G (c.fact 7 (f := .glo "Marked") rfl), He.cls_ok (c.fact 75 (f := .cls "Marked") rfl), (fun f hf => by
    rcases List.mem_cons.mp hf with rfl | hf
    · exact He.noat_ok (c.fact 77 (f := .noat "Marked" "none") rfl)
    rcases List.mem_cons.mp hf with rfl | hf
    · exact He.noat_ok (c.fact 78 (f := .noat "Marked" "mark") rfl)
    rcases List.mem_cons.mp hf with rfl | hf
    · exact He.noat_ok (c.fact 79 (f := .noat "Marked" "field") rfl)
    cases hf), k.1, k.2.1, k.2.2.2.2.1, k.2.2.2.2.2.1, He.mkr_ok (c.fact 76 (f := .mkr "Marked") rfl), k.2.2.1, k.2.2.2.1, k.2.2.2.2.2.2.1, k.2.2.2.2.2.2.2.1⟩)
  have dPair : D0 K mg "Pair" ["one", "other"] := (have k := kc 6 (by decide); ⟨He.glo_ok X G (c.fact 8 (f := .glo "Pair") rfl), He.cls_ok (c.fact 80 (f := .cls "Pair") rfl), (fun f hf => by
    rcases List.mem_cons.mp hf with rfl | hf
    · exact He.noat_ok (c.fact 82 (f := .noat "Pair" "one") rfl)
    rcases List.mem_cons.mp hf with rfl | hf
    · exact He.noat_ok (c.fact 83 (f := .noat "Pair" "other") rfl)
    cases hf), k.1, k.2.1, k.2.2.2.2.1, k.2.2.2.2.2.1, He.mkr_ok (c.fact 81 (f := .mkr "Pair") rfl), k.2.2.1, k.2.2.2.1, k.2.2.2.2.2.2.1, k.2.2.2.2.2.2.2.1⟩)
  have dWish : D0 K mg "Wish" ["order", "scans"] := (have k := kc 7 (by decide); ⟨He.glo_ok X G (c.fact 9 (f := .glo "Wish") rfl), He.cls_ok (c.fact 84 (f := .cls "Wish") rfl), (fun f hf => by
    rcases List.mem_cons.mp hf with rfl | hf
    · exact He.noat_ok (c.fact 86 (f := .noat "Wish" "order") rfl)
    rcases List.mem_cons.mp hf with rfl | hf
    · exact He.noat_ok (c.fact 87 (f := .noat "Wish" "scans") rfl)
    cases hf), k.1, k.2.1, k.2.2.2.2.1, k.2.2.2.2.2.1, He.mkr_ok (c.fact 85 (f := .mkr "Wish") rfl), k.2.2.1, k.2.2.2.1, k.2.2.2.2.2.2.1, k.2.2.2.2.2.2.2.1⟩)
  have dStretch : D0 K mg "Stretch" ["kind", "first", "last", "pair"] := (have k := kc 8 (by decide); ⟨He.glo_ok X G (c.fact 10 (f := .glo "Stretch") rfl), He.cls_ok (c.fact 88 (f := .cls "Stretch") rfl), (fun f hf => by
    rcases List.mem_cons.mp hf with rfl | hf
    · exact He.noat_ok (c.fact 90 (f := .noat "Stretch" "kind") rfl)
    rcases List.mem_cons.mp hf with rfl | hf
    · exact He.noat_ok (c.fact 91 (f := .noat "Stretch" "first") rfl)
    rcases List.mem_cons.mp hf with rfl | hf
    · exact He.noat_ok (c.fact 92 (f := .noat "Stretch" "last") rfl)
    rcases List.mem_cons.mp hf with rfl | hf
    · exact He.noat_ok (c.fact 93 (f := .noat "Stretch" "pair") rfl)
    cases hf), k.1, k.2.1, k.2.2.2.2.1, k.2.2.2.2.2.1, He.mkr_ok (c.fact 89 (f := .mkr "Stretch") rfl), k.2.2.1, k.2.2.2.1, k.2.2.2.2.2.2.1, k.2.2.2.2.2.2.2.1⟩)
  have dMend : D0 K mg "Mend" ["joints", "stretches"] := (have k := kc 9 (by decide); ⟨He.glo_ok X G (c.fact 11 (f := .glo "Mend") rfl), He.cls_ok (c.fact 94 (f := .cls "Mend") rfl), (fun f hf => by
    rcases List.mem_cons.mp hf with rfl | hf
    · exact He.noat_ok (c.fact 96 (f := .noat "Mend" "joints") rfl)
    rcases List.mem_cons.mp hf with rfl | hf
    · exact He.noat_ok (c.fact 97 (f := .noat "Mend" "stretches") rfl)
    cases hf), k.1, k.2.1, k.2.2.2.2.1, k.2.2.2.2.2.1, He.mkr_ok (c.fact 95 (f := .mkr "Mend") rfl), k.2.2.1, k.2.2.2.1, k.2.2.2.2.2.2.1, k.2.2.2.2.2.2.2.1⟩)
  have dLayout : D0 K mg "Layout" ["fields", "joints"] := (have k := kc 10 (by decide); ⟨He.glo_ok X G (c.fact 12 (f := .glo "Layout") rfl), He.cls_ok (c.fact 98 (f := .cls "Layout") rfl), (fun f hf => by
    rcases List.mem_cons.mp hf with rfl | hf
    · exact He.noat_ok (c.fact 100 (f := .noat "Layout" "fields") rfl)
    rcases List.mem_cons.mp hf with rfl | hf
    · exact He.noat_ok (c.fact 101 (f := .noat "Layout" "joints") rfl)
    cases hf), k.1, k.2.1, k.2.2.2.2.1, k.2.2.2.2.2.1, He.mkr_ok (c.fact 99 (f := .mkr "Layout") rfl), k.2.2.1, k.2.2.2.1, k.2.2.2.2.2.2.1, k.2.2.2.2.2.2.2.1⟩)
  obtain ⟨fdiWord, FiWord⟩ := c.def_ 2 (d := ⟨("Word", some "__init__"), "__init__", "Word.__init__", defArgs (inClass (top 20) 0), defBody (inClass (top 20) 0), defScope (inClass (top 20) 0), [], []⟩) rfl
  have kWord : ClsAt P w K mg base (L2.CX P w) 4 "Word" (ca K 0) ["self", "signs", "least", "most"] (spWord K) := ⟨cWord.mgC, cWord.cl, He.mkr_ok (c.fact 50 (f := .mkr "Word") rfl), fdiWord, ok_Word_init FiWord g3, FunD.bindsN (ps := ["self", "signs", "least", "most"]) FiWord (fun _ _ _ _ _ _ us hl => match us, hl with | [_, _, _, _], _ => rfl)⟩
  obtain ⟨fdiNumber, FiNumber⟩ := c.def_ 5 (d := ⟨("Number", some "__init__"), "__init__", "Number.__init__", defArgs (inClass (top 21) 0), defBody (inClass (top 21) 0), defScope (inClass (top 21) 0), [], []⟩) rfl
  have kNumber : ClsAt P w K mg base (L2.CX P w) 4 "Number" (ca K 1) ["self", "least", "most"] (spNumber K) := ⟨cNumber.mgC, cNumber.cl, He.mkr_ok (c.fact 56 (f := .mkr "Number") rfl), fdiNumber, ok_Number_init FiNumber g3, FunD.bindsN (ps := ["self", "least", "most"]) FiNumber (fun _ _ _ _ _ _ us hl => match us, hl with | [_, _, _], _ => rfl)⟩
  obtain ⟨fdiFixed, FiFixed⟩ := c.def_ 8 (d := ⟨("Fixed", some "__init__"), "__init__", "Fixed.__init__", defArgs (inClass (top 22) 0), defBody (inClass (top 22) 0), defScope (inClass (top 22) 0), [], []⟩) rfl
  have kFixed : ClsAt P w K mg base (L2.CX P w) 4 "Fixed" (ca K 2) ["self", "width"] (spFixed K) := ⟨cFixed.mgC, cFixed.cl, He.mkr_ok (c.fact 61 (f := .mkr "Fixed") rfl), fdiFixed, ok_Fixed_init FiFixed g3, FunD.bindsN (ps := ["self", "width"]) FiFixed (fun _ _ _ _ _ _ us hl => match us, hl with | [_, _], _ => rfl)⟩
  obtain ⟨fdiListed, FiListed⟩ := c.def_ 11 (d := ⟨("Listed", some "__init__"), "__init__", "Listed.__init__", defArgs (inClass (top 23) 0), defBody (inClass (top 23) 0), defScope (inClass (top 23) 0), [], []⟩) rfl
  have kListed : ClsAt P w K mg base (L2.CX P w) 4 "Listed" (ca K 3) ["self", "texts"] (spListed K) := ⟨cListed.mgC, cListed.cl, He.mkr_ok (c.fact 65 (f := .mkr "Listed") rfl), fdiListed, ok_Listed_init FiListed g3, FunD.bindsN (ps := ["self", "texts"]) FiListed (fun _ _ _ _ _ _ us hl => match us, hl with | [_, _], _ => rfl)⟩
  obtain ⟨fdiEnded, FiEnded⟩ := c.def_ 14 (d := ⟨("Ended", some "__init__"), "__init__", "Ended.__init__", defArgs (inClass (top 24) 0), defBody (inClass (top 24) 0), defScope (inClass (top 24) 0), [], []⟩) rfl
  have kEnded : ClsAt P w K mg base (L2.CX P w) 4 "Ended" (ca K 4) ["self", "signs", "sign", "least", "most"] (spEnded K) := ⟨cEnded.mgC, cEnded.cl, He.mkr_ok (c.fact 69 (f := .mkr "Ended") rfl), fdiEnded, ok_Ended_init FiEnded g3, FunD.bindsN (ps := ["self", "signs", "sign", "least", "most"]) FiEnded (fun _ _ _ _ _ _ us hl => match us, hl with | [_, _, _, _, _], _ => rfl)⟩
  obtain ⟨fdiMarked, FiMarked⟩ := c.def_ 17 (d := ⟨("Marked", some "__init__"), "__init__", "Marked.__init__", defArgs (inClass (top 25) 0), defBody (inClass (top 25) 0), defScope (inClass (top 25) 0), [], []⟩) rfl
  have kMarked : ClsAt P w K mg base (L2.CX P w) 4 "Marked" (ca K 5) ["self", "none", "mark", "field"] (spMarked K) := ⟨cMarked.mgC, cMarked.cl, He.mkr_ok (c.fact 76 (f := .mkr "Marked") rfl), fdiMarked, ok_Marked_init FiMarked g5, FunD.bindsN (ps := ["self", "none", "mark", "field"]) FiMarked (fun _ _ _ _ _ _ us hl => match us, hl with | [_, _, _, _], _ => rfl)⟩
  have h0 : H0 P w K mg base := ⟨g5, dPair, dWish, dStretch, dMend, dLayout, dWord, dNumber, dFixed, dListed, dEnded, dMarked, He.str_ok X G (c.fact 47 (f := .str "LOW" "!") rfl), He.str_ok X G (c.fact 48 (f := .str "HIGH" "~") rfl), fun i j hi hj => ((kc i hi).2.2.2.2.2.2.2.2 j hj).1, fun i j hi hj => ((kc i hi).2.2.2.2.2.2.2.2 j hj).2, kMarked, He.free_ok X G (c.fact 44 (f := .free "enumerate") rfl)⟩
  obtain ⟨fds1, Fs1⟩ := c.def_ 37 (d := ⟨("is_sequence", none), "is_sequence", "is_sequence", defArgs (top 27), defBody (top 27), defScope (top 27), [], []⟩) rfl
  have As1 : FnAt P w K mg base CX0 1 "is_sequence" ["thing"] _ := ⟨_, fds1, He.glo_ok X G (c.fact 21 (f := .glo "is_sequence") rfl), Fs1.kp, ok_is_sequence Fs1 h0, FunD.bindsN (ps := ["thing"]) Fs1 (fun _ _ _ _ _ _ us hl => match us, hl with | [_], _ => rfl)⟩
  have h1 : H1 P w K mg base := ⟨h0, As1⟩
  obtain ⟨fdat, Fat⟩ := c.def_ 41 (d := ⟨("as_tuples", none), "as_tuples", "as_tuples", defArgs (top 33), defBody (top 33), defScope (top 33), [], []⟩) rfl
  have gat := He.glo_ok X G (c.fact 25 (f := .glo "as_tuples") rfl)
  have bat := FunD.bindsN (ps := ["thing"]) Fat (fun _ _ _ _ _ _ us hl => match us, hl with | [_], _ => rfl)
  have at0 : FnAt P w K mg base CX0 2 "as_tuples" ["thing"] (spAT K 0) := ⟨_, fdat, gat, Fat.kp, fn_never.imp fun vs H Q E h => (by obtain ⟨_, _, ⟨z, _⟩ | ⟨z, _⟩⟩ := h <;> exact absurd z (by decide)), bat⟩
  have at1 : FnAt P w K mg base CX0 3 "as_tuples" ["thing"] (spAT K 1) := ⟨_, fdat, gat, Fat.kp, ok_as_tuples Fat h1 (n := 0) at0, bat⟩
  have at2 : FnAt P w K mg base CX0 4 "as_tuples" ["thing"] (spAT K 2) := ⟨_, fdat, gat, Fat.kp, ok_as_tuples Fat h1 (n := 1) at1, bat⟩
  have h2 : H2 P w K mg base := ⟨h1, at2⟩
  obtain ⟨fdtWord, FtWord⟩ := c.def_ 3 (d := ⟨("Word", some "__eq__"), "__eq__", "Word.__eq__", defArgs (inClass (top 20) 1), defBody (inClass (top 20) 1), defScope (inClass (top 20) 1), [], []⟩) rfl
  have qWord : EQT P w K mg base 1 0 := ⟨fdtWord, ok_Word_eqt FtWord h2, FunD.bindsN (ps := ["self", "other"]) FtWord (fun _ _ _ _ _ _ us hl => match us, hl with | [_, _], _ => rfl)⟩
  obtain ⟨fdtNumber, FtNumber⟩ := c.def_ 6 (d := ⟨("Number", some "__eq__"), "__eq__", "Number.__eq__", defArgs (inClass (top 21) 1), defBody (inClass (top 21) 1), defScope (inClass (top 21) 1), [], []⟩) rfl
  have qNumber : EQT P w K mg base 1 1 := ⟨fdtNumber, ok_Number_eqt FtNumber h2, FunD.bindsN (ps := ["self", "other"]) FtNumber (fun _ _ _ _ _ _ us hl => match us, hl with | [_, _], _ => rfl)⟩
  obtain ⟨fdtFixed, FtFixed⟩ := c.def_ 9 (d := ⟨("Fixed", some "__eq__"), "__eq__", "Fixed.__eq__", defArgs (inClass (top 22) 1), defBody (inClass (top 22) 1), defScope (inClass (top 22) 1), [], []⟩) rfl
  have qFixed : EQT P w K mg base 1 2 := ⟨fdtFixed, ok_Fixed_eqt FtFixed h2, FunD.bindsN (ps := ["self", "other"]) FtFixed (fun _ _ _ _ _ _ us hl => match us, hl with | [_, _], _ => rfl)⟩
  obtain ⟨fdtListed, FtListed⟩ := c.def_ 12 (d := ⟨("Listed", some "__eq__"), "__eq__", "Listed.__eq__", defArgs (inClass (top 23) 1), defBody (inClass (top 23) 1), defScope (inClass (top 23) 1), [], []⟩) rfl
  have qListed : EQT P w K mg base 1 3 := ⟨fdtListed, ok_Listed_eqt FtListed h2, FunD.bindsN (ps := ["self", "other"]) FtListed (fun _ _ _ _ _ _ us hl => match us, hl with | [_, _], _ => rfl)⟩
  obtain ⟨fdtEnded, FtEnded⟩ := c.def_ 15 (d := ⟨("Ended", some "__eq__"), "__eq__", "Ended.__eq__", defArgs (inClass (top 24) 1), defBody (inClass (top 24) 1), defScope (inClass (top 24) 1), [], []⟩) rfl
  have qEnded : EQT P w K mg base 1 4 := ⟨fdtEnded, ok_Ended_eqt FtEnded h2, FunD.bindsN (ps := ["self", "other"]) FtEnded (fun _ _ _ _ _ _ us hl => match us, hl with | [_, _], _ => rfl)⟩
  obtain ⟨fdtPair, FtPair⟩ := c.def_ 20 (d := ⟨("Pair", some "__eq__"), "__eq__", "Pair.__eq__", defArgs (inClass (top 34) 1), defBody (inClass (top 34) 1), defScope (inClass (top 34) 1), [], []⟩) rfl
  have qPair : EQT P w K mg base 1 6 := ⟨fdtPair, ok_Pair_eqt FtPair h2, FunD.bindsN (ps := ["self", "other"]) FtPair (fun _ _ _ _ _ _ us hl => match us, hl with | [_, _], _ => rfl)⟩
  obtain ⟨fdtWish, FtWish⟩ := c.def_ 22 (d := ⟨("Wish", some "__eq__"), "__eq__", "Wish.__eq__", defArgs (inClass (top 36) 1), defBody (inClass (top 36) 1), defScope (inClass (top 36) 1), [], []⟩) rfl
  have qWish : EQT P w K mg base 1 7 := ⟨fdtWish, ok_Wish_eqt FtWish h2, FunD.bindsN (ps := ["self", "other"]) FtWish (fun _ _ _ _ _ _ us hl => match us, hl with | [_, _], _ => rfl)⟩
  have h3 : H3 P w K mg base := ⟨h2, qFixed, qPair⟩
  obtain ⟨fdtMarked, FtMarked⟩ := c.def_ 18 (d := ⟨("Marked", some "__eq__"), "__eq__", "Marked.__eq__", defArgs (inClass (top 25) 1), defBody (inClass (top 25) 1), defScope (inClass (top 25) 1), [], []⟩) rfl
  have qMarked : EQT P w K mg base 2 5 := ⟨fdtMarked, ok_Marked_eqt FtMarked h3, FunD.bindsN (ps := ["self", "other"]) FtMarked (fun _ _ _ _ _ _ us hl => match us, hl with | [_, _], _ => rfl)⟩
  obtain ⟨fdtStretch, FtStretch⟩ := c.def_ 24 (d := ⟨("Stretch", some "__eq__"), "__eq__", "Stretch.__eq__", defArgs (inClass (top 37) 1), defBody (inClass (top 37) 1), defScope (inClass (top 37) 1), [], []⟩) rfl
  have qStretch : EQT P w K mg base 2 8 := ⟨fdtStretch, ok_Stretch_eqt FtStretch h3, FunD.bindsN (ps := ["self", "other"]) FtStretch (fun _ _ _ _ _ _ us hl => match us, hl with | [_, _], _ => rfl)⟩
  obtain ⟨fdtLayout, FtLayout⟩ := c.def_ 28 (d := ⟨("Layout", some "__eq__"), "__eq__", "Layout.__eq__", defArgs (inClass (top 30) 1), defBody (inClass (top 30) 1), defScope (inClass (top 30) 1), [], []⟩) rfl
  have qLayout : EQT P w K mg base 3 10 := ⟨fdtLayout, ok_Layout_eqt FtLayout h3, FunD.bindsN (ps := ["self", "other"]) FtLayout (fun _ _ _ _ _ _ us hl => match us, hl with | [_, _], _ => rfl)⟩
  have h4 : H4 P w K mg base := ⟨h3, qStretch⟩
  obtain ⟨fdtMend, FtMend⟩ := c.def_ 26 (d := ⟨("Mend", some "__eq__"), "__eq__", "Mend.__eq__", defArgs (inClass (top 38) 1), defBody (inClass (top 38) 1), defScope (inClass (top 38) 1), [], []⟩) rfl
  have qMend : EQT P w K mg base 4 9 := ⟨fdtMend, ok_Mend_eqt FtMend h4, FunD.bindsN (ps := ["self", "other"]) FtMend (fun _ _ _ _ _ _ us hl => match us, hl with | [_, _], _ => rfl)⟩
  obtain ⟨fds2, Fs2⟩ := c.def_ 38 (d := ⟨("check_fields", none), "check_fields", "check_fields", defArgs (top 28), defBody (top 28), defScope (top 28), [], []⟩) rfl
  have As2 : FnAt P w K mg base CX0 2 "check_fields" ["fields"] _ := ⟨_, fds2, He.glo_ok X G (c.fact 22 (f := .glo "check_fields") rfl), Fs2.kp, ok_check_fields Fs2 h1, FunD.bindsN (ps := ["fields"]) Fs2 (fun _ _ _ _ _ _ us hl => match us, hl with | [_], _ => rfl)⟩
  obtain ⟨fds3, Fs3⟩ := c.def_ 39 (d := ⟨("is_joint", none), "is_joint", "is_joint", defArgs (top 29), defBody (top 29), defScope (top 29), [], []⟩) rfl
  have As3 : FnAt P w K mg base CX0 1 "is_joint" ["thing"] _ := ⟨_, fds3, He.glo_ok X G (c.fact 23 (f := .glo "is_joint") rfl), Fs3.kp, ok_is_joint Fs3 h1, FunD.bindsN (ps := ["thing"]) Fs3 (fun _ _ _ _ _ _ us hl => match us, hl with | [_], _ => rfl)⟩
  have h5 : H5 P w K mg base := ⟨h1, As2, As3⟩
  obtain ⟨fdiPair, FiPair⟩ := c.def_ 19 (d := ⟨("Pair", some "__init__"), "__init__", "Pair.__init__", defArgs (inClass (top 34) 0), defBody (inClass (top 34) 0), defScope (inClass (top 34) 0), [], []⟩) rfl
  have nPair : ClsAt P w K mg base CX0 5 "Pair" (CA K "Pair") ["self", "one", "other"] (spPair K) := ⟨dPair.mgC, dPair.cl, dPair.mkr, fdiPair, ok_Pair_init FiPair h2, FunD.bindsN (ps := ["self", "one", "other"]) FiPair (fun _ _ _ _ _ _ us hl => match us, hl with | [_, _, _], _ => rfl)⟩
  obtain ⟨fdiWish, FiWish⟩ := c.def_ 21 (d := ⟨("Wish", some "__init__"), "__init__", "Wish.__init__", defArgs (inClass (top 36) 0), defBody (inClass (top 36) 0), defScope (inClass (top 36) 0), [], []⟩) rfl
  have nWish : ClsAt P w K mg base CX0 5 "Wish" (CA K "Wish") ["self", "order", "scans"] (spWish K) := ⟨dWish.mgC, dWish.cl, dWish.mkr, fdiWish, ok_Wish_init FiWish h2, FunD.bindsN (ps := ["self", "order", "scans"]) FiWish (fun _ _ _ _ _ _ us hl => match us, hl with | [_, _, _], _ => rfl)⟩
  obtain ⟨fdiStretch, FiStretch⟩ := c.def_ 23 (d := ⟨("Stretch", some "__init__"), "__init__", "Stretch.__init__", defArgs (inClass (top 37) 0), defBody (inClass (top 37) 0), defScope (inClass (top 37) 0), [], []⟩) rfl
  have nStretch : ClsAt P w K mg base CX0 5 "Stretch" (CA K "Stretch") ["self", "kind", "first", "last", "pair"] (spStretch K) := ⟨dStretch.mgC, dStretch.cl, dStretch.mkr, fdiStretch, ok_Stretch_init FiStretch h2, FunD.bindsN (ps := ["self", "kind", "first", "last", "pair"]) FiStretch (fun _ _ _ _ _ _ us hl => match us, hl with | [_, _, _, _, _], _ => rfl)⟩
  obtain ⟨fdiMend, FiMend⟩ := c.def_ 25 (d := ⟨("Mend", some "__init__"), "__init__", "Mend.__init__", defArgs (inClass (top 38) 0), defBody (inClass (top 38) 0), defScope (inClass (top 38) 0), [], []⟩) rfl
  have nMend : ClsAt P w K mg base CX0 5 "Mend" (CA K "Mend") ["self", "joints", "stretches"] (spMend K) := ⟨dMend.mgC, dMend.cl, dMend.mkr, fdiMend, ok_Mend_init FiMend h2, FunD.bindsN (ps := ["self", "joints", "stretches"]) FiMend (fun _ _ _ _ _ _ us hl => match us, hl with | [_, _, _], _ => rfl)⟩
  obtain ⟨fdiLayout, FiLayout⟩ := c.def_ 27 (d := ⟨("Layout", some "__init__"), "__init__", "Layout.__init__", defArgs (inClass (top 30) 0), defBody (inClass (top 30) 0), defScope (inClass (top 30) 0), [], []⟩) rfl
  have nLayout : ClsAt P w K mg base CX0 3 "Layout" (CA K "Layout") ["self", "fields", "joints"] (spLay K) := ⟨dLayout.mgC, dLayout.cl, dLayout.mkr, fdiLayout, ok_Layout_init FiLayout h5, FunD.bindsN (ps := ["self", "fields", "joints"]) FiLayout (fun _ _ _ _ _ _ us hl => match us, hl with | [_, _, _], _ => rfl)⟩
  have hT : HT P w K mg base := ⟨h4, As2, kWord, kNumber, kFixed, kListed, kEnded, nPair, nWish, nStretch, nMend, nLayout⟩
  have hQ : HQ P w K mg base := ⟨hT, fun i hi => match i, hi with
    | 0, _ => qWord.up (by decide)
    | 1, _ => qNumber.up (by decide)
    | 2, _ => qFixed.up (by decide)
    | 3, _ => qListed.up (by decide)
    | 4, _ => qEnded.up (by decide)
    | 5, _ => qMarked.up (by decide)
    | 6, _ => qPair.up (by decide)
    | 7, _ => qWish.up (by decide)
    | 8, _ => qStretch.up (by decide)
    | 9, _ => qMend.up (by decide)
    | 10, _ => qLayout.up (by decide)
    | n + 11, h => absurd h (by omega)⟩
  obtain ⟨fdr1, Fr1⟩ := c.def_ 42 (d := ⟨("_law_state", none), "_law_state", "_law_state", defArgs (top 41), defBody (top 41), defScope (top 41), [], []⟩) rfl
  have Ar1 : FnAt P w K mg base CX0 1 "_law_state" ["_law_source"] _ := ⟨_, fdr1, He.glo_ok X G (c.fact 26 (f := .glo "_law_state") rfl), Fr1.kp, ok_state Fr1 g0.toBl, FunD.bindsN (ps := ["_law_source"]) Fr1 (fun _ _ _ _ _ _ us hl => match us, hl with | [_], _ => rfl)⟩
  obtain ⟨fdr2, Fr2⟩ := c.def_ 43 (d := ⟨("_law_digit", none), "_law_digit", "_law_digit", defArgs (top 42), defBody (top 42), defScope (top 42), [], []⟩) rfl
  have Ar2 : FnAt P w K mg base CX0 1 "_law_digit" ["_law_state_here", "_law_base"] _ := ⟨_, fdr2, He.glo_ok X G (c.fact 27 (f := .glo "_law_digit") rfl), Fr2.kp, ok_digit Fr2 g0.toBl, FunD.bindsN (ps := ["_law_state_here", "_law_base"]) Fr2 (fun _ _ _ _ _ _ us hl => match us, hl with | [_, _], _ => rfl)⟩
  obtain ⟨fdr3, Fr3⟩ := c.def_ 44 (d := ⟨("_law_things", none), "_law_things", "_law_things", defArgs (top 43), defBody (top 43), defScope (top 43), [], []⟩) rfl
  have Ar3 : FnAt P w K mg base CX0 7 "_law_things" ["_law_x", "_law_y"] _ := ⟨_, fdr3, He.glo_ok X G (c.fact 28 (f := .glo "_law_things") rfl), Fr3.kp, ok_things Fr3 hT, FunD.bindsN (ps := ["_law_x", "_law_y"]) Fr3 (fun _ _ _ _ _ _ us hl => match us, hl with | [_, _], _ => rfl)⟩
  obtain ⟨fdr4, Fr4⟩ := c.def_ 40 (d := ⟨("bare_layout", none), "bare_layout", "bare_layout", defArgs (top 31), defBody (top 31), defScope (top 31), [], []⟩) rfl
  have Ar4 : FnAt P w K mg base CX0 5 "bare_layout" ["fields"] _ := ⟨_, fdr4, He.glo_ok X G (c.fact 24 (f := .glo "bare_layout") rfl), Fr4.kp, ok_bare Fr4 hT, FunD.bindsN (ps := ["fields"]) Fr4 (fun _ _ _ _ _ _ us hl => match us, hl with | [_], _ => rfl)⟩
  exact ⟨hQ, Ar1, Ar2, Ar3, Ar4⟩

end L2.K07
open PySem PySem.W PySem.Calls PyProof.Rows
set_option maxRecDepth 100000 in
set_option maxHeartbeats 0 in
theorem PySem.Challenge.cw_jointkeys_k07_fields_and_answers_as_thin_holds : PySem.Challenge.rw_jointkeys_k07_fields_and_answers_as_thin.Holds := by
  w_on; o_law
  refine HandSHeadRun.head_any (r := OpenLaw.row PySem.Challenge.rw_jointkeys_k07_fields_and_answers_as_thin) (q := view (OpenLaw.row PySem.Challenge.rw_jointkeys_k07_fields_and_answers_as_thin).prog [44]) (H := L2.K07.hk) (ob := L2.K07.ob) (M := 8000) (loose := L2.K07.names) (d := HandSHeadRun.topDef (OpenLaw.row PySem.Challenge.rw_jointkeys_k07_fields_and_answers_as_thin).prog 44) (kwd := []) L2.K07.ob_eq
    (by kernel_rfl) (fun s => by kernel_rfl) L2.K07.run (by kernel_rfl) (by kernel_rfl) (by kernel_rfl) (by rfl) (by first | assumption | decide +kernel) (by decide +kernel) ⟨rfl, rfl, rfl, rfl, rfl, by decide +kernel⟩ ?hw ?hc
  case hw => w_witness2
  case hc =>
    refine L2.walk_ofE (l := PySem.Challenge.rw_jointkeys_k07_fields_and_answers_as_thin) (n := 63) (k := 8) (x := "_law_script") (CX := L2.CX0) rfl (by decide) (by kernel_rfl) ⟨rfl, by decide, by decide⟩ ?F (fun _ _ _ _ z => z)
    intro w mg fa h Y G hmg0
    obtain ⟨K, KX, c⟩ := Y
    have hmg : mg ("law" : PySem.Str) = some (.ref fa) := by
      have e : (HandSHeadRun.topDef (OpenLaw.row PySem.Challenge.rw_jointkeys_k07_fields_and_answers_as_thin).prog 44).name = ("law" : PySem.Str) := by kernel_rfl
      rw [← e]
      exact hmg0
    obtain ⟨fd, F⟩ := c.t.d.def_ 45 (d := ⟨("law", none), "law", "law", L2.defArgs L2.K07.s_law, L2.defBody L2.K07.s_law, L2.defScope L2.K07.s_law, [], []⟩) rfl
    have e := hmg.symm.trans (He.glo_ok KX G (c.t.d.fact 29 (f := .glo "law") rfl))
    cases e
    have b := L2.FunD.bindsA (ps := ["_law_script"]) F fun _ _ _ _ _ _ us hl => match us, hl with | [_], _ => rfl
    exact ⟨K, fd, L2.K07.spLaw K, KX, fun s v => b s [v] rfl, fun H a ns hl _ hS => ⟨a, ns, rfl, hS, hl, fun _ => rfl⟩, fun base _ _ => L2.K07.ok_law F (L2.K07.facts KX G c.t.d c.more)⟩
#print axioms PySem.Challenge.cw_jointkeys_k07_fields_and_answers_as_thin_holds
