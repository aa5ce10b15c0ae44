import PyProof.Rows.All
import Wide.All
import OpenK.AllK
import Wide.FinOn
import HandS.ForMost
import HandS.ForExc
import HandS.ExcInit
import HandS.ExcIs
import HandS.ExcField
import HandS.IsInst
import KE.KStateDown
import HandS.Defaults
import HandS.Head0
import HandS.Head1
import HandS.Head2
import HandS.Head3
import HandS.Head4
import HandS.HeadEnd
import HandS.HeadHook1
import HandS.HeadHook2
import HandS.HeadHook3
import HandS.HeadHook4
import HandS.Walk
import HandS.OwnEq
import PyProof.InstNe
import HandS.Text
import KE.KIntText
import PyProof.Rows.Digits
import KE.IntTextLaws
import PyProof.WalksS
import PyProof.StrWalks
import PyProof.EnumMake
import PyProof.Rows.SetFrom
import PyProof.SetKind
import HandS.Strs
import HandS.Rev
import HandS.Zip
import PyProof.JoinWalk
import PyProof.ListStr
import HandS.ExcOwn
import HandS.WordsExc
import HandS.StrMore
import PyProof.StrOps2
import HandS.TupAny
import HandS.WordsDict
import KE.GoesEnum
import HandS.Codes
import HandS.More
import HandS.Flow
import HandS.RaiseMore
import PyProof.Rows.FinIter
import HandS.Sort
import PyProof.ListRange
import PyProof.CallFns
import HandS.TryMany
import HandS.Lambda
import KE.KDflt
import HandS.HeadWalk
import KE.DatumOrd
import HandS.TupMul
import HandS.Style
import PySem.Challenge.RW_jointkeys_k76_errors_of_stores
set_option Elab.async false
set_option linter.all false
set_option maxRecDepth 100000
set_option maxHeartbeats 4000000
/-! Own exceptions as plain values: made, their fields read, their methods called, isinstance asked of them. -/
namespace L2.Jk
open PySem PySem.W PySem.Spec PySem.Calls PyProof.Rows

/-- what an own error class says of itself, for its instances as values -/
structure ErrC (K : Frag) (C : Addr) : Prop where
  ox : OexC K C
  xf : XfC K C
  kk : findIn K (.ref C) "__class__" = some (some (.builtin "object.__class__"))
  kn : specialIn K (.builtin "object.__class__") "__get__" = some (some (.builtin "getset_descriptor.__get__"))
  kt : takesIn K (.builtin "object.__class__") = some true
  km : mroIn K C (.type "object") = some true

section
variable {prog : Program} {w : World} {A : Around} {E : Value → Shared → Prop} {s : Shared} {K : Frag} {e C f : Addr} {oe od : Obj}

/-- e.__class__ of an error with a dict of its own -/
theorem err_class {Q : Option Value → Shared → Prop} (T : ErrC K C) (X : K.In s.heap) (I : InstAt s.heap e oe C (some od)) (h : Q (some (.ref C)) { s with toks := s.toks + 1 }) :
    wpAny (model prog w) A (getAttr? (.ref e) "__class__") Q E s := by
  obtain ⟨cd, hcd, _⟩ := any_some T.xf.hdC
  have look := findObj_data (od := od) (show (clsIn K C).isSome = true by rw [hcd]; rfl) T.kk T.kn T.kt
  obtain ⟨hp, gn, dr, tk, os⟩ := s
  have lt := I.type (M := model prog w)
  have lg := looks_findIn (M := model prog w) X T.xf.ga
  have lh := looks_findIn (M := model prog w) X T.xf.gg
  have lf := looks_find (M := model prog w) X I look
  have inB : Looks (model prog w) hp (isInstance (.ref e) (.type "BaseException")) true := lt.andThen (looks_subIn X T.xf.exC)
  have n2 : (Value.builtin "BaseException.__getattribute__" == Value.builtin "object.__getattribute__") = false := by decide +kernel
  have n1 : (onTheHeap (Value.ref C) && Value.builtin "BaseException.__getattribute__" == Value.builtin "object.__getattribute__") = false := by rw [n2] <;> rfl
  unfold getAttr? getAttrBy? getAttrBy
  refine wpAny_bind (wpAny_mkText (wpAny_bind (wpAny_attempt (wpAny_holding (wpAny_bind (lt.at (wpAny_bind (lg.at ?_))))))))
  show wpAny _ _ (if (onTheHeap (Value.ref C) && Value.builtin "BaseException.__getattribute__" == Value.builtin "object.__getattribute__") = true then _ else _) _ _ _
  rw [n1, if_neg Bool.false_ne_true]
  unfold getAttrByItsOwn hookBefore
  refine wpAny_bind ?_
  rw [if_pos (show onTheHeap (Value.ref C) = true from rfl)]
  refine lh.at (wpAny_bind (wpAny_attempt (wpAny_holding ?_)))
  unfold callGetattribute
  rw [show (false && onTheHeap (Value.builtin "BaseException.__getattribute__")) = false from rfl, if_neg Bool.false_ne_true]
  unfold boundAndCalled
  rw [PySem.F.excAttr_ValueError.ga.bind (.ref e)]
  refine wpAny_bind (wpAny_pure ?_)
  show wpAny _ _ (call (.builtin "BaseException.__getattribute__") [.ref e, .str "__class__" tk]) _ _ _
  refine wpAny_call (codeAny_call_builtin PySem.F.excAttr_ValueError.ga.plain PySem.F.entry_bexc_ga ?_)
  refine @check_slot (model prog w) _ _ ⟨hp, gn, dr, tk + 1, os⟩ "BaseException.__getattribute__" "BaseException" "__getattribute__" (.ref e) [.str "__class__" tk] [] _
    (by decide +kernel) (by decide +kernel) inB (PySem.F.args_bexc_ga (.ref e) (.str "__class__" tk)) ?_
  unfold Builtin.«object.__getattribute__»
  refine wpAny_bind (wpAny_of_eq (a := ((Value.ref e : Value), [Value.str "__class__" tk])) (by first | rfl | (simp only [slotArgs]; rfl)) ?_)
  refine wpAny_bind (wpAny_pure (wpAny_bind (lt.at (wpAny_bind (lf.at ?_)))))
  show wpAny _ _ (holding [Value.builtin "object.__class__"] (call (.builtin "getset_descriptor.__get__") [.builtin "object.__class__", .ref e, .ref C]) >>= ret) _ _ _
  refine wpAny_bind (wpAny_holding (wpAny_call (class_get (s := ⟨hp, gn, dr, tk + 1, os⟩) (ox := oe) (od := some od) X I T.km ?_)))
  refine wpAny_pure ?_
  show wpAny _ _ (handedOut (.ref C)) _ _ _
  rw [handedOut_of (v := .ref C) rfl]
  first
    | exact wpAny_pure (wpAny_pure h)
    | exact wpAny_pure h
    | exact wpAny_pure (wpAny_bind (wpAny_pure (wpAny_pure h)))
/-- isinstance may be asked of it -/
theorem err_kit (T : ErrC K C) : KitX K (.ref e) (.ref C) (fun h => ∃ o d, InstAt h e o C (some d)) where
  ty := fun _ _ _ ⟨_, _, I⟩ => I.type
  it := fun _ _ X _ => by
    obtain ⟨cd, hc, _⟩ := any_some T.xf.hdC
    unfold clsIn at hc
    split at hc
    · rename_i ho
      intro _ _ _ _ k q
      unfold isType loadHead
      exact wpAny_bind (wpAny_loadPart (k _ _ (X _ _ ho)) (wpAny_pure q))
    · cases hc
  ne := fun h tp dd its n sl X htp => by
    obtain ⟨cd, hc, _⟩ := any_some T.xf.hdC
    refine Bool.eq_false_iff.mpr fun q => ?_
    have z : C = tp := Value.ref.inj (beq_iff_eq.mp q)
    subst z
    unfold clsIn at hc
    split at hc
    · rename_i ho
      have y := (X _ _ ho).symm.trans htp
      cases y
    · cases hc
  ca := fun X ⟨_, _, I⟩ k => err_class T X I k

/-- the method of an error, found in its class -/
theorem err_meth {name : Str} {pl : Sem Bool} {Q : Value × List Value → Shared → Prop} (T : ErrC K C) (X : K.In s.heap) (I : InstAt s.heap e oe C (some od))
    (hf : findIn K (.ref C) name = some (some (.ref f))) (ht : isFn K (.ref f) = true) (hs : shadowIn (some od) name = some false) (h : Q (.ref f, [.ref e]) s) :
    wpAny (model prog w) A (getMethod (.ref e) name pl) Q E s := by
  have cn : Manifest.canonical "BaseException.__getattribute__" = "object.__getattribute__" := by first | kernel_rfl | decide +kernel
  obtain ⟨r, ra, rb⟩ := Option.map_eq_some_iff.mp hs
  have dd := I.dict
  unfold getMethod specialOf
  refine wpAny_bind (wpAny_bind (I.type.here ((looks_findIn X T.xf.ga).here ?_)))
  dsimp only
  rw [cn, if_neg (by decide)]
  refine wpAny_bind (wpAny_bind (I.type.here ((looks_findIn X T.xf.gg).here ?_)))
  refine wpAny_bind (wpAny_bind (I.type.here ((looks_findIn X hf).here (wpAny_bind ((looks_typeIn X (beq_iff_eq.mp ht)).here ?_)))))
  rw [if_neg (by decide +kernel)]
  refine wpAny_bind (wpAny_loadPart I.at_ ?_)
  cases q : oe.dict with
  | none => exact wpAny_bind (wpAny_rule (wpAny_pure h))
  | some dx =>
    rw [q] at dd
    refine wpAny_bind (wpAny_bind (wpAny_loadPart dd ?_))
    rw [nsLook_of ra]
    refine wpAny_pure ?_
    rw [rb]
    exact wpAny_bind (wpAny_rule (wpAny_pure h))
end

section
variable {X : Cx} {pins : List (Addr × Obj)} {σ : St} {H : Hp} {s : Shared} {C a d : Addr} {fs : List (Str × V)}
/-- an error as the heap holds it -/
theorem err_at (I : Inv X pins σ H s) (ha : H a = some (exo a C (some d))) (hd : H d = some (exd d fs)) :
    ∃ o od mA, InstAt s.heap a o C (some od) ∧ s.heap.Ns1 d mA ∧ (∀ f, RelO (fs.lookup f) (mA f)) ∧ s.heap.get? d = some od ∧ ∀ f, lookIn f od = some (mA f) := by
  obtain ⟨t1, ho⟩ := exo_at I.hok ha
  obtain ⟨mA, hn, r⟩ := exd_at I.hok hd
  obtain ⟨od, hod, hl⟩ := lookIn_ns hn
  exact ⟨_, od, mA, ⟨ho, rfl, rfl, hod⟩, hn, r, hod, hl⟩
/-- e.f of an error -/
def tEf (K : Frag) (f : Str) (te : TE) : TE := fun σ H Q => te σ H fun x H1 => ∃ (a C d : Addr) (fs : List (Str × V)) (v : V), x = .ref a ∧ ErrC K C ∧ findIn K (.ref C) f = some none ∧
  H1 a = some (exo a C (some d)) ∧ H1 d = some (exd d fs) ∧ fs.lookup f = some v ∧ Q v H1
theorem pe_ef {e : Expr} {te : TE} {pos : Pos} {n : Str} (he : PE X e te) (hb : attributeBase e n X.env (eval e X.env) = eval e X.env := by rfl) :
    PE X (.Attribute e n pos) (tEf X.K n te) := by
  refine ⟨fun pins s σ H Q I h => ?_⟩
  refine attr_of hb (thn (he.run pins s σ H _ I h) fun u s1 hh => ?_)
  obtain ⟨x, H1, I1, rx, a, C, d, fs, v, ex, T, hno, ha, hd, l, q⟩ := hh
  subst ex
  obtain rfl : u = Value.ref a := rx
  obtain ⟨o, od, mA, J, hn, r, hod, hl⟩ := err_at I1 ha hd
  obtain ⟨u, hu, ru⟩ := RelO.some_of (v := v) (o := mA n) (by rw [← l]; exact r n)
  exact HandSPX.exc_get I1.kIn J T.xf.ga T.xf.gg T.xf.exC (findObj_own T.xf.hdC hno rfl (by rw [hl, hu])) (handed_of ru) ⟨v, H1, I1.tok _, ru, q⟩
/-- what a def promises, met when it is called: which def it is shows in the heap -/
def Does (X : Cx) (CX : CXT) (f : Addr) (vs : List V) (H : Hp) (Q : VK) (E : XK) : Prop :=
  ∃ (k : Nat) (fd : FuncData) (ps : List Str) (sp : Sp), keepIn X.K (.ref f) = true ∧ FnOk X.prog X.w X.K X.mg X.base CX k f fd ps sp ∧ Room k X.A ∧ Binds X.K fd ps [] ∧ sp vs H Q E
/-- e.m() of an error -/
def tEm0 (X : Cx) (CX : CXT) (m : Str) (E : XK) (te : TE) : TE := fun σ H Q => te σ H fun x H1 => ∃ (a C d f : Addr) (fs : List (Str × V)), x = .ref a ∧ ErrC X.K C ∧
  H1 a = some (exo a C (some d)) ∧ H1 d = some (exd d fs) ∧ fs.lookup m = none ∧ findIn X.K (.ref C) m = some (some (.ref f)) ∧ isFn X.K (.ref f) = true ∧ Does X CX f [.ref a] H1 Q E
theorem pe_em0 {CX : CXT} {E : XK} {o : Expr} {m : Str} {ta : TE} {apos pos : Pos} {pl : Sem Bool} (he : PE X o ta) (hx : Passes CX X E)
    (ht : eval (.Call (.Attribute o m apos) [] [] pos) X.env = (do
      let ov ← eval o X.env
      standAt apos.atName
      let (f, first) ← holding [ov] (getMethod ov m pl)
      callWith pos f first (backTo pos (starEach [] X.env)) (backToKw pos (keywordEach [] X.env))) := by rfl) :
    PE X (.Call (.Attribute o m apos) [] [] pos) (tEm0 X CX m E ta) := by
  refine ⟨fun pins s σ H Q I h => ?_⟩
  refine methodCall_KW (pl := pl) (thn (he.run pins s σ H _ I h) fun u s1 hh => ?_) ht
  obtain ⟨x, H1, I1, rx, a, C, d, f, fs, ex, T, ha, hd, l, hf, hfn, k, fd, ps, sp, kp, F, hr, hb, q⟩ := hh
  subst ex
  obtain rfl : u = Value.ref a := rx
  obtain ⟨o, od, mA, J, hn, r, hod, hl⟩ := err_at I1 ha hd
  have hno : mA m = none := RelO.none_of (by rw [← l]; exact r m)
  refine err_meth T I1.kIn J hf hfn (by show (lookIn m od).map _ = _; rw [hl, hno]; rfl) ?_
  exact callWith_K0 (first := [.ref a]) I1.kIn kp (run_fn (us := [.ref a]) (vs := [.ref a]) F hr hb .nil hx I1 (.cons rfl .nil) q)
/-- C(e, ..), an own error made and kept -/
def tMkE (C : Addr) (sp : Sp) (ta : TA) : TE := fun σ H Q => ta σ H fun vs H1 => vs.length ≤ 1000 ∧ ∀ a, H1 a = none → sp (.ref a :: vs) (upd H1 a (exo a C none)) (fun v H2 => v = .non ∧ Q (.ref a) H2) (fun _ _ _ => False)
theorem run_mkE {CX : CXT} {fI : Addr} {k : Nat} {fd : FuncData} {ps : List Str} {sp : Sp} {us : List Value} {vs : List V} {Q : VK} (T : OexC X.K C) (iC : findIn X.K (.ref C) "__init__" = some (some (.ref fI))) (tI : typeIn X.K (.ref fI) = some (.type "function"))
    (F1 : FnOk X.prog X.w X.K X.mg X.base CX k fI fd ps sp) (hr : Room (k + 1) X.A) (hb : Binds X.K fd ps []) (hx : Passes CX X (fun _ _ _ => False)) (I1 : Inv X pins σ H s) (r1 : Vals vs us) (hz : vs.length ≤ 1000)
    (q1 : ∀ a, H a = none → sp (.ref a :: vs) (upd H a (exo a C none)) (fun v H2 => v = .non ∧ Q (.ref a) H2) (fun _ _ _ => False)) :
    wpAny (model X.prog X.w) X.A (call (.ref C) us) (EP X pins σ Q) X.xe s := by
  obtain ⟨nm, q, N, bs, bm, sn, sub, ab, col, dd, k0, k1, k2, k3, k5, hC, hbm⟩ := T.cls
  obtain ⟨hp, g, dr, tk, os⟩ := s
  have sz : hp.objs.size ≤ hp.objs.size + 1 := Nat.le_succ _
  have fresh : H (hp.objs.size + 1) = none := I1.hok.fresh sz
  have pr := q1 (hp.objs.size + 1) fresh
  have keep : ∀ b o, hp.get? b = some o → ((hp.push (kdv_tup us)).push (HandSPX.excO C hp.objs.size)).get? b = some o := fun b o e => Heap.get?_push_of_some _ (Heap.get?_push_of_some _ e)
  have there : ((hp.push (kdv_tup us)).push (HandSPX.excO C hp.objs.size)).get? (hp.objs.size + 1) = some (HandSPX.excO C hp.objs.size) := by heap_get
  have I2 : Inv X pins σ (upd H (hp.objs.size + 1) (exo (hp.objs.size + 1) C none)) ⟨(hp.push (kdv_tup us)).push (HandSPX.excO C hp.objs.size), g, dr, tk, os⟩ :=
    I1.laid (t' := tk) (a := hp.objs.size + 1) (o := exo (hp.objs.size + 1) C none) (h' := (hp.push (kdv_tup us)).push (HandSPX.excO C hp.objs.size)) keep sz (exo_ok there)
  have r2 : Vals (V.ref (hp.objs.size + 1) :: vs) (Value.ref (hp.objs.size + 1) :: us) := .cons rfl r1
  have hl : (Value.ref (hp.objs.size + 1) :: us ++ []).length = ps.length := by
    rw [List.append_nil, ← r2.length]
    exact F1.len _ _ _ _ pr
  have hus : us.length ≤ sizeLine := by
    rw [← Paired.length r1, sizeLine_eq]
    omega
  have hb' := hb ⟨(hp.push (kdv_tup us)).push (HandSPX.excO C hp.objs.size), g, dr, tk, os⟩ (Value.ref (hp.objs.size + 1) :: us) I2.kIn hl
  rw [List.append_nil] at hb'
  refine wpAny_call (HandSPX.call_own F.excBase_ValueError (fun Y => HandSPX.refsVE_contains Y bm hbm) (I1.kIn _ _ hC) (looks_findIn I1.kIn iC) (fun self => bind_fn I1.kIn self tI) hus
    (codeAny_mono (F1.run _ X.stack _ _ ⟨Value.ref (hp.objs.size + 1) :: us, []⟩ (Value.ref (hp.objs.size + 1) :: us) _ _ (fun _ _ _ => False) (hr.make C us []) (I2.env0.make C us []) hb' r2 pr) fun r s' hq' => ?_))
  cases r with
  | error er => exact hx pins σ _ _ er s' I2 hq'
  | ok fl =>
    cases fl with
    | ret u =>
      obtain ⟨v, H2, I3, rv, ev, q3⟩ := I2.after hq'
      subst ev
      -- nothing was tracked at the new place
      exact ⟨rv, ⟨V.ref (hp.objs.size + 1), H2, I3, rfl, q3⟩⟩
    | next => exact False.elim hq'
    | brk => exact False.elim hq'
    | cont => exact False.elim hq'
theorem pe_mkE {CX : CXT} {x : Str} {fI : Addr} {k : Nat} {fd : FuncData} {ps : List Str} {sp : Sp} {e : Expr} {es : List Expr} {ta : TA} {p pos : Pos} (T : OexC X.K C) (iC : findIn X.K (.ref C) "__init__" = some (some (.ref fI))) (tI : typeIn X.K (.ref fI) = some (.type "function"))
    (F1 : FnOk X.prog X.w X.K X.mg X.base CX k fI fd ps sp) (hr : Room (k + 1) X.A) (hb : Binds X.K fd ps []) (hx : Passes CX X (fun _ _ _ => False)) (hg : Gl X x) (hm : X.mg x = some (.ref C)) (ha : PA X (e :: es) ta)
    (hdb : (x == ("__debug__" : Str)) = false := by decide) (he : starEach (e :: es) X.env = (false, eval e X.env) :: starEach es X.env := by rfl) (hpl : (backTo pos (starEach es X.env)).any (·.1) = false := by rfl) :
    PE X (.Call (.Name x p) (e :: es) [] pos) (tMkE C sp ta) := by
  refine ⟨fun pins s σ H Q I h => ?_⟩
  refine wpAny_Call_Name_kw (ld_glob I hg hm ?_ hdb)
  refine callWith_K (h₀ := X.base) I.ok.mod.kin T.kC (thn (ha.run pos pins s σ H _ I h) fun us s1 ⟨vs, H1, I1, r1, hz, q1⟩ => ⟨I1.kIn, ?_⟩) he hpl
  exact run_mkE T iC tI F1 hr hb hx I1 r1 hz q1
/-- a value's type, an error's too -/
inductive TyE (K : Frag) (H : Hp) : V → Value → Prop where
  | x {x : V} {t : Value} (h : TyX K H x t) : TyE K H x t
  | err {a C d : Addr} {fs : List (Str × V)} (T : ErrC K C) (ha : H a = some (exo a C (some d))) (hd : H d = some (exd d fs)) : TyE K H (.ref a) (.ref C)
theorem kit_ofE {x : V} {u t : Value} (I : Inv X pins σ H s) (rx : RelV x u) (ty : TyE X.K H x t) : ∃ P : Heap → Prop, KitX X.K u t P ∧ P s.heap ∧ u ≠ .builtin "__main__.__loader__#opaque" := by
  cases ty with
  | x h => exact kit_of I rx h
  | err T ha hd =>
    cases (show u = Value.ref _ from rx)
    obtain ⟨o, od, mA, J, _⟩ := err_at I ha hd
    exact ⟨_, err_kit T, ⟨o, od, J⟩, fun z => nomatch z⟩
def rIe (K : Frag) : List V → Hp → VK → Prop := fun xs H Q => ∃ (x c : V) (t u : Value) (b : Bool), xs = [x, c] ∧ ClsV c u ∧ TyE K H x t ∧ kitOne K t u = some b ∧ Q (.bl b) H
def rIeT (K : Frag) : List V → Hp → VK → Prop := fun xs H Q => ∃ (x : V) (tp : Addr) (cs : List V) (t : Value) (us : List Value) (b : Bool), xs = [x, .ref tp] ∧ H tp = some (.tup cs) ∧ Paired ClsV cs us ∧ TyE K H x t ∧ kitAny K t us = some b ∧ Q (.bl b) H
theorem call_ie : CallR X (.builtin "isinstance") (rIe X.K) := by
  intro pins s σ H xs us Q I r h
  obtain ⟨x, c, t, u, b, rfl, k, ty, e, q⟩ := h
  obtain ⟨u1, u2, rfl, r1, r2⟩ := vals2 r
  obtain rfl := k.eq r2
  obtain ⟨P, Z, p, hx⟩ := kit_ofE I r1 ty
  exact kia_one Z I.kIn p e hx fun tk => ⟨.bl b, H, I.tok tk, rfl, q⟩
theorem call_ieT : CallR X (.builtin "isinstance") (rIeT X.K) := by
  intro pins s σ H xs us Q I r h
  obtain ⟨x, tp, cs, t, ws, b, rfl, hT, k, ty, e, q⟩ := h
  obtain ⟨u1, u2, rfl, r1, r2⟩ := vals2 r
  cases (show u2 = Value.ref tp from r2)
  obtain ⟨P, Z, p, hx⟩ := kit_ofE I r1 ty
  obtain ⟨_, its, rv, o, h1, h2, n, h3⟩ := (show ObjOk X.prog X.w H s.heap tp (.tup cs) from I.hok tp _ hT)
  obtain rfl := ClsV.all k rv
  obtain ⟨oc, od, dt, sl⟩ := o
  dsimp only at h2 h3
  subst h2 h3
  exact kia_tup Z I.kIn p h1 e hx fun tk => ⟨.bl b, H, I.tok tk, rfl, q⟩
end
end L2.Jk

set_option Elab.async false
set_option linter.all false
set_option maxRecDepth 100000
set_option maxHeartbeats 4000000
/-! Defs and error classes as the head tells them; calls of them. -/
namespace L2.Jk
open PySem PySem.W PySem.Spec PySem.Calls PyProof.Rows

/-! ### what the head says of an error class, by one Bool -/
def oexB (K : Frag) (C : Addr) : Bool := (match K.lookup C with
  | some ⟨.type "type", _, .cls cd, sl⟩ => (match cd.mro, sl.toList with
    | .ref D :: bm, [_, _, _, _, some (.builtin n), _] => decide (D = C) && (decide (n = "ValueError.__new__") && (HandSPX.refsVE bm && (cd.hasDict && !cd.hasDel)))
    | _, _ => false)
  | _ => false) && (He.eqO (findIn K (.ref C) "__setattr__") (some (some (.builtin "object.__setattr__"))) && (decide (subIn K (.ref C) (.type "BaseException") = some true) &&
    (decide (typeIn K (.ref C) = some (.type "type")) && keepIn K (.ref C))))
theorem oexB_ok {K : Frag} {C : Addr} (h : oexB K C = true) : OexC K C := by
  obtain ⟨h1, h⟩ := Bool.and_eq_true_iff.mp h
  obtain ⟨h2, h⟩ := Bool.and_eq_true_iff.mp h
  obtain ⟨h3, h⟩ := Bool.and_eq_true_iff.mp h
  obtain ⟨h4, h5⟩ := Bool.and_eq_true_iff.mp h
  refine ⟨?_, He.eqO_ok h2, of_decide_eq_true h3, of_decide_eq_true h4, h5⟩
  split at h1
  · rename_i dd cd sl ho
    split at h1
    · rename_i D bm k0 k1 k2 k3 n k5 hm hs
      obtain ⟨a1, h1⟩ := Bool.and_eq_true_iff.mp h1
      obtain ⟨a2, h1⟩ := Bool.and_eq_true_iff.mp h1
      obtain ⟨a3, h1⟩ := Bool.and_eq_true_iff.mp h1
      obtain ⟨a4, a5⟩ := Bool.and_eq_true_iff.mp h1
      obtain rfl := of_decide_eq_true a1
      obtain rfl := of_decide_eq_true a2
      obtain ⟨nm, bs, mro, ns, qn, hd, sn, sub, ab, col, del⟩ := cd
      dsimp only at hm a4 a5
      subst hm
      subst a4
      obtain rfl : del = false := by cases del <;> first | rfl | cases a5
      have e : sl = #[k0, k1, k2, k3, some (.builtin "ValueError.__new__"), k5] := by
        obtain ⟨l⟩ := sl
        dsimp only at hs
        rw [hs]
      subst e
      exact ⟨nm, qn, ns, bs, bm, sn, sub, ab, col, dd, k0, k1, k2, k3, k5, ho, a3⟩
    · cases h1
  · cases h1
def errB (K : Frag) (C : Addr) (fs ms : List Str) : Bool := oexB K C && (xfB K C && (He.eqO (findIn K (.ref C) "__class__") (some (some (.builtin "object.__class__"))) &&
  (He.eqO (specialIn K (.builtin "object.__class__") "__get__") (some (some (.builtin "getset_descriptor.__get__"))) && (decide (takesIn K (.builtin "object.__class__") = some true) && (decide (mroIn K C (.type "object") = some true) &&
  ((fs.all fun f => He.eqO (findIn K (.ref C) f) (some none)) && ((ms.all fun m => He.eqO (findIn K (.ref C) m) (some (some (.ref (He.ma K C m)))) && isFn K (.ref (He.ma K C m))))))))))
structure ErrX (K : Frag) (C : Addr) (fs ms : List Str) : Prop where
  ec : ErrC K C
  no : ∀ f ∈ fs, findIn K (.ref C) f = some none
  me : ∀ m ∈ ms, findIn K (.ref C) m = some (some (.ref (He.ma K C m))) ∧ isFn K (.ref (He.ma K C m)) = true
theorem errB_ok {K : Frag} {C : Addr} {fs ms : List Str} (h : errB K C fs ms = true) : ErrX K C fs ms := by
  obtain ⟨h1, h⟩ := Bool.and_eq_true_iff.mp h
  obtain ⟨h2, h⟩ := Bool.and_eq_true_iff.mp h
  obtain ⟨h3, h⟩ := Bool.and_eq_true_iff.mp h
  obtain ⟨h4, h⟩ := Bool.and_eq_true_iff.mp h
  obtain ⟨h5, h⟩ := Bool.and_eq_true_iff.mp h
  obtain ⟨h6, h⟩ := Bool.and_eq_true_iff.mp h
  obtain ⟨h7, h8⟩ := Bool.and_eq_true_iff.mp h
  refine ⟨⟨oexB_ok h1, xfB_ok h2, He.eqO_ok h3, He.eqO_ok h4, of_decide_eq_true h5, of_decide_eq_true h6⟩, fun f hf => He.eqO_ok (List.all_eq_true.mp h7 f hf), fun m hm => ?_⟩
  obtain ⟨a, b⟩ := Bool.and_eq_true_iff.mp (List.all_eq_true.mp h8 m hm)
  exact ⟨He.eqO_ok a, b⟩

/-! ### a def of the module, called by its name -/
structure FnAt (P : Program) (w : World) (K : Frag) (mg : Str → Option Value) (base : Heap) (CX : CXT) (k : Nat) (x : Str) (ps : List Str) (sp : Sp) : Prop where
  ex : ∃ (f : Addr) (fd : FuncData), mg x = some (.ref f) ∧ keepIn K (.ref f) = true ∧ FnOk P w K mg base CX k f fd ps sp ∧ Binds K fd ps []
section
variable {X : Cx} {CX : CXT} {k : Nat} {x : Str} {ps : List Str} {sp : Sp} {E : XK} {e : Expr} {es : List Expr} {t : TA} {p pos : Pos}
theorem pe_fn (G : FnAt X.prog X.w X.K X.mg X.base CX k x ps sp) (hr : Room k X.A) (hx : Passes CX X E) (hg : Gl X x) (ha : PA X (e :: es) t)
    (hdb : (x == ("__debug__" : Str)) = false := by decide) (he : starEach (e :: es) X.env = (false, eval e X.env) :: starEach es X.env := by rfl) (hpl : (backTo pos (starEach es X.env)).any (·.1) = false := by rfl) :
    PE X (.Call (.Name x p) (e :: es) [] pos) (tCall sp [] E t) := by
  obtain ⟨f, fd, hm, kp, F, hb⟩ := G.ex
  exact pe_call F hr hg hm kp hb .nil hx ha hdb he hpl
end
/-! ### an error class, its instances as values -/
/-- at a: an error of the class at C, its dict at d holds fs -/
def mkE (H : Hp) (a C d : Addr) (fs : List (Str × V)) : Hp := upd (upd H d (exd d fs)) a (exo a C (some d))
/-- __init__(self, f): self.f = f -/
def spI1 (C : Addr) (f : Str) : Sp := fun vs H Q _ => ∃ (a : Addr) (v : V), vs = [.ref a, v] ∧ H a = some (exo a C none) ∧ ∀ d, H d = none → d ≠ a → Q .non (mkE H a C d [(f, v)])
def spI2 (C : Addr) (f g : Str) : Sp := fun vs H Q _ => ∃ (a : Addr) (v u : V), vs = [.ref a, v, u] ∧ H a = some (exo a C none) ∧ ∀ d, H d = none → d ≠ a → Q .non (mkE H a C d [(g, u), (f, v)])
def spS (z : Str) : Sp := fun vs H Q _ => ∃ v, vs = [v] ∧ Q (.str z) H
theorem mkE_new {H : Hp} {a C d : Addr} {fs : List (Str × V)} (ne : d ≠ a) : mkE (upd H a (exo a C none)) a C d fs = mkE H a C d fs := by
  funext b
  unfold mkE
  by_cases h : b = a
  · rw [h, upd_same, upd_same]
  · rw [upd_ne h, upd_ne h]
    by_cases h2 : b = d
    · rw [h2, upd_same, upd_same]
    · rw [upd_ne h2, upd_ne h2, upd_ne h]
/-- an error as a value -/
def ErrV (H : Hp) (v : V) (C : Addr) (fs : List (Str × V)) : Prop := ∃ a d, v = .ref a ∧ H a = some (exo a C (some d)) ∧ H d = some (exd d fs)
theorem ErrV.same {H H' : Hp} {v : V} {C : Addr} {fs : List (Str × V)} (h : ErrV H v C fs) (s : Same H H') : ErrV H' v C fs := by
  obtain ⟨a, d, e, h1, h2⟩ := h
  exact ⟨a, d, e, s _ _ h1, s _ _ h2⟩
theorem mkE_same {H : Hp} {a C d : Addr} {fs : List (Str × V)} (ha : H a = none) (hd : H d = none) : Same H (mkE H a C d fs) := fun b o e => by
  unfold mkE
  rw [upd_ne (ne_of_none e ha), upd_ne (ne_of_none e hd)]
  exact e
theorem mkE_err {H : Hp} {a C d : Addr} {fs : List (Str × V)} (ne : d ≠ a) : ErrV (mkE H a C d fs) (.ref a) C fs :=
  ⟨a, d, rfl, upd_same, by unfold mkE; rw [upd_ne ne, upd_same]⟩
def IniOk (P : Program) (w : World) (K : Frag) (mg : Str → Option Value) (base : Heap) (C : Addr) (fs : List Str) (fd : FuncData) : Prop := match fs with
  | [f] => FnOk P w K mg base CX0 1 (He.ma K C "__init__") fd ["self", f] (spI1 C f)
  | [f, g] => FnOk P w K mg base CX0 1 (He.ma K C "__init__") fd ["self", f, g] (spI2 C f g)
  | _ => False
/-- the class x, its __init__ (f or f, g), its told -/
structure ErrAt (P : Program) (w : World) (K : Frag) (mg : Str → Option Value) (base : Heap) (x : Str) (C : Addr) (fs : List Str) (z : Str) : Prop where
  mgC : mg x = some (.ref C)
  ex : ErrX K C fs ["told"]
  ini : findIn K (.ref C) "__init__" = some (some (.ref (He.ma K C "__init__"))) ∧ typeIn K (.ref (He.ma K C "__init__")) = some (.type "function")
  iok : ∃ fd, Binds K fd ("self" :: fs) [] ∧ IniOk P w K mg base C fs fd
  tok : ∃ fd, Binds K fd ["self"] [] ∧ keepIn K (.ref (He.ma K C "told")) = true ∧ FnOk P w K mg base CX0 1 (He.ma K C "told") fd ["self"] (spS z)
/-- the fields of an error that is made, as its dict holds them -/
def fldE : List Str → List V → List (Str × V)
  | [f], [v] => [(f, v)]
  | [f, g], [v, u] => [(g, u), (f, v)]
  | _, _ => []
def tErr (C : Addr) (fs : List Str) (ta : TA) : TE := fun σ H Q => ta σ H fun vs H1 => vs.length = fs.length ∧ ∀ v H2, Same H1 H2 → ErrV H2 v C (fldE fs vs) → Q v H2
section
variable {X : Cx} {x z : Str} {C : Addr} {fs : List Str} {e : Expr} {es : List Expr} {ta : TA} {p pos : Pos}
theorem pe_err (T : ErrAt X.prog X.w X.K X.mg X.base x C fs z) (hr : Room 2 X.A) (hx : Passes CX0 X (fun _ _ _ => False)) (hg : Gl X x) (ha : PA X (e :: es) ta)
    (hdb : (x == ("__debug__" : Str)) = false := by decide) (he : starEach (e :: es) X.env = (false, eval e X.env) :: starEach es X.env := by rfl) (hpl : (backTo pos (starEach es X.env)).any (·.1) = false := by rfl) :
    PE X (.Call (.Name x p) (e :: es) [] pos) (tErr C fs ta) := by
  obtain ⟨fd, hb, iok⟩ := T.iok
  refine ⟨fun pins s σ H Q I h => ?_⟩
  refine wpAny_Call_Name_kw (ld_glob I hg T.mgC ?_ hdb)
  refine callWith_K (h₀ := X.base) I.ok.mod.kin T.ex.ec.ox.kC (thn (ha.run pos pins s σ H _ I h) fun us s1 ⟨vs, H1, I1, r1, hz, q1⟩ => ⟨I1.kIn, ?_⟩) he hpl
  have ox := T.ex.ec.ox
  have i1 := T.ini.1
  have i2 := T.ini.2
  clear T
  match fs, vs, iok, hz, hb, q1 with
  | [f], [v], iok, _, hb, q1 =>
    exact run_mkE ox i1 i2 iok hr hb hx I1 r1 (by show 1 ≤ 1000; decide) fun a ha1 => ⟨a, v, rfl, upd_same, fun d hd ne => ⟨rfl, by
      rw [upd_ne ne] at hd
      rw [mkE_new ne]
      exact q1 _ _ (mkE_same ha1 hd) (mkE_err ne)⟩⟩
  | [f, g], [v, u], iok, _, hb, q1 =>
    exact run_mkE ox i1 i2 iok hr hb hx I1 r1 (by show 2 ≤ 1000; decide) fun a ha1 => ⟨a, v, u, rfl, upd_same, fun d hd ne => ⟨rfl, by
      rw [upd_ne ne] at hd
      rw [mkE_new ne]
      exact q1 _ _ (mkE_same ha1 hd) (mkE_err ne)⟩⟩
end

/-! ### the bodies of such a class's methods -/
section
variable {P : Program} {w : World} {K : Frag} {mg : Str → Option Value} {base : Heap} {x qual f g z : Str} {pa : Arguments} {sc : Scope} {dvs : List V} {kws : List (Str × V)} {fA : Addr} {fd : FuncData} {C : Addr} {p1 p2 p3 p4 q1 q2 q3 q4 : Pos} {j : Nat}
theorem ok_told {kk} (F : FunD K x qual pa [.Return (some (.Constant (.str z) kk p1)) p2] sc dvs kws fA fd) (S : FnScope ["self"] ["self"] sc) : FnOk P w K mg base CX0 1 fA fd ["self"] (spS z) := by
  refine F.ok S (fun vs H Q E h => ?_) (fun cdv A outer s H vs Q E hr h => ⟨_, PSs.nox (pss_one (ps_ret pe_str)), ?_⟩)
  · obtain ⟨v, rfl, _⟩ := h
    rfl
  · obtain ⟨v, rfl, q⟩ := h
    exact q
theorem ok_init1 (F : FunD K x qual pa [.Assign [.Attribute (.Name "self" p1) f p2] (.Name f p3) p4] sc dvs kws fA fd) (S : FnScope ["self", f] ["self", f] sc) (T : ErrX K C [f] ["told"])
    (ls : sc.names.lookup ("self" : Str) = some NameKind.local) (lf : sc.names.lookup f = some NameKind.local) (d1 : (f == ("__debug__" : Str)) = false) (d2 : (f == ("__classdict__" : Str)) = false) : FnOk P w K mg base CX0 1 fA fd ["self", f] (spI1 C f) := by
  refine F.ok S (fun vs H Q E h => ?_) (fun cdv A outer s H vs Q E hr h => ⟨_, PSs.nox (pss_one (ps_ost (pe_var (i := 0) rfl (.inl ls)) (pe_var (i := 1) rfl (.inl lf) d1 d2))), ?_⟩)
  · obtain ⟨a, v, rfl, _⟩ := h
    rfl
  · obtain ⟨a, v, rfl, ha, q⟩ := h
    exact ⟨_, rfl, _, rfl, a, C, rfl, T.ec.ox, T.no f (List.mem_singleton_self _), .inl ⟨ha, q⟩⟩
theorem ok_init2 (F : FunD K x qual pa [.Assign [.Attribute (.Name "self" p1) f p2] (.Name f p3) p4, .Assign [.Attribute (.Name "self" q1) g q2] (.Name g q3) q4] sc dvs kws fA fd) (S : FnScope ["self", f, g] ["self", f, g] sc) (T : ErrX K C [f, g] ["told"])
    (ls : sc.names.lookup ("self" : Str) = some NameKind.local) (lf : sc.names.lookup f = some NameKind.local) (d1 : (f == ("__debug__" : Str)) = false) (d2 : (f == ("__classdict__" : Str)) = false)
    (lg : sc.names.lookup g = some NameKind.local) (d3 : (g == ("__debug__" : Str)) = false) (d4 : (g == ("__classdict__" : Str)) = false) : FnOk P w K mg base CX0 1 fA fd ["self", f, g] (spI2 C f g) := by
  refine F.ok S (fun vs H Q E h => ?_) (fun cdv A outer s H vs Q E hr h => ⟨_, PSs.nox (pss_cons (ps_ost (pe_var (i := 0) rfl (.inl ls)) (pe_var (i := 1) rfl (.inl lf) d1 d2))
    (pss_one (ps_ost (pe_var (i := 0) rfl (.inl ls)) (pe_var (i := 2) rfl (.inl lg) d3 d4)))), ?_⟩)
  · obtain ⟨a, v, u, rfl, _⟩ := h
    rfl
  · obtain ⟨a, v, u, rfl, ha, q⟩ := h
    refine ⟨_, rfl, _, rfl, a, C, rfl, T.ec.ox, T.no f (List.mem_cons_self ..), .inl ⟨ha, fun d hd ne => ?_⟩⟩
    refine ⟨_, rfl, _, rfl, a, C, rfl, T.ec.ox, T.no g (List.mem_cons_of_mem _ (List.mem_singleton_self _)), .inr ⟨d, _, upd_same, by rw [upd_ne ne, upd_same], by show 1 ≤ 900; decide, ?_⟩⟩
    have z := q d hd ne
    have e : mkE H a C d [(g, u), (f, v)] = upd (upd (upd H d (exd d [(f, v)])) a (exo a C (some d))) d (exd d [(g, u), (f, v)]) := by
      funext b
      unfold mkE
      by_cases h1 : b = a
      · rw [h1, upd_same, upd_ne (Ne.symm ne), upd_same]
      · by_cases h2 : b = d
        · rw [h2, upd_ne ne, upd_same, upd_same]
        · rw [upd_ne h1, upd_ne h2, upd_ne h2, upd_ne h1, upd_ne h2]
    rw [e] at z
    exact z
end
end L2.Jk

set_option Elab.async false
set_option linter.all false
set_option maxRecDepth 100000
set_option maxHeartbeats 4000000
/-! A few operations over lists that may be read only; displays whose heap behind is not told but for what is new. -/
namespace L2.Jk
open PySem PySem.W PySem.Spec PySem.Calls PyProof.Rows

section
variable {X : Cx}
/-- xs + ys, whatever lists they are -/
def rCatS (K : Frag) : R2 := fun x y H Q => ∃ l b xs zs, x = .ref l ∧ y = .ref b ∧ SqL K H l xs ∧ SqL K H b zs ∧ xs.length + zs.length ≤ sizeLine ∧ ∀ p H', H p = none → Same H H' → H' p = some (.lst (xs ++ zs)) → Q (.ref p) H'
theorem op_catS : OpR X (binaryOp .Add) (rCatS X.K) := by
  intro pins s σ H x y v u Q I rx ry h
  obtain ⟨l, b, xs, zs, rfl, rfl, hl, hb, hz, q⟩ := h
  cases rx
  cases ry
  obtain ⟨i1, r1, ⟨o1, n1, g1, c1, d1, e1⟩, z1⟩ := I.list hl
  obtain ⟨i2, r2, ⟨o2, n2, g2, c2, d2, e2⟩, z2⟩ := I.list hb
  obtain ⟨k1, f1, t1, s1⟩ := o1
  obtain ⟨k2, f2, t2, s2⟩ := o2
  dsimp only at c1 d1 e1 c2 d2 e2
  subst c1 d1 e1 c2 d2 e2
  have hs : i1.length + i2.length ≤ sizeLine := by rw [← r1.length, ← r2.length]; exact hz
  refine concat_meets ⟨_, g1, rfl⟩ ⟨_, g2, rfl⟩ noFill_list_add seq_list_add PySem.F.slot_list_add PySem.F.entry_list_add (PySem.F.args_list_add_2 _ _)
    (list_addW l b i1.toArray i2.toArray n1 n2 none none s1 s2 (by simpa using hs)) ⟨g1, g2, ?_⟩
  rw [show i1.toArray ++ i2.toArray = (i1 ++ i2).toArray by simp]
  refine ⟨.ref _, _, I.lnew (t' := s.toks) (r1.append r2) (by rw [List.length_append]; exact hz), rfl, q _ _ I.fresh (fun c o z => ?_) upd_same⟩
  rw [upd_ne (ne_of_none z I.fresh)]
  exact z
/-- a display: where it stands is new, all else as before -/
def tLstS (t : TA) : TE := fun σ H Q => t σ H fun xs H1 => xs.length ≤ 1000 ∧ ∀ p H', H1 p = none → Same H1 H' → H' p = some (.lst xs) → Q (.ref p) H'
def tTupS (t : TA) : TE := fun σ H Q => t σ H fun xs H1 => xs.length ≤ 1000 ∧ ∀ p H', H1 p = none → Same H1 H' → H' p = some (.tup xs) → Q (.ref p) H'
theorem same_upd {H : Hp} {p : Addr} {o : HO} (h : H p = none) : Same H (upd H p o) := fun c u z => by
  rw [upd_ne (ne_of_none z h)]
  exact z
theorem pe_lstS {es : List Expr} {t : TA} {pos : Pos} (ha : PA X es t) : PE X (.List es pos) (tLstS t) := by
  constructor
  intro pins s σ H Q I h
  refine wpAny_List_spliced (thn (ha.run pos pins s σ H _ I h) fun us s1 ⟨xs, H1, I1, r, z, q⟩ => ?_)
  have z' := Nat.le_of_lt (small1000 z)
  have n : H1 s1.heap.objs.size = none := I1.fresh
  exact ⟨by rw [← r.length]; exact z', .ref s1.heap.objs.size, _, I1.lnew (t' := s1.toks) r z', rfl, q _ _ n (same_upd n) upd_same⟩
theorem pe_tupS {es : List Expr} {t : TA} {pos : Pos} {k} (ha : PA X es t) : PE X (.Tuple es k pos) (tTupS t) := by
  constructor
  intro pins s σ H Q I h
  refine wpAny_Tuple_spliced (thn (ha.run pos pins s σ H _ I h) fun us s1 ⟨xs, H1, I1, r, z, q⟩ => ?_)
  have z' := Nat.le_of_lt (small1000 z)
  have n : H1 s1.heap.objs.size = none := I1.fresh
  refine ⟨by rw [← r.length]; exact z', .ref s1.heap.objs.size, _, I1.laid (t' := s1.toks) (o := .tup xs) (fun b u e => Heap.get?_push_of_some _ e) (Nat.le_refl _) ?_, rfl, q _ _ n (same_upd n) upd_same⟩
  exact ⟨z', us, r, IsTup.new _ _⟩
/-- xs[lo:hi] of a list -/
def rSlS (K : Frag) : V → Option Int → Option Int → Hp → VK → Prop := fun x lo hi H Q => ∃ a xs, x = .ref a ∧ SqL K H a xs ∧ ∀ p H', H p = none → Same H H' → H' p = some (.lst (cutV xs lo hi)) → Q (.ref p) H'
theorem sl_listS : SlR X (rSlS X.K) := by
  intro pins s σ H x v vl vu lo hi sl Q I rx hs pl pu h
  obtain ⟨a, xs, e, hx, q⟩ := h
  exact sl_list pins s σ H x v vl vu lo hi sl Q I rx hs pl pu ⟨a, xs, e, hx, fun p hp => q p _ hp (same_upd hp) upd_same⟩
end
/-- what may change at one place alone -/
def But (a : Addr) (H H' : Hp) : Prop := ∀ c o, c ≠ a → H c = some o → H' c = some o
theorem But.of_same {a : Addr} {H H' : Hp} (s : Same H H') : But a H H' := fun c o _ h => s c o h
theorem But.refl (a : Addr) (H : Hp) : But a H H := fun _ _ _ h => h
theorem But.trans {a : Addr} {H H1 H2 : Hp} (x : But a H H1) (y : But a H1 H2) : But a H H2 := fun c o n h => y c o n (x c o n h)
theorem but_upd (H : Hp) (a : Addr) (o : HO) : But a H (upd H a o) := fun c u n h => by
  rw [upd_ne n]
  exact h
/-! ### data stays -/
theorem SqT.same {K : Frag} {H H' : Hp} {a : Addr} {xs : List V} (e : Same H H') (h : SqT K H a xs) : SqT K H' a xs := by
  rcases h with (h | ⟨o, h⟩) | h
  · exact .inl (.inl (e _ _ h))
  · exact .inl (.inr ⟨o, e _ _ h⟩)
  · exact .inr h
/-- a class or a def of the module, a built-in type, as a value -/
theorem pe_gref {X : Cx} {x : Str} {a : Addr} {pos : Pos} (hg : Gl X x) (hm : X.mg x = some (.ref a)) (hd : (x == ("__debug__" : Str)) = false := by decide) : PE X (.Name x pos) (tC (.ref a)) := pe_glob (v := .ref a) hg hm rfl hd
theorem pe_bty {X : Cx} {x : Str} {n : String} {pos : Pos} (hg : Gl X x) (hm : X.mg x = none) (hv : bootBuiltins x = some (.type n)) (hn : x ≠ "__name__" := by decide) (hd : (x == ("__debug__" : Str)) = false := by decide) : PE X (.Name x pos) (tC (.ty n)) :=
  pe_bltn (v := .ty n) hg hm hv rfl hn hd
/-! ### a new list that a comprehension fills: fm i is what it holds behind i turns -/
def LcP (H1 : Hp) (D : Addr) (fm : Nat → List V) (i : Nat) (H : Hp) : Prop := Same H1 H ∧ H1 D = none ∧ H D = some (.lst (fm i)) ∧ (fm i).length ≤ i
theorem LcP.start {H1 : Hp} {D : Addr} {fm : Nat → List V} (h : H1 D = none) (e : fm 0 = []) : LcP H1 D fm 0 (upd H1 D (.lst [])) :=
  ⟨same_upd h, h, by rw [upd_same, e], by rw [e]; exact Nat.le_refl _⟩
theorem LcP.put {H1 H H4 : Hp} {D : Addr} {fm : Nat → List V} {i : Nat} {y : V} (p : LcP H1 D fm i H) (s : Same H H4) (e : fm (i + 1) = fm i ++ [y]) (hi : i < 10000) :
    ∃ acc, H4 D = some (.lst acc) ∧ acc.length < sizeLine ∧ LcP H1 D fm (i + 1) (upd H4 D (.lst (acc ++ [y]))) := by
  obtain ⟨s0, n, d, l⟩ := p
  refine ⟨fm i, s _ _ d, ?_, fun c o z => ?_, n, by rw [upd_same, e], by rw [e, List.length_append, List.length_singleton]; omega⟩
  · rw [sizeLine_eq]
    omega
  · rw [upd_ne (ne_of_none z n)]
    exact s _ _ (s0 _ _ z)
theorem LcP.pass {H1 H H4 : Hp} {D : Addr} {fm : Nat → List V} {i : Nat} (p : LcP H1 D fm i H) (s : Same H H4) (e : fm (i + 1) = fm i) : LcP H1 D fm (i + 1) H4 := by
  obtain ⟨s0, n, d, l⟩ := p
  exact ⟨s0.trans s, n, by rw [e]; exact s _ _ d, by rw [e]; omega⟩
/-! ### data that stays where one place alone changes -/
def Per (a : Addr) (K : Frag) (H : Hp) (x : V) (d : PyData) : Prop := ∀ H', But a H H' → Dp K H' x d
theorem Per.but {a : Addr} {K : Frag} {H H1 : Hp} {x : V} {d : PyData} (p : Per a K H x d) (b : But a H H1) : Per a K H1 x d := fun H' b' => p H' (b.trans b')
theorem Per.same {a : Addr} {K : Frag} {H H1 : Hp} {x : V} {d : PyData} (p : Per a K H x d) (s : Same H H1) : Per a K H1 x d := p.but (But.of_same s)
theorem Per.dp {a : Addr} {K : Frag} {H : Hp} {x : V} {d : PyData} (p : Per a K H x d) : Dp K H x d := p H (But.refl a H)
theorem Per.lst {a p : Addr} {K : Frag} {H : Hp} {xs : List V} {ds : List PyData} (ne : p ≠ a) (h : H p = some (.lst xs)) (q : ∀ H', But a H H' → DpAll K H' xs ds) : Per a K H (.ref p) (.list ds) :=
  fun H' b => .lst (SqL.of (b _ _ ne h)) (q H' b)
theorem Per.tup {a p : Addr} {K : Frag} {H : Hp} {xs : List V} {ds : List PyData} (ne : p ≠ a) (h : H p = some (.tup xs)) (q : ∀ H', But a H H' → DpAll K H' xs ds) : Per a K H (.ref p) (.tuple ds) :=
  fun H' b => .tup (SqT.of (b _ _ ne h)) (q H' b)
theorem dp_one {K : Frag} {H : Hp} {p : Addr} {x : V} {d : PyData} (h : H p = some (.lst [x])) (q : Dp K H x d) : Dp K H (.ref p) (.list [d]) := .lst (SqL.of h) (.cons q .nil)
theorem dp_two {K : Frag} {H : Hp} {p : Addr} {x y : V} {d e : PyData} (h : H p = some (.lst [x, y])) (q : Dp K H x d) (r : Dp K H y e) : Dp K H (.ref p) (.list [d, e]) := .lst (SqL.of h) (.cons q (.cons r .nil))
theorem eqv_same {d : PyData} (h : SeqAt.shaped d = true) : PyData.eqv d d = true := SeqAt.eqv_refl d (SeqAt.canLay_of_shaped h)
theorem ne_new {H : Hp} {a b : Addr} {o : HO} (h : H a = some o) (n : H b = none) : b ≠ a := Ne.symm (ne_of_none h n)
end L2.Jk

set_option Elab.async false
set_option linter.all false
set_option maxRecDepth 100000
set_option maxHeartbeats 4000000
/-! == and != of instances by the text's own __eq__, whatever it answers. -/
namespace L2.Jk
open PySem PySem.W PySem.Spec PySem.Calls PyProof.Rows

/-! ### what the head says of a class with an own __eq__ and no __ne__, by one Bool -/
def eqcB (K : Frag) (C : Addr) : Bool := He.eqO (findIn K (.ref C) "__eq__") (some (some (.ref (He.ma K C "__eq__")))) && (isFn K (.ref (He.ma K C "__eq__")) && (match K.lookup C with
  | some ⟨.type "type", _, .cls cd, sl⟩ => (match cd.mro, sl.toList with
    | .ref D :: bm, [_, _, _, _, some (.builtin _), _] => decide (D = C) && (decide (bm = [.type "object"]) && (!cd.hasDel && (nsOkIn K cd.ns && (decide (nsIn K cd.ns "__eq__" = some (some (.ref (He.ma K C "__eq__")))) && decide (nsIn K cd.ns "__ne__" = some none)))))
    | _, _ => false)
  | _ => false))
structure EqcC (K : Frag) (C : Addr) : Prop where
  find : findIn K (.ref C) "__eq__" = some (some (.ref (He.ma K C "__eq__")))
  fn : isFn K (.ref (He.ma K C "__eq__")) = true
  cls : ∃ nm q N bs hdct sn sub ab col dd k0 k1 k2 k3 k5 nid, K.lookup C = some (excClassObj nm q C N bs [.type "object"] hdct sn sub ab col dd k0 k1 k2 k3 k5 nid) ∧ nsOkIn K N = true ∧
    nsIn K N "__eq__" = some (some (.ref (He.ma K C "__eq__"))) ∧ nsIn K N "__ne__" = some none
theorem eqcB_ok {K : Frag} {C : Addr} (h : eqcB K C = true) : EqcC K C := by
  obtain ⟨h1, h⟩ := Bool.and_eq_true_iff.mp h
  obtain ⟨h2, h3⟩ := Bool.and_eq_true_iff.mp h
  refine ⟨He.eqO_ok h1, h2, ?_⟩
  split at h3
  · rename_i dd cd sl ho
    split at h3
    · rename_i D bm k0 k1 k2 k3 n k5 hm hs
      obtain ⟨a1, h3⟩ := Bool.and_eq_true_iff.mp h3
      obtain ⟨a2, h3⟩ := Bool.and_eq_true_iff.mp h3
      obtain ⟨a3, h3⟩ := Bool.and_eq_true_iff.mp h3
      obtain ⟨a4, h3⟩ := Bool.and_eq_true_iff.mp h3
      obtain ⟨a5, a6⟩ := Bool.and_eq_true_iff.mp h3
      obtain rfl := of_decide_eq_true a1
      obtain rfl := of_decide_eq_true a2
      obtain ⟨nm, bs, mro, ns, qn, hd, sn, sub, ab, col, del⟩ := cd
      dsimp only at hm a3 a4 a5 a6
      subst hm
      obtain rfl : del = false := by cases del <;> first | rfl | cases a3
      have e : sl = #[k0, k1, k2, k3, some (.builtin n), k5] := by
        obtain ⟨l⟩ := sl
        dsimp only at hs
        rw [hs]
      subst e
      exact ⟨nm, qn, ns, bs, hd, sn, sub, ab, col, dd, k0, k1, k2, k3, k5, n, ho, a4, of_decide_eq_true a5, of_decide_eq_true a6⟩
    · cases h3
  · cases h3

section
variable {X : Cx} {CX : CXT} {E : XK}
/-- x == y, x an instance with an own __eq__: what that answers -/
def rEqO (X : Cx) (CX : CXT) (E : XK) : R2 := fun x y H Q => ∃ (a C dx : Addr) (fs : List (Str × V)) (t : Value), x = .ref a ∧ H a = some (.ins C dx fs) ∧ EqcC X.K C ∧ TyE X.K H y t ∧ notFirst X.K C t = true ∧
  Does X CX (He.ma X.K C "__eq__") [x, y] H (fun v H' => ∃ b, v = .bl b ∧ Q (.bl b) H') E
theorem op_eqO (hx : Passes CX X E) : OpR X (compareOp .Eq) (rEqO X CX E) := by
  intro pins s σ H x y v u Q I rx ry h
  obtain ⟨a, C, dx, fs, t, rfl, ha, T, ty, nf, k, fd, ps, sp, kp, F, hr, hb, q⟩ := h
  cases rx
  obtain ⟨mA, J, _⟩ := ins_get I.hok ha
  obtain ⟨od, J, _⟩ := J.look
  obtain ⟨m, hF⟩ := I.fr
  obtain ⟨P, Z, p, _⟩ := kit_ofE I ry ty
  have hty : Looks (model X.prog X.w) s.heap (typeOf u) t := Z.ty _ _ I.kIn p
  show wpAny (model X.prog X.w) X.A (richCompare .Eq (.ref a) u) (EP X pins σ Q) X.xe s
  refine cmp_K (op := .Eq) (tb := t) hr.units0 hF I.ok.mod.kin J hty nf T.find T.fn ?_
  refine wpAny_mono (run_fn (us := [.ref a, u]) (vs := [.ref a, y]) F hr hb .nil hx I (.cons rfl (.cons ry .nil)) q) (fun z s' hz => ?_) fun _ _ e => e
  obtain ⟨v', H', I', r', b, rfl, q'⟩ := hz
  obtain rfl : z = Value.bool b := r'
  exact ⟨.bl b, H', I', rfl, q'⟩
theorem ns_at_of {K : Frag} {h : Heap} {N : Addr} {mN : Str → Option Value} {n : Str} {v : Value} (X : K.In h) (G : h.Ns N mN) (e : nsIn K N n = some (some v)) : mN n = some v := by
  obtain ⟨o, es, ep, ho, hd, _, hf⟩ := G
  unfold nsIn at e
  split at e
  · rename_i q
    have z := X _ _ q
    rw [ho] at z
    cases z
    cases hd
    split at e
    · rename_i en he
      have ev : en.val = v := Option.some.inj (Option.some.inj e)
      rw [← hf]
      unfold nsFind findBy
      rw [← Array.find?_toList, he]
      exact congrArg some ev
    · split at e <;> cases e
  · cases e
/-- a call below a builtin -/
theorem run_in1 {k : Nat} {f : Addr} {fd : FuncData} {ps : List Str} {sp : Sp} {pins : List (Addr × Obj)} {σ : St} {H : Hp} {s : Shared} {Q : VK} {us : List Value} {vs : List V} (F : FnOk X.prog X.w X.K X.mg X.base CX k f fd ps sp) (hr : Room k X.A.in1)
    (hb : Binds X.K fd ps []) (hx : Passes CX X E) (I : Inv X pins σ H s) (r : Vals vs us) (h : sp vs H Q E) : wpAny (model X.prog X.w) X.A.in1 (call (.ref f) us) (EP X pins σ Q) X.xe s := by
  have hl : us.length = ps.length := by rw [← r.length]; exact F.len _ _ _ _ h
  have hb' := hb s us I.kIn (by rw [List.append_nil]; exact hl)
  rw [List.append_nil] at hb'
  refine wpAny_call (codeAny_mono (F.run X.A.in1 X.stack s H ⟨us, []⟩ us vs Q E hr I.env0.in1 hb' r h) fun r s' hq => ?_)
  cases r with
  | error e => exact hx pins σ H s e s' I hq
  | ok fl =>
    cases fl with
    | ret u => exact I.after hq
    | next => exact False.elim hq
    | brk => exact False.elim hq
    | cont => exact False.elim hq
/-- x != y, both instances of the class at C -/
def rNeO (X : Cx) (CX : CXT) (E : XK) : R2 := fun x y H Q => ∃ (a b C dx dy : Addr) (fs gs : List (Str × V)), x = .ref a ∧ y = .ref b ∧ H a = some (.ins C dx fs) ∧ H b = some (.ins C dy gs) ∧ EqcC X.K C ∧
  ∃ (k : Nat) (fd : FuncData) (ps : List Str) (sp : Sp), keepIn X.K (.ref (He.ma X.K C "__eq__")) = true ∧ FnOk X.prog X.w X.K X.mg X.base CX k (He.ma X.K C "__eq__") fd ps sp ∧ Room (k + 1) X.A ∧ Binds X.K fd ps [] ∧ sp [x, y] H (fun v H' => ∃ b, v = .bl b ∧ Q (.bl !b) H') E
theorem op_neO (hx : Passes CX X E) : OpR X (compareOp .NotEq) (rNeO X CX E) := by
  intro pins s σ H x y v u Q I rx ry h
  obtain ⟨a, b, C, dx, dy, fs, gs, rfl, rfl, ha, hb', T, k, fd, ps, sp, kp, G, hr, hb, q⟩ := h
  cases rx
  cases ry
  obtain ⟨mA, J, _⟩ := ins_get I.hok ha
  obtain ⟨mB, J', _⟩ := ins_get I.hok hb'
  obtain ⟨od, J, _⟩ := J.look
  obtain ⟨od', J', _⟩ := J'.look
  obtain ⟨nm, qn, N, bs, hdct, sn, sub, ab, col, dd, k0, k1, k2, k3, k5, nid, hC, ok, ne1, ne2⟩ := T.cls
  have hn : s.heap.Ns N (s.heap.nsMap N) := .of_isNs (isNs_of_in I.kIn ok)
  obtain ⟨of, hof, hcl⟩ := Option.map_eq_some_iff.mp (show (X.K.lookup (He.ma X.K C "__eq__")).map (·.cls) = some (.type "function") from beq_iff_eq.mp T.fn)
  have own : s.heap.OwnEqNoNe a C (He.ma X.K C "__eq__") "object" [.type "object"] := ⟨_, of, nm, qn, N, bs, hdct, sn, sub, ab, col, dd, k0, k1, k2, k3, k5, nid, _, _, J.at_, rfl, I.kIn _ _ hC, hn, ns_at_of I.kIn hn ne1,
    I.kIn _ _ hof, hcl, F.cmp_object.mro, F.cmp_object.eq.lookup, ns_none_of I.kIn hn ne2⟩
  obtain ⟨hp, g, d, tk, os⟩ := s
  refine compareOp_ne_ownEq F.cmp_object own J'.at_ rfl (by have := hr.units; omega) ?_
  refine wpAny_mono (run_in1 (us := [.ref a, .ref b]) (vs := [.ref a, .ref b]) G hr.in1 hb hx I (.cons rfl (.cons rfl .nil)) q) (fun z s' hz => ?_) fun _ _ e => e
  obtain ⟨v', H', I', r', b', rfl, q'⟩ := hz
  obtain rfl : z = Value.bool b' := r'
  exact ⟨b', rfl, .bl !b', H', I', rfl, q'⟩
end
end L2.Jk

set_option Elab.async false
set_option linter.all false
set_option maxRecDepth 100000
set_option maxHeartbeats 4000000
/-! int(text) of up to 4,300 digits, where the interpreter's limit on digits stands as it was. -/
namespace L2.Jk
open PySem PySem.W PySem.Spec PySem.Calls PySem.NumText PyProof.Rows PySem.W.KIN

theorem wp_textW {M : Model} {A : Around} {E : Value → Shared → Prop} {s : Shared} {Q : Value → Shared → Prop} {v : Value} {text : List Nat} {n : Int}
    (hd : s.heap.NoDigits) (hs : ¬ (text.takeWhile (· != 0)).length ≤ 640) (hr : (int_private% "readNumeral") 4300 10 (text.takeWhile (· != 0)) = (int_private% "Numeral.value") n)
    (ha : ((text.takeWhile (· != 0)).length == text.length) = true) (h : Q (.int n s.toks) { s with toks := s.toks + 1 }) :
    wpAny M A ((int_private% "intFromText") v text 10) Q E s := by
  obtain ⟨mc, hns, hnone⟩ := hd
  have key : wpAny M A (Builtin.intMaxStrDigits) (fun l s' => l = 4300 ∧ s' = s) E s := by
    unfold Builtin.intMaxStrDigits
    refine wpAny_bind (wpAny_nsGet hns ?_)
    rw [hnone]
    exact wpAny_pure ⟨rfl, rfl⟩
  obtain ⟨hp, g, d, tk, os⟩ := s
  show wpAny M A (do
    let limit ← if (text.takeWhile (· != 0)).length ≤ 640 then pure 0 else Builtin.intMaxStrDigits
    _) Q E _
  rw [if_neg hs]
  refine wpAny_bind (wpAny_mono key ?_ (fun _ _ x => x))
  rintro l s' ⟨rfl, rfl⟩
  dsimp only
  rw [hr]
  repeat (any_goals (first
    | assumption
    | (with_reducible refine wpAny_ite_true ha ?_)
    | wp_step))

set_option maxHeartbeats 4000000 in
theorem meets_textW {x : PySem.Str} {u : Tok} {n : Int} (hl : ¬ (numSeenOf x).length ≤ 640) (hl2 : x.length ≤ sizeLine) (hn : PySem.intText? x = some n) :
    Meets (Builtin.«int.__new__» ⟨[.type "int", .str x u], []⟩) (fun A R s => s.heap.NoDigits ∧ R (.ok (.ret (.int n s.toks))) { s with toks := s.toks + 1 }) :=
  .of_wp fun prog w A R s h => by
    have hr : (int_private% "readNumeral") 4300 10 (numSeenOf x) = (int_private% "Numeral.value") n ∧ ((numSeenOf x).length == (numTextOf x).length) = true := by
      rcases read4300 x hl2 with ⟨m, h1, h2, h3⟩ | ⟨h1, _⟩
      · rw [hn] at h1
        injection h1 with h1
        subst h1
        exact ⟨h3, h2⟩
      · rw [hn] at h1
        cases h1
    obtain ⟨hd, h⟩ := h
    have hd2 := Hid.mk hd
    obtain ⟨hp, g, d, tk, os⟩ := s
    have f1 := F.conv_sub_int
    have f2 := F.madeHere_int
    have f3 := str_int
    have f4 := str_idx
    have f5 := str_trunc
    have f6 : typeOf (.str x u) = pure (.type "str") := rfl
    have hk := Hid.mk (And.intro hl hr)
    clear hr hl hl2 hn hd
    repeat (any_goals (first
      | assumption
      | ((with_reducible show wpAny _ _ ((int_private% "intFromText") _ _ _) _ _ _); refine wp_textW hd2.out hk.out.1 hk.out.2.1 hk.out.2.2 ?_)
      | wp_step))
    all_goals first | exact ⟨_, rfl, h⟩ | skip
theorem call_textW {prog : Program} {w : World} {A : Around} {E : Value → Shared → Prop} {s : Shared} {Q : Value → Shared → Prop} {x : PySem.Str} {t : Tok} {n : Int} (hd : s.heap.NoDigits) (hn : PySem.intText? x = some n) (hl : x.length ≤ 640 ∨ (¬ (numSeenOf x).length ≤ 640 ∧ x.length ≤ 4300))
    (h : Q (.int n s.toks) { s with toks := s.toks + 1 }) : wpAny (model prog w) A (call (.type "int") [.str x t]) Q E s := by
  rcases hl with hl | ⟨hs, hl⟩
  · exact PySem.W.KIN.call_text hn hl h
  · exact call_int_1 (meets_textW hs (by rw [sizeLine_eq]; omega) hn) ⟨hd, rfl, h⟩
/-- a text that int() takes: short, or all of it digits -/
def IntOk (a : Str) : Prop := a.length ≤ 640 ∨ ((¬ (numSeenOf a).length ≤ 640) ∧ a.length ≤ 4300)
theorem intOk_digits {a : Str} (h : ∀ c ∈ a.cps.toList, c = 45 ∨ (48 ≤ c ∧ c ≤ 57)) (hl : a.length ≤ 4300) : IntOk a := by
  by_cases k : a.length ≤ 640
  · exact .inl k
  · refine .inr ⟨?_, hl⟩
    rw [(numText_signs h).2, Array.length_toList]
    exact k
theorem call_int_strW {X : Cx} (hd : X.base.NoDigits) : CallR X (.type "int") (fun xs H Q => ∃ a n, xs = [.str a] ∧ PySem.intText? a = some n ∧ IntOk a ∧ Q (.int n) H) := by
  intro pins s σ H xs us Q I rs h
  obtain ⟨a, n, rfl, hn, hl, h⟩ := h
  cases rs with
  | cons r1 rs =>
    cases rs
    obtain ⟨t, rfl⟩ := r1
    exact call_textW (hd.keeps I.bk) hn hl ⟨.int n, H, I.tok _, ⟨_, rfl⟩, h⟩
/-- what the head tells of the interpreter's own table -/
def digB (K : Frag) : Bool := match K.lookup cStatics with
  | some o => (match o.data with
    | .dict es _ => es.toList.all fun e => match e.key with
      | .str n _ => decide (n ≠ ("sys.int_max_str_digits" : Str))
      | _ => false
    | _ => false)
  | none => false
theorem noDigits_of {K : Frag} {base : Heap} (X : K.In base) (h : digB K = true) : base.NoDigits := by
  unfold digB at h
  split at h
  · rename_i o ho
    split at h
    · rename_i es ep hd
      have key : ∀ e ∈ es, ∃ n t, e.key = .str n t ∧ n ≠ ("sys.int_max_str_digits" : Str) := fun e he => by
        have k := List.all_eq_true.mp h e (by simpa using he)
        split at k
        · rename_i n t ek
          exact ⟨n, t, ek, of_decide_eq_true k⟩
        · cases k
      refine ⟨fun n => nsFind es n, ⟨o, es, ep, X _ _ ho, hd, fun e he => ?_, fun _ => rfl⟩, ?_⟩
      · obtain ⟨n, t, ek, _⟩ := key e he
        exact ⟨n, t, ek⟩
      · show nsFind es "sys.int_max_str_digits" = none
        unfold nsFind findBy
        have z : es.find? (fun e => e.key.isStr "sys.int_max_str_digits") = none := by
          rw [Array.find?_eq_none]
          intro e he
          obtain ⟨n, t, ek, ne⟩ := key e he
          rw [ek]
          simpa [Value.isStr] using ne
        rw [z]
        rfl
    · cases h
  · cases h
/-! ### a head whose facts see the interpreter's own table, too -/
def obsS (n : Nat) (fa : List He.Fa) (fn : List He.DefD) (ex : Frag → Bool) (g : Addr → Option Obj) : He.AlX := (He.obsT fa fn [] (He.frT g (He.asD g n ++ [cStatics])), ex (He.frT g (He.asD g n ++ [cStatics])))
def hookS (n : Nat) (fa : List He.Fa) (fn : List He.DefD) (ex : Frag → Bool) : PySem.W.Hook where
  α := He.AlX
  obs := fun s => obsS n fa fn ex s.heap.get?
  val := fun w => He.valX fn [] w
  says := fun w h => ∃ K : Frag, K.In h ∧ He.SaysT fa fn [] w K ∧ ex K = true
  of := fun _ _ e => ⟨_, He.frT_in, congrArg (fun z : He.AlX => z.1) e, congrArg (fun z : He.AlX => z.2) e⟩
  keeps := fun _ _ _ ⟨K, hK, c, m⟩ k => ⟨K, Frag.In.keeps hK k, c, m⟩
theorem obsS_eq {n : Nat} {fa : List He.Fa} {fn : List He.DefD} {ex : Frag → Bool} {g : Addr → Option Obj} {s : Shared} (h : ∀ a, g a = s.heap.get? a) : obsS n fa fn ex g = (hookS n fa fn ex).obs s := by
  have e : g = s.heap.get? := funext h
  rw [e] <;> rfl
end L2.Jk

set_option Elab.async false
set_option linter.all false
set_option maxRecDepth 100000
set_option maxHeartbeats 0
namespace L2.K76
open PySem PySem.W PySem.Spec PySem.Calls PyProof.Rows L2.Jk
def top (i : Nat) : Stmt := PySem.Challenge.pw_jointkeys_k76_errors_of_stores.main.body.getD i (.Pass ⟨0, 0, 0, 0⟩)
def SG : Str := "-./0123456789ABCDEFGHIJKLMNOPQRSTUVWXYZ_abcdefghijklmnopqrstuvwxyz"
def DG : Str := "0123456789"
abbrev BF (K : Frag) : Addr := He.ga K "BadField"
abbrev NR (K : Frag) : Addr := He.ga K "NoRow"
def cname : Nat → Str
  | 0 => "Word"
  | 1 => "Number"
  | 2 => "Fixed"
  | 3 => "Listed"
  | 4 => "Ended"
  | 5 => "Marked"
  | _ => ""
abbrev ca (K : Frag) (i : Nat) : Addr := He.ga K (cname i)

def fn : List He.DefD := [⟨("BadField", some "__init__"), "__init__", "BadField.__init__", defArgs (inClass (top 3) 0), defBody (inClass (top 3) 0), defScope (inClass (top 3) 0), [], []⟩,
  ⟨("BadField", some "told"), "told", "BadField.told", defArgs (inClass (top 3) 1), defBody (inClass (top 3) 1), defScope (inClass (top 3) 1), [], []⟩,
  ⟨("NoRow", some "__init__"), "__init__", "NoRow.__init__", defArgs (inClass (top 5) 0), defBody (inClass (top 5) 0), defScope (inClass (top 5) 0), [], []⟩,
  ⟨("NoRow", some "told"), "told", "NoRow.told", defArgs (inClass (top 5) 1), defBody (inClass (top 5) 1), defScope (inClass (top 5) 1), [], []⟩,
  ⟨("Word", some "__init__"), "__init__", "Word.__init__", defArgs (inClass (top 25) 0), defBody (inClass (top 25) 0), defScope (inClass (top 25) 0), [], []⟩,
  ⟨("Word", some "__eq__"), "__eq__", "Word.__eq__", defArgs (inClass (top 25) 1), defBody (inClass (top 25) 1), defScope (inClass (top 25) 1), [], []⟩,
  ⟨("Word", some "has_sign"), "has_sign", "Word.has_sign", defArgs (inClass (top 25) 7), defBody (inClass (top 25) 7), defScope (inClass (top 25) 7), [], []⟩,
  ⟨("Word", some "has_value"), "has_value", "Word.has_value", defArgs (inClass (top 25) 2), defBody (inClass (top 25) 2), defScope (inClass (top 25) 2), [], []⟩,
  ⟨("Word", some "text_for"), "text_for", "Word.text_for", defArgs (inClass (top 25) 3), defBody (inClass (top 25) 3), defScope (inClass (top 25) 3), [], []⟩,
  ⟨("Number", some "__init__"), "__init__", "Number.__init__", defArgs (inClass (top 26) 0), defBody (inClass (top 26) 0), defScope (inClass (top 26) 0), [], []⟩,
  ⟨("Number", some "__eq__"), "__eq__", "Number.__eq__", defArgs (inClass (top 26) 1), defBody (inClass (top 26) 1), defScope (inClass (top 26) 1), [], []⟩,
  ⟨("Number", some "has_sign"), "has_sign", "Number.has_sign", defArgs (inClass (top 26) 7), defBody (inClass (top 26) 7), defScope (inClass (top 26) 7), [], []⟩,
  ⟨("Number", some "has_value"), "has_value", "Number.has_value", defArgs (inClass (top 26) 2), defBody (inClass (top 26) 2), defScope (inClass (top 26) 2), [], []⟩,
  ⟨("Number", some "text_for"), "text_for", "Number.text_for", defArgs (inClass (top 26) 3), defBody (inClass (top 26) 3), defScope (inClass (top 26) 3), [], []⟩,
  ⟨("Fixed", some "__init__"), "__init__", "Fixed.__init__", defArgs (inClass (top 27) 0), defBody (inClass (top 27) 0), defScope (inClass (top 27) 0), [], []⟩,
  ⟨("Fixed", some "__eq__"), "__eq__", "Fixed.__eq__", defArgs (inClass (top 27) 1), defBody (inClass (top 27) 1), defScope (inClass (top 27) 1), [], []⟩,
  ⟨("Fixed", some "has_sign"), "has_sign", "Fixed.has_sign", defArgs (inClass (top 27) 7), defBody (inClass (top 27) 7), defScope (inClass (top 27) 7), [], []⟩,
  ⟨("Fixed", some "has_value"), "has_value", "Fixed.has_value", defArgs (inClass (top 27) 2), defBody (inClass (top 27) 2), defScope (inClass (top 27) 2), [], []⟩,
  ⟨("Fixed", some "text_for"), "text_for", "Fixed.text_for", defArgs (inClass (top 27) 3), defBody (inClass (top 27) 3), defScope (inClass (top 27) 3), [], []⟩,
  ⟨("Listed", some "__init__"), "__init__", "Listed.__init__", defArgs (inClass (top 28) 0), defBody (inClass (top 28) 0), defScope (inClass (top 28) 0), [], []⟩,
  ⟨("Listed", some "__eq__"), "__eq__", "Listed.__eq__", defArgs (inClass (top 28) 1), defBody (inClass (top 28) 1), defScope (inClass (top 28) 1), [], []⟩,
  ⟨("Listed", some "has_sign"), "has_sign", "Listed.has_sign", defArgs (inClass (top 28) 7), defBody (inClass (top 28) 7), defScope (inClass (top 28) 7), [], []⟩,
  ⟨("Listed", some "has_value"), "has_value", "Listed.has_value", defArgs (inClass (top 28) 2), defBody (inClass (top 28) 2), defScope (inClass (top 28) 2), [], []⟩,
  ⟨("Listed", some "text_for"), "text_for", "Listed.text_for", defArgs (inClass (top 28) 3), defBody (inClass (top 28) 3), defScope (inClass (top 28) 3), [], []⟩,
  ⟨("Ended", some "__init__"), "__init__", "Ended.__init__", defArgs (inClass (top 29) 0), defBody (inClass (top 29) 0), defScope (inClass (top 29) 0), [], []⟩,
  ⟨("Ended", some "__eq__"), "__eq__", "Ended.__eq__", defArgs (inClass (top 29) 1), defBody (inClass (top 29) 1), defScope (inClass (top 29) 1), [], []⟩,
  ⟨("Ended", some "has_sign"), "has_sign", "Ended.has_sign", defArgs (inClass (top 29) 7), defBody (inClass (top 29) 7), defScope (inClass (top 29) 7), [], []⟩,
  ⟨("Ended", some "has_value"), "has_value", "Ended.has_value", defArgs (inClass (top 29) 2), defBody (inClass (top 29) 2), defScope (inClass (top 29) 2), [], []⟩,
  ⟨("Ended", some "text_for"), "text_for", "Ended.text_for", defArgs (inClass (top 29) 3), defBody (inClass (top 29) 3), defScope (inClass (top 29) 3), [], []⟩,
  ⟨("Marked", some "__init__"), "__init__", "Marked.__init__", defArgs (inClass (top 30) 0), defBody (inClass (top 30) 0), defScope (inClass (top 30) 0), [], []⟩,
  ⟨("Marked", some "__eq__"), "__eq__", "Marked.__eq__", defArgs (inClass (top 30) 1), defBody (inClass (top 30) 1), defScope (inClass (top 30) 1), [], []⟩,
  ⟨("Marked", some "has_value"), "has_value", "Marked.has_value", defArgs (inClass (top 30) 2), defBody (inClass (top 30) 2), defScope (inClass (top 30) 2), [], []⟩,
  ⟨("Marked", some "text_for"), "text_for", "Marked.text_for", defArgs (inClass (top 30) 3), defBody (inClass (top 30) 3), defScope (inClass (top 30) 3), [], []⟩,
  ⟨("Layout", some "__init__"), "__init__", "Layout.__init__", defArgs (inClass (top 35) 0), defBody (inClass (top 35) 0), defScope (inClass (top 35) 0), [], []⟩,
  ⟨("Store", some "__init__"), "__init__", "Store.__init__", defArgs (inClass (top 43) 0), defBody (inClass (top 43) 0), defScope (inClass (top 43) 0), [], []⟩,
  ⟨("Store", some "put"), "put", "Store.put", defArgs (inClass (top 43) 1), defBody (inClass (top 43) 1), defScope (inClass (top 43) 1), [], []⟩,
  ⟨("Store", some "take"), "take", "Store.take", defArgs (inClass (top 43) 2), defBody (inClass (top 43) 2), defScope (inClass (top 43) 2), [], []⟩,
  ⟨("Store", some "get"), "get", "Store.get", defArgs (inClass (top 43) 3), defBody (inClass (top 43) 3), defScope (inClass (top 43) 3), [], []⟩,
  ⟨("Store", some "scan"), "scan", "Store.scan", defArgs (inClass (top 43) 4), defBody (inClass (top 43) 4), defScope (inClass (top 43) 4), [], []⟩,
  ⟨("Store", some "size"), "size", "Store.size", defArgs (inClass (top 43) 5), defBody (inClass (top 43) 5), defScope (inClass (top 43) 5), [], []⟩,
  ⟨("is_made_of", none), "is_made_of", "is_made_of", defArgs (top 11), defBody (top 11), defScope (top 11), [], []⟩,
  ⟨("is_sign", none), "is_sign", "is_sign", defArgs (top 12), defBody (top 12), defScope (top 12), [], []⟩,
  ⟨("are_signs", none), "are_signs", "are_signs", defArgs (top 13), defBody (top 13), defScope (top 13), [], []⟩,
  ⟨("is_number", none), "is_number", "is_number", defArgs (top 15), defBody (top 15), defScope (top 15), [], []⟩,
  ⟨("digits_of", none), "digits_of", "digits_of", defArgs (top 16), defBody (top 16), defScope (top 16), [], []⟩,
  ⟨("number_of", none), "number_of", "number_of", defArgs (top 17), defBody (top 17), defScope (top 17), [], []⟩,
  ⟨("greatest_of", none), "greatest_of", "greatest_of", defArgs (top 18), defBody (top 18), defScope (top 18), [], []⟩,
  ⟨("check_signs", none), "check_signs", "check_signs", defArgs (top 20), defBody (top 20), defScope (top 20), [], []⟩,
  ⟨("check_span", none), "check_span", "check_span", defArgs (top 21), defBody (top 21), defScope (top 21), [], []⟩,
  ⟨("is_within", none), "is_within", "is_within", defArgs (top 22), defBody (top 22), defScope (top 22), [], []⟩,
  ⟨("is_word_of", none), "is_word_of", "is_word_of", defArgs (top 23), defBody (top 23), defScope (top 23), [], []⟩,
  ⟨("has_words_with", none), "has_words_with", "has_words_with", defArgs (top 24), defBody (top 24), defScope (top 24), [], []⟩,
  ⟨("is_sequence", none), "is_sequence", "is_sequence", defArgs (top 32), defBody (top 32), defScope (top 32), [], []⟩,
  ⟨("check_fields", none), "check_fields", "check_fields", defArgs (top 33), defBody (top 33), defScope (top 33), [], []⟩,
  ⟨("is_joint", none), "is_joint", "is_joint", defArgs (top 34), defBody (top 34), defScope (top 34), [], []⟩,
  ⟨("joints_behind", none), "joints_behind", "joints_behind", defArgs (top 36), defBody (top 36), defScope (top 36), [], []⟩,
  ⟨("check_row", none), "check_row", "check_row", defArgs (top 37), defBody (top 37), defScope (top 37), [], []⟩,
  ⟨("row_text", none), "row_text", "row_text", defArgs (top 38), defBody (top 38), defScope (top 38), [], []⟩,
  ⟨("first_from", none), "first_from", "first_from", defArgs (top 40), defBody (top 40), defScope (top 40), [], []⟩,
  ⟨("head_of", none), "head_of", "head_of", defArgs (top 42), defBody (top 42), defScope (top 42), [], []⟩,
  ⟨("_law_source", none), "_law_source", "_law_source", defArgs (top 45), defBody (top 45), defScope (top 45), [], []⟩,
  ⟨("_law_draw", none), "_law_draw", "_law_draw", defArgs (top 46), defBody (top 46), defScope (top 46), [], []⟩,
  ⟨("_law_pick", none), "_law_pick", "_law_pick", defArgs (top 47), defBody (top 47), defScope (top 47), [], []⟩,
  ⟨("_law_made", none), "_law_made", "_law_made", defArgs (top 48), defBody (top 48), defScope (top 48), [], []⟩,
  ⟨("_law_strings", none), "_law_strings", "_law_strings", defArgs (top 49), defBody (top 49), defScope (top 49), [], []⟩,
  ⟨("_law_values", none), "_law_values", "_law_values", defArgs (top 50), defBody (top 50), defScope (top 50), [], []⟩,
  ⟨("_law_shuffled", none), "_law_shuffled", "_law_shuffled", defArgs (top 51), defBody (top 51), defScope (top 51), [], []⟩,
  ⟨("_law_small", none), "_law_small", "_law_small", defArgs (top 52), defBody (top 52), defScope (top 52), [], []⟩,
  ⟨("_law_layout", none), "_law_layout", "_law_layout", defArgs (top 53), defBody (top 53), defScope (top 53), [], []⟩,
  ⟨("_law_row", none), "_law_row", "_law_row", defArgs (top 54), defBody (top 54), defScope (top 54), [], []⟩,
  ⟨("_law_place", none), "_law_place", "_law_place", defArgs (top 55), defBody (top 55), defScope (top 55), [], []⟩,
  ⟨("_law_all_said", none), "_law_all_said", "_law_all_said", defArgs (top 56), defBody (top 56), defScope (top 56), [], []⟩,
  ⟨("_law_right", none), "_law_right", "_law_right", defArgs (top 57), defBody (top 57), defScope (top 57), [], []⟩,
  ⟨("law", none), "law", "law", defArgs (top 58), defBody (top 58), defScope (top 58), [], []⟩]

def fa : List He.Fa := [.glo "JointError", .glo "BadField", .glo "NoRow", .glo "Layout", .glo "Store", .glo "Word", .glo "Number", .glo "Fixed", .glo "Listed", .glo "Ended", .glo "Marked", .glo "is_made_of", .glo "is_sign", .glo "are_signs", .glo "is_number", .glo "digits_of", .glo "number_of", .glo "greatest_of", .glo "check_signs", .glo "check_span", .glo "is_within", .glo "is_word_of", .glo "has_words_with", .glo "is_sequence", .glo "check_fields", .glo "is_joint", .glo "joints_behind", .glo "check_row", .glo "row_text", .glo "first_from", .glo "head_of", .glo "_law_source", .glo "_law_draw", .glo "_law_pick", .glo "_law_made", .glo "_law_strings", .glo "_law_values", .glo "_law_shuffled", .glo "_law_small", .glo "_law_layout", .glo "_law_row", .glo "_law_place", .glo "_law_all_said", .glo "_law_right", .glo "law", .free "abs", .free "int", .free "bool", .free "isinstance", .free "range", .free "len", .free "set", .free "type", .free "str", .free "reversed", .free "tuple", .free "list", .free "any", .free "all", .free "sorted", .free "min", .free "max", .free "zip", .free "enumerate", .str "SIGNS" SG, .str "DIGITS" DG, .str "LOW" "!", .str "HIGH" "~", .cls "Word", .mkr "Word", .noat "Word" "signs", .noat "Word" "least", .noat "Word" "most", .meth "Word" "has_sign", .meth "Word" "has_value", .meth "Word" "text_for", .cls "Number", .mkr "Number", .noat "Number" "least", .noat "Number" "most", .meth "Number" "has_sign", .meth "Number" "has_value", .meth "Number" "text_for", .cls "Fixed", .mkr "Fixed", .noat "Fixed" "width", .meth "Fixed" "has_sign", .meth "Fixed" "has_value", .meth "Fixed" "text_for", .cls "Listed", .mkr "Listed", .noat "Listed" "texts", .meth "Listed" "has_sign", .meth "Listed" "has_value", .meth "Listed" "text_for", .cls "Ended", .mkr "Ended", .noat "Ended" "signs", .noat "Ended" "sign", .noat "Ended" "least", .noat "Ended" "most", .meth "Ended" "has_sign", .meth "Ended" "has_value", .meth "Ended" "text_for", .cls "Marked", .mkr "Marked", .noat "Marked" "none", .noat "Marked" "mark", .noat "Marked" "field", .meth "Marked" "has_value", .meth "Marked" "text_for", .cls "Layout", .mkr "Layout", .noat "Layout" "fields", .noat "Layout" "joints", .cls "Store", .mkr "Store", .noat "Store" "layout", .noat "Store" "texts", .noat "Store" "kept", .meth "Store" "put", .meth "Store" "take", .meth "Store" "get", .meth "Store" "scan", .meth "Store" "size"]

def kcB (K : Frag) (C : Addr) : Bool := He.eqO (findIn K (.ref C) "__class__") (some (some (.builtin "object.__class__"))) && (decide (mroIn K C (.type "object") = some true) && (notFirst K C (.type "tuple") && (eqcB K C && keepIn K (.ref (He.ma K C "__eq__")))))
def exN (K : Frag) : Bool := errB K (NR K) ["place"] ["told"] && (He.eqO (findIn K (.ref (NR K)) "__init__") (some (some (.ref (He.ma K (NR K) "__init__")))) && (decide (typeIn K (.ref (He.ma K (NR K) "__init__")) = some (.type "function")) && decide (exmOne K (.ref (NR K)) (.ref (NR K)) = some true)))
def ex (K : Frag) : Bool := exN K && ((errB K (BF K) ["what"] ["told"] && (He.eqO (findIn K (.ref (BF K)) "__init__") (some (some (.ref (He.ma K (BF K) "__init__")))) && (decide (typeIn K (.ref (He.ma K (BF K) "__init__")) = some (.type "function")) &&
  (decide (exmOne K (.ref (BF K)) (.ref (BF K)) = some true) && (He.eqO (specialIn K (.builtin "object.__class__") "__get__") (some (some (.builtin "getset_descriptor.__get__"))) && decide (takesIn K (.builtin "object.__class__") = some true)))))) &&
  (List.range 6).all fun i => kcB K (ca K i) && (decide (kitOne K (.type "NoneType") (.ref (ca K i)) = some false) && (decide (kitOne K (.type "str") (.ref (ca K i)) = some false) && (decide (kitOne K (.ref (ca K i)) (.type "str") = some false) &&
  (List.range 6).all fun j => decide (kitOne K (.ref (ca K i)) (.ref (ca K j)) = some (decide (i = j)))))))
abbrev R : PySem.W.OpenRow := PySem.W.OpenLaw.row PySem.Challenge.rw_jointkeys_k76_errors_of_stores
abbrev hk : PySem.W.Hook := He.hookX 4 fa fn [] [("_law_all_said", none)] ex
def ob (s : PySem.W.SharedT) : He.AlX := He.obsX 4 fa fn [] [("_law_all_said", none)] ex (HandSHeadRun.getT s)
theorem ob_eq (s : PySem.W.SharedT) : ob s = hk.obs s.abs := He.obsX_eq (HandSHeadRun.getT_eq s)
def names : List PySem.Str := (["_wall", "__name__", "JointError", "BadField", "BadLayout", "NoRow", "SIGNS", "DIGITS", "LOW", "HIGH", "is_made_of", "is_sign", "are_signs", "is_number", "digits_of", "number_of", "greatest_of", "check_signs", "check_span", "is_within", "is_word_of", "has_words_with", "Word", "Number", "Fixed", "Listed", "Ended", "Marked", "is_sequence", "check_fields"] : List PySem.Str) ++ (["is_joint", "Layout", "joints_behind", "check_row", "row_text", "first_from", "head_of", "Store", "_law_source", "_law_draw", "_law_pick", "_law_made", "_law_strings", "_law_values", "_law_shuffled", "_law_small", "_law_layout", "_law_row", "_law_place", "_law_all_said", "_law_right"] : List PySem.Str)
theorem run (w : World) : HandSHeadRun.RunEq R (PySem.W.view R.prog [58]) hk ob 8000 names w := by
  intro os
  kernel_rfl
end L2.K76

set_option Elab.async false
set_option linter.all false
set_option maxRecDepth 100000
set_option maxHeartbeats 4000000
/-! set(..) of texts: how many members it has. -/
namespace L2.Jk
open PySem PySem.W PySem.Spec PySem.Calls PyProof.Rows

/-- how many of the first i are new -/
def newS (ks : Nat → Str) : Nat → Nat
  | 0 => 0
  | i + 1 => if (List.range i).any (fun j => ks j == ks i) then newS ks i else newS ks i + 1
theorem newS_le (ks : Nat → Str) : ∀ i, newS ks i ≤ i
  | 0 => Nat.le_refl _
  | i + 1 => by
    have := newS_le ks i
    unfold newS
    split <;> omega
section
variable {prog : Program} {w : World} {A : Around} {R : Result → Shared → Prop} {I : Addr} {fp wr : List Addr} {G : Array GenState → Array GenState → Prop} {n : Nat} {P : Nat → Value → Prop} {Z : Nat → Shared → Prop}
/-- what the set holds behind i items -/
def HeldS (prog : Program) (w : World) (h : Heap) (S : Addr) (ks : Nat → Str) (i : Nat) : Prop := h.SetOf (PySem.strKind prog w) S (fun k => (List.range i).any fun j => ks j == k) (newS ks i)
theorem HeldS.at {h h' : Heap} {S : Addr} {ks : Nat → Str} {i : Nat} (H : HeldS prog w h S ks i) (k : ∀ o, h.get? S = some o → h'.get? S = some o) : HeldS prog w h' S ks i := by
  obtain ⟨o, es, ep, t, ho, r⟩ := H
  exact ⟨o, es, ep, t, k o ho, r⟩
theorem set_loop (W : WalksS prog w A.in1 I fp wr G n P Z) (S : Addr) (hS : S ∉ fp) (ks : Nat → Str) (hn : n + 1 < scanBound) (hv : ∀ i v, P i v → ∃ t, v = .str (ks i) t) :
    ∀ (k i : Nat) (s : Shared), n - i = k → i ≤ n → Z i s → HeldS prog w s.heap S ks i →
      (∀ s', Moved (S :: wr) G s s' → HeldS prog w s'.heap S ks n → R (.ok (.ret .none)) s') → codeAny (model prog w) A (.builtin "set.update.loop" ⟨[.ref S, .ref I], []⟩) R s := by
  have sw : S ∉ wr := fun z => hS (W.sub _ z)
  have up : ∀ b ∈ wr, b ∈ S :: wr := fun b z => List.mem_cons_of_mem _ z
  intro k
  induction k with
  | zero =>
    intro i s hk hi hz H hR
    obtain rfl : i = n := by omega
    refine codeAny_builtin PyProof.Rows.F.entry_set_update_loop ?_
    rw [Around.under_plainId PyProof.Rows.F.plain_set_update_loop _]
    show wpAny _ A.in1 (pyNext (.ref I) >>= _) _ _ s
    refine wpAny_bind (W.done s _ _ hz fun s' m => ?_)
    show wpAny _ A.in1 (ret Value.none) _ _ s'
    exact wpAny_pure (hR s' (m.mono up) (H.at fun o e => m.heap S o sw e))
  | succ k ih =>
    intro i s hk hi hz H hR
    have lt : i < n := by omega
    refine codeAny_builtin PyProof.Rows.F.entry_set_update_loop ?_
    rw [Around.under_plainId PyProof.Rows.F.plain_set_update_loop _]
    show wpAny _ A.in1 (pyNext (.ref I) >>= _) _ _ s
    refine wpAny_bind (W.item i s _ _ lt hz fun v s' hp hz' m => ?_)
    obtain ⟨t, rfl⟩ := hv i v hp
    have H' : HeldS prog w s'.heap S ks i := H.at fun o e => m.heap S o sw e
    show wpAny _ A.in1 (holding [Value.str (ks i) t] (setAdd S (.str (ks i) t)) >>= _) _ _ s'
    refine wpAny_bind (wpAny_holding ?_)
    unfold setAdd
    refine wpAny_holding (wpAny_bind ((PySem.strKind prog w).pyHash (k := ks i) (strKind_is _ _ _ _) ?_))
    have few := newS_le ks i
    refine wpAny_setAddHashed_of (knd := PySem.strKind prog w) (s := { s' with toks := s'.toks + 1 }) (strKind_is _ _ _ _) rfl H' (by omega) fun h' sb H2 => ?_
    have H3 : HeldS prog w h' S ks (i + 1) := by
      refine PyProof.Rows.SetOf_congr H2 (fun q => ?_) ?_
      · show ((List.range i).any (fun j => ks j == q) || decide (q = ks i)) = (List.range (i + 1)).any fun j => ks j == q
        rw [List.range_succ, List.any_append]
        congr 1
        by_cases e : q = ks i
        · subst e
          simp
        · have e2 : (ks i == q) = false := beq_eq_false_iff_ne.mpr fun z => e z.symm
          simp [e, e2]
      · show (if (List.range i).any (fun j => ks j == ks i) = true then newS ks i else newS ks i + 1) = newS ks (i + 1)
        rfl
    refine wpAny_pure ⟨plainId_quiet PyProof.Rows.F.plain_set_update_loop _, ih (i + 1) _ (by omega) lt (W.frame _ s' _ _ hz' (Nat.le_succ _) fun b hb o e => ?_) H3 fun s2 m2 H4 => ?_⟩
    · rw [sb.2 b (fun z : b = S => hS (z ▸ hb))]
      exact e
    · refine hR s2 (Moved.trans W.gtrans ((m.mono up).then_heap (Nat.le_succ _) fun b o hb e => ?_) m2) H4
      rw [sb.2 b (fun z : b = S => hb (z ▸ List.mem_cons_self))]
      exact e
end
theorem sign_at {x : Str} {i : Nat} {v : Value} (z : SignAt x i v) : ∃ t, v = .str ⟨#[x.cps.getD i 0]⟩ t := by
  obtain ⟨c, t, h, e⟩ := z
  refine ⟨t, ?_⟩
  subst e
  rw [Array.getD_eq_getD_getElem?, h]
  rfl
end L2.Jk

set_option Elab.async false
set_option linter.all false
set_option maxRecDepth 100000
set_option maxHeartbeats 8000000
namespace L2.Jk
open PySem PySem.W PySem.Spec PySem.Calls PyProof.Rows
section
variable {prog : Program} {w : World} {A : Around} {E : Value → Shared → Prop} {s : Shared}
set_option maxHeartbeats 8000000 in
theorem set_callStr {x : Str} {tk0 : Tok} {Q : Value → Shared → Prop} (hh : A.handled = none)  (hn : x.cps.size + 1 < scanBound)
    (h : ∀ (h' : Heap) (tk : Nat), HeldS prog w h' s.heap.objs.size (fun i => ⟨#[x.cps.getD i 0]⟩) (x.cps.size) → (∀ b o, b < s.heap.objs.size → s.heap.get? b = some o → h'.get? b = some o) → Q (.ref s.heap.objs.size) { s with heap := h', toks := tk }) :
    wpAny (model prog w) A (call (.type "set") [(.str x tk0)]) Q E s := by
  obtain ⟨c, tl, hmro⟩ := PySem.F.called_set.mro
  have c1 := PySem.F.called_set.made
  have c2 := PySem.F.called_set.sub
  refine wpAny_call (codeAny_of_tree ?_)
  show wpAny _ _ (callAny (.type "set") _) _ _ _
  refine wpAny_pure ⟨Code.quiet_builtin _ (by decide +kernel), codeAny_builtin PySem.F.entry_type_call ?_⟩
  rw [Around.under_plain (weight_type_call_type "set" [(.str x tk0)] []) rfl]
  have c3 := PySem.F.called_set.notType
  have c4 := PySem.F.called_set.canCreate
  have c5 := PySem.F.typeCall_set_1 (.str x tk0)
  repeat (any_goals (first | assumption | wp_step))
  refine codeAny_mono (code_set_new_1 (.str x tk0) (E := E) (Q₁ := fun ob s₁ => ∃ led : Bool, ob = .ref s.heap.objs.size ∧ s₁ = { s with heap := s.heap.push { cls := .type "set", dict := none, data := .set #[] 0 (.fresh 0 0 led) } }) fun led => ⟨led, rfl, rfl⟩) fun r s₁ hr => ?_
  cases r with
  | error e => exact hr
  | ok fl =>
    cases fl with
    | ret ob =>
      obtain ⟨led, rfl, rfl⟩ := hr
      have hS : (s.heap.push { cls := .type "set", dict := none, data := .set #[] 0 (.fresh 0 0 led) }).get? s.heap.objs.size = some { cls := .type "set", dict := none, data := .set #[] 0 (.fresh 0 0 led) } := Heap.get?_push_size _ rfl
      have hT : Shared.TypeIs { s with heap := s.heap.push { cls := .type "set", dict := none, data := .set #[] 0 (.fresh 0 0 led) } } (.ref s.heap.objs.size) "set" := ⟨_, hS, rfl⟩
      have c6 := PySem.F.called_set.init.lookup
      have c7 := PySem.F.called_set.init.bind (.ref s.heap.objs.size)
      repeat (any_goals (first | assumption | wp_step))
      refine codeAny_mono (codeAny_call_builtin (R := wants (fun r s₂ => r = .none ∧ ∃ h' tk, s₂ = { s with heap := h', toks := tk } ∧ HeldS prog w h' s.heap.objs.size (fun i => ⟨#[x.cps.getD i 0]⟩) (x.cps.size) ∧
          (∀ b o, b < s.heap.objs.size → s.heap.get? b = some o → h'.get? b = some o)) E) PySem.F.called_set.init.plain PySem.F.entry_set_init (check_set_init_1 hT ?_)) fun r₂ s₂ hr₂ => ?_
      · have a1 := PySem.F.sub_str_set
        have a2 := PySem.F.sub_str_frozenset
        have a3 : (Value.type "str" == Value.type "dict") = false := by decide
        unfold Builtin.«set.__init__» noKeywords Builtin.Frozenset.updateFrom
        generalize hPI : pyIter = PI
        wp_walk
        subst hPI
        refine wpAny_pyIter_strU ?_
        refine wpAny_bind (wpAny_runValue ?_)
        have sf : s.heap.objs.size ∉ [(s.heap.push { cls := .type "set", dict := none, data := .set #[] 0 (.fresh 0 0 led) }).objs.size] := by
          rw [Heap.size_push]
          simp only [List.mem_cons, List.mem_singleton, List.not_mem_nil, or_false, not_or]
          exact Nat.ne_of_lt (Nat.lt_succ_self _)
        have h3 : A.in1.in1.in1.handled = none := by simp [hh]
        have sv : ∀ i v, SignAt x i v → ∃ t, v = .str ⟨#[x.cps.getD i 0]⟩ t := fun i v z => sign_at z
        have got : ∀ T, ((s.heap.push { cls := .type "set", dict := none, data := .set #[] 0 (.fresh 0 0 led) }).push { cls := .type T, data := .fields #[.str x tk0, .int 0 0] }).IsStrIter (s.heap.push { cls := .type "set", dict := none, data := .set #[] 0 (.fresh 0 0 led) }).objs.size T x tk0 0 := fun T => ⟨_, Heap.get?_push_size _ rfl, rfl, rfl⟩
        cases ha : x.cps.all (· < 128) with
        | false =>
          rw [show strIterType x = "str_iterator" by unfold strIterType; rw [ha]; rfl]
          refine set_loop ((Walks.strWide h3 _ x tk0).toS) s.heap.objs.size sf _ hn sv (x.cps.size - 0) 0 _ (by omega) (Nat.zero_le _) (got _) (PyProof.Rows.SetOf_congr ((PyProof.Rows.setObjOf_fresh (knd := PySem.strKind prog w) led).setOf (Heap.get?_push_of_some _ hS) (by unfold scanBound; omega)) (fun _ => rfl) rfl) ?hR
          case hR =>
            intro s' m H'
            obtain ⟨h', g', d', tk', os'⟩ := s'
            obtain rfl : g' = s.gens := m.gens
            obtain rfl : d' = s.drawn := m.drawn
            obtain rfl : os' = s.os := m.os
            show wpAny _ _ _ _ _ _
            refine wpAny_pure ?_
            show wpAny _ _ (ret Value.none) _ _ _
            refine wpAny_pure ⟨rfl, h', tk', rfl, H', fun b o hb e => ?_⟩
            have b1 : b ≠ s.heap.objs.size := Nat.ne_of_lt hb
            have b2 : b ≠ (s.heap.push { cls := .type "set", dict := none, data := .set #[] 0 (.fresh 0 0 led) }).objs.size := by
              rw [Heap.size_push]
              exact Nat.ne_of_lt (Nat.lt_succ_of_lt hb)
            exact m.heap b o (by simp only [List.mem_cons, List.mem_singleton, List.not_mem_nil, or_false, not_or]; exact ⟨b1, b2⟩) (Heap.get?_push_of_some _ (Heap.get?_push_of_some _ e))
        | true =>
          rw [show strIterType x = "str_ascii_iterator" by unfold strIterType; rw [ha]; rfl]
          refine set_loop ((Walks.strAscii h3 _ x tk0).toS) s.heap.objs.size sf _ hn sv (x.cps.size - 0) 0 _ (by omega) (Nat.zero_le _) (got _) (PyProof.Rows.SetOf_congr ((PyProof.Rows.setObjOf_fresh (knd := PySem.strKind prog w) led).setOf (Heap.get?_push_of_some _ hS) (by unfold scanBound; omega)) (fun _ => rfl) rfl) ?hR
          case hR =>
            intro s' m H'
            obtain ⟨h', g', d', tk', os'⟩ := s'
            obtain rfl : g' = s.gens := m.gens
            obtain rfl : d' = s.drawn := m.drawn
            obtain rfl : os' = s.os := m.os
            show wpAny _ _ _ _ _ _
            refine wpAny_pure ?_
            show wpAny _ _ (ret Value.none) _ _ _
            refine wpAny_pure ⟨rfl, h', tk', rfl, H', fun b o hb e => ?_⟩
            have b1 : b ≠ s.heap.objs.size := Nat.ne_of_lt hb
            have b2 : b ≠ (s.heap.push { cls := .type "set", dict := none, data := .set #[] 0 (.fresh 0 0 led) }).objs.size := by
              rw [Heap.size_push]
              exact Nat.ne_of_lt (Nat.lt_succ_of_lt hb)
            exact m.heap b o (by simp only [List.mem_cons, List.mem_singleton, List.not_mem_nil, or_false, not_or]; exact ⟨b1, b2⟩) (Heap.get?_push_of_some _ (Heap.get?_push_of_some _ e))

      · cases r₂ with
        | error e => exact hr₂
        | ok f2 =>
          cases f2 with
          | ret r =>
            obtain ⟨rfl, h', tk, rfl, H', k'⟩ := hr₂
            repeat (any_goals (first | assumption | wp_step))
            exact h _ _ H' k'
          | _ => exact hr₂.elim
    | _ => exact hr.elim
end
end L2.Jk

set_option Elab.async false
set_option linter.all false
set_option maxRecDepth 100000
set_option maxHeartbeats 8000000
namespace L2.Jk
open PySem PySem.W PySem.Spec PySem.Calls PyProof.Rows
section
variable {prog : Program} {w : World} {A : Around} {E : Value → Shared → Prop} {s : Shared}
set_option maxHeartbeats 8000000 in
theorem set_callList {l : Addr} {its : Array Value} {ks : Nat → Str} {Q : Value → Shared → Prop} (hh : A.handled = none) (hl : s.heap.IsList l its) (hk : ∀ i v, its[i]? = some v → ∃ t : Tok, v = Value.str (ks i) t) (hn : its.size + 1 < scanBound)
    (h : ∀ (h' : Heap) (tk : Nat), HeldS prog w h' s.heap.objs.size (ks) (its.size) → (∀ b o, b < s.heap.objs.size → s.heap.get? b = some o → h'.get? b = some o) → Q (.ref s.heap.objs.size) { s with heap := h', toks := tk }) :
    wpAny (model prog w) A (call (.type "set") [(.ref l)]) Q E s := by
  obtain ⟨c, tl, hmro⟩ := PySem.F.called_set.mro
  have c1 := PySem.F.called_set.made
  have c2 := PySem.F.called_set.sub
  refine wpAny_call (codeAny_of_tree ?_)
  show wpAny _ _ (callAny (.type "set") _) _ _ _
  refine wpAny_pure ⟨Code.quiet_builtin _ (by decide +kernel), codeAny_builtin PySem.F.entry_type_call ?_⟩
  rw [Around.under_plain (weight_type_call_type "set" [(.ref l)] []) rfl]
  have c3 := PySem.F.called_set.notType
  have c4 := PySem.F.called_set.canCreate
  have c5 := PySem.F.typeCall_set_1 (.ref l)
  repeat (any_goals (first | assumption | wp_step))
  refine codeAny_mono (code_set_new_1 (.ref l) (E := E) (Q₁ := fun ob s₁ => ∃ led : Bool, ob = .ref s.heap.objs.size ∧ s₁ = { s with heap := s.heap.push { cls := .type "set", dict := none, data := .set #[] 0 (.fresh 0 0 led) } }) fun led => ⟨led, rfl, rfl⟩) fun r s₁ hr => ?_
  cases r with
  | error e => exact hr
  | ok fl =>
    cases fl with
    | ret ob =>
      obtain ⟨led, rfl, rfl⟩ := hr
      have hS : (s.heap.push { cls := .type "set", dict := none, data := .set #[] 0 (.fresh 0 0 led) }).get? s.heap.objs.size = some { cls := .type "set", dict := none, data := .set #[] 0 (.fresh 0 0 led) } := Heap.get?_push_size _ rfl
      have hT : Shared.TypeIs { s with heap := s.heap.push { cls := .type "set", dict := none, data := .set #[] 0 (.fresh 0 0 led) } } (.ref s.heap.objs.size) "set" := ⟨_, hS, rfl⟩
      have c6 := PySem.F.called_set.init.lookup
      have c7 := PySem.F.called_set.init.bind (.ref s.heap.objs.size)
      repeat (any_goals (first | assumption | wp_step))
      refine codeAny_mono (codeAny_call_builtin (R := wants (fun r s₂ => r = .none ∧ ∃ h' tk, s₂ = { s with heap := h', toks := tk } ∧ HeldS prog w h' s.heap.objs.size (ks) (its.size) ∧
          (∀ b o, b < s.heap.objs.size → s.heap.get? b = some o → h'.get? b = some o)) E) PySem.F.called_set.init.plain PySem.F.entry_set_init (check_set_init_1 hT ?_)) fun r₂ s₂ hr₂ => ?_
      · obtain ⟨⟨oc, od, odt, osl⟩, hol, hcl, nl, hdl⟩ := id hl
        dsimp only at hcl hdl
        subst hcl; subst hdl
        have old := Heap.get?_push_of_some ({ cls := .type "set", dict := none, data := .set #[] 0 (.fresh 0 0 led) } : Obj) hol
        have a1 := PySem.F.sub_list_set
        have a2 := PySem.F.sub_list_frozenset
        have a3 : (Value.type "list" == Value.type "dict") = false := by decide
        have hl1 : (s.heap.push { cls := .type "set", dict := none, data := .set #[] 0 (.fresh 0 0 led) }).IsList l its := ⟨_, old, rfl, nl, rfl⟩
        unfold Builtin.«set.__init__» noKeywords Builtin.Frozenset.updateFrom
        generalize hPI : pyIter = PI
        wp_walk
        subst hPI
        refine wpAny_pyIter_list hl1 ?_
        refine wpAny_bind (wpAny_runValue ?_)
        have h3 : A.in1.in1.in1.handled = none := by simp [hh]
        have nI : l ≠ (s.heap.push { cls := .type "set", dict := none, data := .set #[] 0 (.fresh 0 0 led) }).objs.size := by
          rw [Heap.size_push]
          exact Nat.ne_of_lt (Nat.lt_succ_of_lt (Heap.lt_size hol))
        have sf : s.heap.objs.size ∉ [(s.heap.push { cls := .type "set", dict := none, data := .set #[] 0 (.fresh 0 0 led) }).objs.size, l] := by
          rw [Heap.size_push]
          simp only [List.mem_cons, List.mem_singleton, List.not_mem_nil, or_false, not_or]
          exact ⟨Nat.ne_of_lt (Nat.lt_succ_self _), Nat.ne_of_gt (Heap.lt_size hol)⟩
        refine set_loop ((Walks.list h3 _ l nI its).toS) s.heap.objs.size sf ks hn (fun i v z => hk i v z) (its.size - 0) 0 _ (by omega) (Nat.zero_le _) ⟨⟨_, Heap.get?_push_size _ rfl, rfl, rfl⟩, (hl1.push _)⟩ (PyProof.Rows.SetOf_congr ((PyProof.Rows.setObjOf_fresh (knd := PySem.strKind prog w) led).setOf (Heap.get?_push_of_some _ hS) (by unfold scanBound; omega)) (fun _ => rfl) rfl) ?hR
        case hR =>
          intro s' m H'
          obtain ⟨h', g', d', tk', os'⟩ := s'
          obtain rfl : g' = s.gens := m.gens
          obtain rfl : d' = s.drawn := m.drawn
          obtain rfl : os' = s.os := m.os
          show wpAny _ _ _ _ _ _
          refine wpAny_pure ?_
          show wpAny _ _ (ret Value.none) _ _ _
          refine wpAny_pure ⟨rfl, h', tk', rfl, H', fun b o hb e => ?_⟩
          have b1 : b ≠ s.heap.objs.size := Nat.ne_of_lt hb
          have b2 : b ≠ (s.heap.push { cls := .type "set", dict := none, data := .set #[] 0 (.fresh 0 0 led) }).objs.size := by
            rw [Heap.size_push]
            exact Nat.ne_of_lt (Nat.lt_succ_of_lt hb)
          exact m.heap b o (by simp only [List.mem_cons, List.mem_singleton, List.not_mem_nil, or_false, not_or]; exact ⟨b1, b2⟩) (Heap.get?_push_of_some _ (Heap.get?_push_of_some _ e))

      · cases r₂ with
        | error e => exact hr₂
        | ok f2 =>
          cases f2 with
          | ret r =>
            obtain ⟨rfl, h', tk, rfl, H', k'⟩ := hr₂
            repeat (any_goals (first | assumption | wp_step))
            exact h _ _ H' k'
          | _ => exact hr₂.elim
    | _ => exact hr.elim
end
end L2.Jk

set_option Elab.async false
set_option linter.all false
set_option maxRecDepth 100000
set_option maxHeartbeats 8000000
namespace L2.Jk
open PySem PySem.W PySem.Spec PySem.Calls PyProof.Rows
section
variable {prog : Program} {w : World} {A : Around} {E : Value → Shared → Prop} {s : Shared}
set_option maxHeartbeats 8000000 in
theorem set_callTup {l : Addr} {its : Array Value} {ks : Nat → Str} {Q : Value → Shared → Prop} (hh : A.handled = none) (hl : s.heap.IsTuple l its) (hk : ∀ i v, its[i]? = some v → ∃ t : Tok, v = Value.str (ks i) t) (hn : its.size + 1 < scanBound)
    (h : ∀ (h' : Heap) (tk : Nat), HeldS prog w h' s.heap.objs.size (ks) (its.size) → (∀ b o, b < s.heap.objs.size → s.heap.get? b = some o → h'.get? b = some o) → Q (.ref s.heap.objs.size) { s with heap := h', toks := tk }) :
    wpAny (model prog w) A (call (.type "set") [(.ref l)]) Q E s := by
  obtain ⟨c, tl, hmro⟩ := PySem.F.called_set.mro
  have c1 := PySem.F.called_set.made
  have c2 := PySem.F.called_set.sub
  refine wpAny_call (codeAny_of_tree ?_)
  show wpAny _ _ (callAny (.type "set") _) _ _ _
  refine wpAny_pure ⟨Code.quiet_builtin _ (by decide +kernel), codeAny_builtin PySem.F.entry_type_call ?_⟩
  rw [Around.under_plain (weight_type_call_type "set" [(.ref l)] []) rfl]
  have c3 := PySem.F.called_set.notType
  have c4 := PySem.F.called_set.canCreate
  have c5 := PySem.F.typeCall_set_1 (.ref l)
  repeat (any_goals (first | assumption | wp_step))
  refine codeAny_mono (code_set_new_1 (.ref l) (E := E) (Q₁ := fun ob s₁ => ∃ led : Bool, ob = .ref s.heap.objs.size ∧ s₁ = { s with heap := s.heap.push { cls := .type "set", dict := none, data := .set #[] 0 (.fresh 0 0 led) } }) fun led => ⟨led, rfl, rfl⟩) fun r s₁ hr => ?_
  cases r with
  | error e => exact hr
  | ok fl =>
    cases fl with
    | ret ob =>
      obtain ⟨led, rfl, rfl⟩ := hr
      have hS : (s.heap.push { cls := .type "set", dict := none, data := .set #[] 0 (.fresh 0 0 led) }).get? s.heap.objs.size = some { cls := .type "set", dict := none, data := .set #[] 0 (.fresh 0 0 led) } := Heap.get?_push_size _ rfl
      have hT : Shared.TypeIs { s with heap := s.heap.push { cls := .type "set", dict := none, data := .set #[] 0 (.fresh 0 0 led) } } (.ref s.heap.objs.size) "set" := ⟨_, hS, rfl⟩
      have c6 := PySem.F.called_set.init.lookup
      have c7 := PySem.F.called_set.init.bind (.ref s.heap.objs.size)
      repeat (any_goals (first | assumption | wp_step))
      refine codeAny_mono (codeAny_call_builtin (R := wants (fun r s₂ => r = .none ∧ ∃ h' tk, s₂ = { s with heap := h', toks := tk } ∧ HeldS prog w h' s.heap.objs.size (ks) (its.size) ∧
          (∀ b o, b < s.heap.objs.size → s.heap.get? b = some o → h'.get? b = some o)) E) PySem.F.called_set.init.plain PySem.F.entry_set_init (check_set_init_1 hT ?_)) fun r₂ s₂ hr₂ => ?_
      · obtain ⟨⟨oc, od, odt, osl⟩, hol, hcl, nl, hdl⟩ := id hl
        dsimp only at hcl hdl
        subst hcl; subst hdl
        have old := Heap.get?_push_of_some ({ cls := .type "set", dict := none, data := .set #[] 0 (.fresh 0 0 led) } : Obj) hol
        have a1 := PySem.F.sub_tuple_set
        have a2 := PySem.F.sub_tuple_frozenset
        have a3 : (Value.type "tuple" == Value.type "dict") = false := by decide
        have hl1 : (s.heap.push { cls := .type "set", dict := none, data := .set #[] 0 (.fresh 0 0 led) }).IsTuple l its := ⟨_, old, rfl, nl, rfl⟩
        unfold Builtin.«set.__init__» noKeywords Builtin.Frozenset.updateFrom
        generalize hPI : pyIter = PI
        wp_walk
        subst hPI
        refine wpAny_pyIter_tuple hl1 ?_
        refine wpAny_bind (wpAny_runValue ?_)
        have h3 : A.in1.in1.in1.handled = none := by simp [hh]
        have nI : l ≠ (s.heap.push { cls := .type "set", dict := none, data := .set #[] 0 (.fresh 0 0 led) }).objs.size := by
          rw [Heap.size_push]
          exact Nat.ne_of_lt (Nat.lt_succ_of_lt (Heap.lt_size hol))
        have sf : s.heap.objs.size ∉ [(s.heap.push { cls := .type "set", dict := none, data := .set #[] 0 (.fresh 0 0 led) }).objs.size, l] := by
          rw [Heap.size_push]
          simp only [List.mem_cons, List.mem_singleton, List.not_mem_nil, or_false, not_or]
          exact ⟨Nat.ne_of_lt (Nat.lt_succ_self _), Nat.ne_of_gt (Heap.lt_size hol)⟩
        refine set_loop ((Walks.tuple h3 _ l nI its).toS) s.heap.objs.size sf ks hn (fun i v z => hk i v z) (its.size - 0) 0 _ (by omega) (Nat.zero_le _) ⟨⟨_, Heap.get?_push_size _ rfl, rfl, rfl⟩, (hl1.push _)⟩ (PyProof.Rows.SetOf_congr ((PyProof.Rows.setObjOf_fresh (knd := PySem.strKind prog w) led).setOf (Heap.get?_push_of_some _ hS) (by unfold scanBound; omega)) (fun _ => rfl) rfl) ?hR
        case hR =>
          intro s' m H'
          obtain ⟨h', g', d', tk', os'⟩ := s'
          obtain rfl : g' = s.gens := m.gens
          obtain rfl : d' = s.drawn := m.drawn
          obtain rfl : os' = s.os := m.os
          show wpAny _ _ _ _ _ _
          refine wpAny_pure ?_
          show wpAny _ _ (ret Value.none) _ _ _
          refine wpAny_pure ⟨rfl, h', tk', rfl, H', fun b o hb e => ?_⟩
          have b1 : b ≠ s.heap.objs.size := Nat.ne_of_lt hb
          have b2 : b ≠ (s.heap.push { cls := .type "set", dict := none, data := .set #[] 0 (.fresh 0 0 led) }).objs.size := by
            rw [Heap.size_push]
            exact Nat.ne_of_lt (Nat.lt_succ_of_lt hb)
          exact m.heap b o (by simp only [List.mem_cons, List.mem_singleton, List.not_mem_nil, or_false, not_or]; exact ⟨b1, b2⟩) (Heap.get?_push_of_some _ (Heap.get?_push_of_some _ e))

      · cases r₂ with
        | error e => exact hr₂
        | ok f2 =>
          cases f2 with
          | ret r =>
            obtain ⟨rfl, h', tk, rfl, H', k'⟩ := hr₂
            repeat (any_goals (first | assumption | wp_step))
            exact h _ _ H' k'
          | _ => exact hr₂.elim
    | _ => exact hr.elim
end
end L2.Jk

set_option Elab.async false
set_option linter.all false
set_option maxRecDepth 100000
set_option maxHeartbeats 4000000
/-! != of two tuples that are equal item by item, instances with an own __eq__ among the items. -/
namespace L2.Jk
open PySem PySem.W PySem.Spec PySem.Calls PyProof.Rows PySem.SeqAt
open AutoSeq1 (wpAny_loadPart')

section
variable {prog : Program} {w : World} {A : Around} {R : Result → Shared → Prop} {E : Value → Shared → Prop} {s : Shared}
theorem tup_ne_same (l b : Addr) (its jts : Array Value) (n n2 : Nat) (dd dd2 : Option Addr) (sl sl2 : Array (Option Value)) (hsz : its.size = jts.size) (J : Nat → Shared → Prop)
    (turn : ∀ i (h1 : i < its.size) (h2 : i < jts.size) s, J i s → wpAny (model prog w) A.in1 (eqBool its[i] jts[i]) (fun r s' => r = true ∧ J (i + 1) s') (fun e s' => R (.error e) s') s)
    (fin : ∀ s, J its.size s → R (.ok (.ret (.bool false))) s) (hl : s.heap.get? l = some { cls := .type "tuple", dict := dd, data := .seq its n, slots := sl }) (hb : s.heap.get? b = some { cls := .type "tuple", dict := dd2, data := .seq jts n2, slots := sl2 })
    (h : J 0 s) : wpAny (model prog w) A.in1 (Builtin.«tuple.__ne__» ⟨[.ref l, .ref b], []⟩) (GQ.FinOf prog w A R) (fun e s' => R (.error e) s') s := by
  have f2 := AutoSeq1.sub_tuple_tuple
  have len : (its.toList.zip jts.toList).length = its.size := by simp [hsz]
  have h0 := h
  obtain ⟨hp, g, d, tk, os⟩ := s
  wp_walk using wpAny_loadPart' hl, wpAny_loadPart' hb, wpAny_forIn_list _ (fun rest b s' => b.1 = none ∧ ∃ i, rest = (its.toList.zip jts.toList).drop i ∧ i ≤ its.size ∧ J i s') _
  case turn =>
    rintro ⟨y, x⟩ rest b s' ⟨hb', i, hz, hi, hJ⟩
    have lt : i < (its.toList.zip jts.toList).length := by
      refine Nat.lt_of_not_le fun z => ?_
      rw [List.drop_of_length_le z] at hz
      cases hz
    have h1 : i < its.size := len ▸ lt
    have h2 : i < jts.size := hsz ▸ h1
    rw [List.drop_eq_getElem_cons lt] at hz
    obtain ⟨e1, e2⟩ := List.cons.inj hz
    obtain rfl : y = its[i] := by simpa using congrArg Prod.fst e1
    obtain rfl : x = jts[i] := by simpa using congrArg Prod.snd e1
    refine wpAny_bind (wpAny_mono (turn i h1 h2 s' hJ) (fun r s2 q2 => ?_) fun _ _ x => x)
    obtain ⟨rfl, q2⟩ := q2
    wp_walk
    exact ⟨rfl, i + 1, e2, h1, q2⟩
  case fin =>
    rintro ⟨b1, b2⟩ s' ⟨hb', i, hz, hi, hJ⟩
    dsimp only at hb'
    subst hb'
    have ge : its.size ≤ i := by
      refine Nat.le_of_not_lt fun z => ?_
      rw [List.drop_eq_getElem_cons (by rw [len]; exact z)] at hz
      cases hz
    obtain rfl : i = its.size := by omega
    have hR := fin s' hJ
    wp_walk
    simpa [Builtin.Tuple.tupleCompareSizes, hsz] using hR
  case h => exact ⟨rfl, 0, rfl, Nat.zero_le _, h0⟩
theorem tup_ne_rich {l b : Addr} {its jts : Array Value} {Q : Value → Shared → Prop} (hsz : its.size = jts.size) (hu : A.units < cLine) (J : Nat → Shared → Prop) (hl : s.heap.IsTuple l its) (hb : s.heap.IsTuple b jts)
    (turn : ∀ i (h1 : i < its.size) (h2 : i < jts.size) s, J i s → wpAny (model prog w) A.in1 (eqBool its[i] jts[i]) (fun r s' => r = true ∧ J (i + 1) s') E s)
    (fin : ∀ s, J its.size s → Q (.bool false) s) (h : J 0 s) : wpAny (model prog w) A (richCompare .NotEq (.ref l) (.ref b)) Q E s := by
  obtain ⟨⟨c1, d1, t1, s1⟩, g1, k1, n1, e1⟩ := id hl
  obtain ⟨⟨c2, d2, t2, s2⟩, g2, k2, n2, e2⟩ := id hb
  dsimp only at k1 e1 k2 e2
  subst k1 e1 k2 e2
  refine wpAny_richCompare_same_room (op := .NotEq) ⟨_, g1, rfl⟩ ⟨_, g2, rfl⟩ PySem.F.slot_tuple_ne (GQ.call_here PySem.F.slot_tuple_ne ⟨_, g1, rfl⟩ PySem.F.entry_tuple_ne (PySem.F.args_tuple_ne_2 _ _) ?_) hu
  exact tup_ne_same (R := wants (fun v s' => v ≠ .notImplemented ∧ Q v s') E) l b its jts n1 n2 d1 d2 s1 s2 hsz J turn (fun s' q => ⟨(fun x => nomatch x), fin s' q⟩) g1 g2 h
end
section
variable {X : Cx} {n : Nat} {D : Eqv}
/-- t != u of two tuples whose items D says to be equal -/
def rNeT (X : Cx) (D : Eqv) : R2 := fun x y H Q => DTup X.K D x y H ∧ ∀ H', Same H H' → Q (.bl false) H'
theorem op_neT (hD : Mon D) (h : EqG X n D) (hr : Room (n + 1) X.A) : OpR X (compareOp .NotEq) (rNeT X D) := by
  intro pins s σ H x y v u Q I rx ry hq
  obtain ⟨⟨a, b, xs, ys, rfl, rfl, ha, hb, p⟩, q⟩ := hq
  cases rx
  cases ry
  obtain ⟨its, r, e, z⟩ := I.tuple ha
  obtain ⟨jts, r2, e2, z2⟩ := I.tuple hb
  have hsz : its.toArray.size = jts.toArray.size := by rw [List.size_toArray, List.size_toArray, ← r.length, ← r2.length]; exact p.1
  show wpAny (model X.prog X.w) X.A (richCompare .NotEq (.ref a) (.ref b)) (EP X pins σ Q) X.xe s
  refine tup_ne_rich hsz hr.units0 (fun _ s' => LoopI X pins σ H s') e e2 (fun i h1 h2 s' k => turnG hD h ⟨hr, rfl⟩ p r r2 i h1 h2 s' k) (fun s' k => ?_) ⟨H, I, Ext.rfl'⟩
  obtain ⟨H', I', x⟩ := k
  exact ⟨.bl false, H', I', rfl, q H' x⟩
end
end L2.Jk

set_option Elab.async false
set_option linter.all false
set_option maxRecDepth 100000
set_option maxHeartbeats 4000000
/-! ''.join(reversed(xs)), list(text), len(set(..)), type(x) is type(y). -/
namespace L2.Jk
open PySem PySem.W PySem.Spec PySem.Calls PyProof.Rows

theorem paired_of {α β : Type} {F : α → β → Prop} : ∀ {xs : List α} {ys : List β}, xs.length = ys.length → (∀ (i : Nat) x y, xs[i]? = some x → ys[i]? = some y → F x y) → Paired F xs ys
  | [], [], _, _ => .nil
  | [], _ :: _, e, _ => by cases e
  | _ :: _, [], e, _ => by cases e
  | x :: xs, y :: ys, e, h => .cons (h 0 x y rfl rfl) (paired_of (Nat.succ.inj e) fun i a b h1 h2 => h (i + 1) a b h1 h2)
section
variable {X : Cx}
/-! ### list(text) -/
/-- its signs, one text each -/
def signsV (z : Str) : List V := (List.range z.cps.size).map fun i => V.str ⟨#[z.cps.getD i 0]⟩
theorem call_listStr (hc : X.calm = true) : CallR X (.type "list") (fun xs H Q => ∃ z : Str, xs = [.str z] ∧ z.cps.size ≤ 1000 ∧ ∀ p H', H p = none → Same H H' → H' p = some (.lst (signsV z)) → Q (.ref p) H') := by
  intro pins s σ H xs us Q I r h
  obtain ⟨z, rfl, hz, q⟩ := h
  obtain ⟨u, rfl, t, rfl⟩ := vals1 r
  have hz' : z.cps.size ≤ sizeLine := by rw [sizeLine_eq]; omega
  refine call_list_str (I.ok.hd hc) z t (fun h' tk acc c k hp ha => ?_) hz'
  obtain ⟨al, ai⟩ := ha
  have vs : Vals (signsV z) acc.toList := by
    refine paired_of (show (signsV z).length = acc.toList.length by
      have e : acc.toList.length = acc.size := Array.length_toList
      rw [e, al]
      simp [signsV]) fun i x v hx hv => ?_
    have hi : i < z.cps.size := by
      have := (List.getElem?_eq_some_iff.mp hx).1
      simpa [signsV] using this
    obtain ⟨t', e⟩ := sign_at (ai i v (by rw [← Array.getElem?_toList]; exact hv))
    subst e
    have e2 : x = V.str ⟨#[z.cps.getD i 0]⟩ := by
      unfold signsV at hx
      rw [List.getElem?_map, List.getElem?_range hi] at hx
      exact (Option.some.inj hx).symm
    subst e2
    exact ⟨t', rfl⟩
  have n := I.fresh
  refine ⟨.ref s.heap.objs.size, _, I.laid (t' := tk) (h' := h') (o := .lst (signsV z)) k (Nat.le_refl _) ⟨?_, acc.toList, c, vs, by simpa using hp⟩, rfl, q _ _ n (same_upd n) upd_same⟩
  simp only [signsV, List.length_map, List.length_range]
  exact hz'
/-! ### len(set(..)) -/
def tLenSetStr (te : TE) : TE := fun σ H Q => te σ H fun x H1 => ∃ z : Str, x = .str z ∧ z.cps.size ≤ 4000 ∧ Q (.int (newS (fun i => ⟨#[z.cps.getD i 0]⟩) z.cps.size : Nat)) H1
theorem held_len {h : Heap} {S : Addr} {ks : Nat → Str} {i : Nat} {A : Around} {E : Value → Shared → Prop} {Q : Value → Shared → Prop} {s : Shared} (H : HeldS X.prog X.w s.heap S ks i) (hi : i ≤ 4000)
    (q : ∀ tk, Q (.int (newS ks i : Nat) tk) { s with toks := tk + 1 }) : wpAny (model X.prog X.w) A (call (.builtin "len") [.ref S]) Q E s := by
  have few := newS_le ks i
  obtain ⟨o, es, ep, t, ho, hex, hd, _, _, _, hf, hn⟩ := H
  exact call_len_set ho hex hd hf (by rw [hn]; omega) (by rw [hn]; exact q _)
theorem pe_lenSetStr {a : Expr} {ta : TE} {p p2 q pos : Pos} (hc : X.calm = true) (hg : Gl X "len") (hm : X.mg "len" = none) (hg2 : Gl X "set") (hm2 : X.mg "set" = none) (ha : PE X a ta)
    (na : starEach [a] X.env = (false, eval a X.env) :: starEach [] X.env := by rfl) : PE X (.Call (.Name "len" p) [.Call (.Name "set" p2) [a] [] q] [] pos) (tLenSetStr ta) := by
  constructor
  intro pins s σ H Q I h
  refine Call_ (ld_blt I hg hm boot_len (PyProof.Rows.callWith_builtin1 (PyProof.Rows.args_cons ?_ rfl) rfl rfl))
  refine Call_ (ld_blt I hg2 hm2 boot_set (PyProof.Rows.callWith_type1 (PyProof.Rows.args_cons (thn (ha.run pins s σ H _ I h) fun v s1 ⟨x, H1, I1, r1, z, ex, hz, q1⟩ => PyProof.Rows.args_nil ?_) na) na rfl))
  subst ex
  obtain ⟨t, rfl⟩ := r1
  refine set_callStr (I1.ok.hd hc) (by unfold scanBound; omega) fun h' tk hS hk => PyProof.Rows.args_nil ?_
  have I2 : Inv X pins σ H1 { s1 with heap := h', toks := tk } := I1.kept fun b o e => hk b o (Heap.lt_size e) e
  exact held_len (h := h') (s := { s1 with heap := h', toks := tk }) hS hz fun tk' => ⟨.int _, H1, I2.tok _, ⟨_, rfl⟩, q1⟩
/-- .. of a list or a tuple of texts -/
def tLenSetSeq (K : Frag) (te : TE) : TE := fun σ H Q => te σ H fun x H1 => ∃ (l : Addr) (ys : List Str), x = .ref l ∧ (SqL K H1 l (ys.map V.str) ∨ SqT K H1 l (ys.map V.str)) ∧ ys.length ≤ 4000 ∧ Q (.int (newS (fun i => ys.getD i Str.empty) ys.length : Nat)) H1
theorem strs_get {ys : List Str} {us : List Value} (r : Vals (ys.map V.str) us) (i : Nat) (v : Value) (h : us.toArray[i]? = some v) : ∃ t : Tok, v = Value.str (ys.getD i Str.empty) t := by
  have h' : us[i]? = some v := by simpa using h
  have lt : i < ys.length := by
    have := (List.getElem?_eq_some_iff.mp h').1
    rw [← r.length, List.length_map] at this
    exact this
  obtain ⟨u, hu, ru⟩ := r.get (i := i) (x := V.str (ys.getD i Str.empty)) (by rw [List.getElem?_map, List.getElem?_eq_getElem lt, List.getD_eq_getElem?_getD, List.getElem?_eq_getElem lt]; rfl)
  rw [h'] at hu
  cases hu
  exact ru
theorem pe_lenSetSeq {a : Expr} {ta : TE} {p p2 q pos : Pos} (hc : X.calm = true) (hg : Gl X "len") (hm : X.mg "len" = none) (hg2 : Gl X "set") (hm2 : X.mg "set" = none) (ha : PE X a ta)
    (na : starEach [a] X.env = (false, eval a X.env) :: starEach [] X.env := by rfl) : PE X (.Call (.Name "len" p) [.Call (.Name "set" p2) [a] [] q] [] pos) (tLenSetSeq X.K ta) := by
  constructor
  intro pins s σ H Q I h
  refine Call_ (ld_blt I hg hm boot_len (PyProof.Rows.callWith_builtin1 (PyProof.Rows.args_cons ?_ rfl) rfl rfl))
  refine Call_ (ld_blt I hg2 hm2 boot_set (PyProof.Rows.callWith_type1 (PyProof.Rows.args_cons (thn (ha.run pins s σ H _ I h) fun v s1 ⟨x, H1, I1, r1, l, ys, ex, hq, hz, q1⟩ => PyProof.Rows.args_nil ?_) na) na rfl))
  subst ex
  cases r1
  have fin : ∀ (its : List Value), Vals (ys.map V.str) its → ∀ (h' : Heap) (tk : Nat), HeldS X.prog X.w h' s1.heap.objs.size (fun i => ys.getD i Str.empty) its.toArray.size → (∀ b o, b < s1.heap.objs.size → s1.heap.get? b = some o → h'.get? b = some o) →
      wpAny (model X.prog X.w) X.A (spliced (backTo pos (starEach [] X.env))) (fun vs s₂ => wpAny (model X.prog X.w) X.A (call (.builtin "len") (Value.ref s1.heap.objs.size :: vs)) (EP X pins σ Q) X.xe s₂) X.xe { s1 with heap := h', toks := tk } := fun its r h' tk hS hk => by
    have hl : its.toArray.size = ys.length := by rw [List.size_toArray, ← r.length, List.length_map]
    rw [hl] at hS
    have I2 : Inv X pins σ H1 { s1 with heap := h', toks := tk } := I1.kept fun b o e => hk b o (Heap.lt_size e) e
    exact PyProof.Rows.args_nil (held_len (h := h') (s := { s1 with heap := h', toks := tk }) hS hz fun tk' => ⟨.int _, H1, I2.tok _, ⟨_, rfl⟩, q1⟩)
  rcases hq with hq | hq
  · obtain ⟨its, r, pl, _⟩ := I1.list hq
    have hl : its.toArray.size = ys.length := by rw [List.size_toArray, ← r.length, List.length_map]
    exact set_callList (I1.ok.hd hc) pl.isList (strs_get r) (by unfold scanBound; omega) fun h' tk hS hk => fin its r h' tk hS hk
  · obtain ⟨its, r, pl, _⟩ := I1.tuple hq
    have hl : its.toArray.size = ys.length := by rw [List.size_toArray, ← r.length, List.length_map]
    exact set_callTup (I1.ok.hd hc) pl (strs_get r) (by unfold scanBound; omega) fun h' tk hS hk => fin its r h' tk hS hk
/-! ### type(x) is type(y) -/
def rTyA (X : Cx) : List V → Hp → VK → Prop := fun xs H Q => ∃ x, xs = [x] ∧ ((∃ a C dx fs, x = .ref a ∧ H a = some (.ins C dx fs) ∧ Q (.ref C) H) ∨ ∃ T, RZ.Ty4 H x T ∧ Q (.ty T) H)
theorem call_tyA : CallR X (.type "type") (rTyA X) := by
  intro pins s σ H xs us Q I r h
  obtain ⟨x, rfl, h | h⟩ := h
  · obtain ⟨a, C, dx, fs, rfl, ha, q⟩ := h
    exact cr_type pins s σ H _ us Q I r ⟨a, C, dx, fs, rfl, ha, q⟩
  · obtain ⟨T, t, q⟩ := h
    exact RZ.call_type4 pins s σ H _ us Q I r ⟨x, T, rfl, t, q⟩
def rIsA (X : Cx) : R2 := fun x y H Q => ∃ a, x = .ref a ∧ ((∃ b, y = .ref b ∧ (a = b ∨ (makesIn X.K a = true ∧ makesIn X.K b = true)) ∧ Q (.bl (decide (a = b))) H) ∨ ∃ T, y = .ty T ∧ Q (.bl false) H)
theorem op_isA : OpR X (compareOp .Is) (rIsA X) := by
  intro pins s σ H x y v u Q I rx ry h
  obtain ⟨a, rfl, h | h⟩ := h
  · obtain ⟨b, rfl, hab, q⟩ := h
    exact op_is_cls pins s σ H _ _ v u Q I rx ry ⟨a, b, rfl, rfl, hab, q⟩
  · obtain ⟨T, rfl, q⟩ := h
    cases rx
    cases ry
    show wpAny _ _ (do return Value.bool (← isSame (.ref a) (.type T))) _ _ _
    exact wpAny_bind (wpAny_of_eq (a := false) rfl (wpAny_pure ⟨.bl false, H, I, rfl, q⟩))
/-! ### ''.join(reversed(xs)) -/
def tJoinRev (K : Frag) (to te : TE) : TE := fun σ H Q => to σ H fun o H0 => ∃ z : Str, o = .str z ∧ te σ H0 fun v H1 => ∃ (a : Addr) (ys : List Str), v = .ref a ∧ SqL K H1 a (ys.map V.str) ∧ JoinOk z ys.reverse = true ∧ Q (.str (Txt.join z ys.reverse)) H1
theorem strs_pairs : ∀ {ys : List Str} {us : List Value}, Vals (ys.map V.str) us → ∃ l : List (Str × Tok), strValues l = us ∧ l.map (·.1) = ys
  | [], _, .nil => ⟨[], rfl, rfl⟩
  | y :: ys, _, .cons r t => by
    obtain ⟨k, rfl⟩ := r
    obtain ⟨l, e1, e2⟩ := strs_pairs t
    exact ⟨(y, k) :: l, by rw [← e1]; rfl, by rw [← e2]; rfl⟩
theorem joined_tail (z : Str) : ∀ l : List (Str × Tok), Builtin.Str.tooLong ((l.map (·.1)).toArray.foldl (· + ·.length + z.length) 0) = false → Gives (joinTail z (strValues l)) (joinMade z l)
  | [], h => gives_joinTail z [] h
  | [p], h => gives_joinTail z [p] h
  | p :: q :: r, h => gives_joinTail z (p :: q :: r) h
theorem pe_joinRev {o e : Expr} {to te : TE} {apos p2 pos2 cpos : Pos} (hc : X.calm = true) (hg2 : Gl X "reversed") (hm2 : X.mg "reversed" = none) (ho : PE X o to) (he : PE X e te)
    (hbase : attributeBase o "join" X.env (eval o X.env) = eval o X.env := by rfl)
    (hfew : ((backTo cpos (starEach [Expr.Call (.Name "reversed" p2) [e] [] pos2] X.env)).all (fun x => !x.1) && (backToKw cpos (keywordEach [] X.env)).all (fun x => x.1.isSome)
      && decide ([Expr.Call (.Name "reversed" p2) [e] [] pos2].length + ([] : List Keyword).length + (if ([] : List Keyword).isEmpty then 0 else 1) < 30)) = true := by rfl)
    (hline : (apos.endLine == cpos.line) = true := by rfl) (hs : starEach [e] X.env = (false, eval e X.env) :: starEach [] X.env := by rfl)
    (hs2 : starEach [Expr.Call (.Name "reversed" p2) [e] [] pos2] X.env = (false, eval (.Call (.Name "reversed" p2) [e] [] pos2) X.env) :: starEach [] X.env := by rfl) :
    PE X (.Call (.Attribute o "join" apos) [.Call (.Name "reversed" p2) [e] [] pos2] [] cpos) (tJoinRev X.K to te) := by
  constructor
  intro pins s σ H Q I h
  refine wpAny_Call_method_late hbase hfew hline rfl (thn (ho.run pins s σ H _ I h) fun v s1 ⟨x, H0, I0, r0, z, ex, q0⟩ => ?_)
  subst ex
  obtain ⟨t, rfl⟩ := r0
  refine ⟨"str", "str.join", PySem.F.plainAttrs_str, PySem.F.slot_str_join, PySem.F.type_str_join, typeIs_str _ _ _, (fun a e => nomatch e), ?_⟩
  refine Calls.callWith_builtin (by rw [hs2]; rfl) ?_
  rw [hs2]
  refine Calls.evalArgs_plain (Calls.spliced_cons ?_)
  refine Call_ (ld_blt I0 hg2 hm2 PyProof.Rows.boot_reversed (PyProof.Rows.callWith_type1 (PyProof.Rows.args_cons (thn (he.run pins s1 σ H0 _ I0 q0) fun u s2 ⟨y, H1, I1, r1, a, ys, ey, hq, ok, q1⟩ => PyProof.Rows.args_nil ?_) hs) hs rfl))
  subst ey
  obtain rfl : u = Value.ref a := r1
  obtain ⟨its, rv, pl, hz⟩ := I1.list hq
  refine call_reversed_list pl.isList (Calls.spliced_nil ?_)
  have k0 : ∀ b o, s2.heap.get? b = some o → (s2.heap.push (revObj a ((its.toArray.size : Int) - 1))).get? b = some o := fun b o e => Heap.get?_push_of_some _ e
  have I2 : Inv X pins σ H1 { s2 with heap := s2.heap.push (revObj a ((its.toArray.size : Int) - 1)) } := I1.kept (t' := s2.toks) k0
  obtain ⟨f0, f1, f2, f3, f4, f5⟩ := I1.fpOk (H' := H1) (b := s2.heap.objs.size) (Nat.le_refl _) (I1.hok.fresh (Nat.le_refl _))
  have hl := pl.isList
  obtain ⟨ol, hol, _⟩ := id hl
  have ne : a ≠ s2.heap.objs.size := Nat.ne_of_lt (Heap.lt_size hol)
  have sm : its.toArray.size ≤ sizeLine := by rw [List.size_toArray, ← rv.length]; exact hz
  have hit : (s2.heap.push (revObj a ((its.toArray.size : Int) - 1))).IsRevIter s2.heap.objs.size a ((its.toArray.size : Int) - 1) := ⟨_, Heap.get?_push_size _ rfl, rfl, rfl⟩
  refine wpAny_call (codeAny_call_builtin F.slot_str_join.plain F.entry_str_join (F.slot_str_join.check _ _ _ _ _ _ _ _ (typeIs_str _ _ _) (F.args_str_join_2 _ _) ?_))
  show wpAny _ _ (Builtin.«str.join» ⟨[.str z t, .ref s2.heap.objs.size], []⟩) _ _ _
  rw [join_tree_other]
  refine wpAny_bind (wpAny_typeOf hit.typeIs ?_)
  show wpAny _ X.A.in1 ((pyIter (.ref s2.heap.objs.size)).tryCatch _ >>= fun it => collect it >>= fun items => joinTail z items) _ _ _
  refine wpAny_bind (wpAny_tryCatch (wpAny_pyIter_revIter hit ?_))
  refine wpAny_bind (RT.collect_rev (I1.ok.hd hc) hit (hl.push _) ne sm fun h' tk acc hk hi => ?_)
  have I3 : Inv X pins σ H1 { s2 with heap := h', toks := tk } := I2.turned (t' := tk) (fun b o hb e => hk b o hb e) f0 f1 f3 f4 f5
  have rr := RT.vals_rev rv hi
  rw [← List.map_reverse] at rr
  obtain ⟨l, el, em⟩ := strs_pairs rr
  rw [← el]
  have fit : Builtin.Str.tooLong ((l.map (·.1)).toArray.foldl (· + ·.length + z.length) 0) = false := by
    rw [em]
    unfold JoinOk at ok
    rwa [Bool.not_eq_true'] at ok
  have g : Gives (joinTail z (strValues l)) (joinMade z l) := joined_tail z l fit
  refine g X.prog X.w X.A (wants (EP X pins σ Q) X.xe) _ (post_join l ⟨?_, fun t' k => ?_⟩)
  · exact joinFit_length fit
  · rw [em]
    exact ⟨.str _, H1, I3.tok k, ⟨t', rfl⟩, q1⟩
end
end L2.Jk

set_option Elab.async false
set_option linter.all false
set_option maxRecDepth 100000
set_option maxHeartbeats 4000000
/-! Errors raised, instances made where their __init__ may raise, isinstance of flat values. -/
namespace L2.Jk
open PySem PySem.W PySem.Spec PySem.Calls PyProof.Rows

section
variable {X : Cx} {CX : CXT} {k : Nat} {x : Str} {ps : List Str} {sp : Sp} {e : Expr} {es : List Expr} {t : TA} {p pos : Pos} {W : WX}
theorem pe_fnS (G : FnAt X.prog X.w X.K X.mg X.base CX k x ps sp) (hr : Room k X.A) {E : St → XK} (hx : ∀ σ, PassesAt CX X σ (E σ)) (hg : Gl X x) (ha : PA X (e :: es) t)
    (hdb : (x == ("__debug__" : Str)) = false := by decide) (he : starEach (e :: es) X.env = (false, eval e X.env) :: starEach es X.env := by rfl) (hpl : (backTo pos (starEach es X.env)).any (·.1) = false := by rfl) :
    PE X (.Call (.Name x p) (e :: es) [] pos) (tCallS sp E t) := by
  obtain ⟨f, fd, hm, kp, F, hb⟩ := G.ex
  exact pe_callS F hr hg hm kp hb hx ha hdb he hpl
/-! ### an error that is raised -/
def tMkErr (C : Addr) (fs : List Str) (ta : TA) : St → Hp → XK → Prop := fun σ H Q => ta σ H fun vs H1 => vs.length = fs.length ∧ ∀ d H2, H1 d = none → Same H1 H2 → H2 d = some (.xd (fldE fs vs)) → Q (.ref C) (some d) H2
theorem same_raise {H : Hp} {a C d : Addr} {fs : List (Str × V)} (ha : H a = none) (hd : H d = none) (ne : d ≠ a) : Same H (upd (del (mkE H a C d fs) a) d (.xd fs)) := fun b o e => by
  have n1 := ne_of_none e ha
  have n2 := ne_of_none e hd
  rw [upd_ne n2, del_ne n1]
  unfold mkE
  rw [upd_ne n1, upd_ne n2]
  exact e
end
/-- what is wished of an error C(v) that is raised at H -/
def RaiseE (C : Addr) (f : Str) (v : V) (H : Hp) (Q : XK) : Prop := ∀ d H2, H d = none → Same H H2 → H2 d = some (.xd [(f, v)]) → Q (.ref C) (some d) H2
theorem mkO_1 {C : Addr} {f : Str} {v : V} {H : Hp} {Q : XK} (q : RaiseE C f v H Q) : ([v] : List V).length ≤ 1000 ∧ ∀ a, H a = none → spI1 C f (.ref a :: ([v] ++ [])) (upd H a (exo a C none))
    (fun u H2 => u = .non ∧ ∃ (d : Addr) (fs : List (Str × V)), H2 a = some (exo a C (some d)) ∧ H2 d = some (exd d fs) ∧ H d = none ∧ Q (.ref C) (some d) (upd (del H2 a) d (.xd fs))) (fun _ _ _ => False) := by
  refine ⟨by show 1 ≤ 1000; decide, fun a ha => ⟨a, v, rfl, upd_same, fun d hd ne => ⟨rfl, d, [(f, v)], ?_, ?_, ?_, ?_⟩⟩⟩
  · rw [mkE_new ne]
    exact upd_same
  · rw [mkE_new ne]
    unfold mkE
    rw [upd_ne ne, upd_same]
  · rw [upd_ne ne] at hd
    exact hd
  · rw [mkE_new ne]
    rw [upd_ne ne] at hd
    exact q d _ hd (same_raise ha hd ne) upd_same
section
variable {X : Cx} {x : Str} {e : Expr} {es : List Expr} {ta : TA} {p pos : Pos}
/-- raise C(e), C an error of one field -/
theorem pmk_1 {C : Addr} {f z : Str} (T : ErrAt X.prog X.w X.K X.mg X.base x C [f] z) (hr : Room 2 X.A) (hg : Gl X x) (ha : PA X (e :: es) ta)
    (hdb : (x == ("__debug__" : Str)) = false := by decide) (he : starEach (e :: es) X.env = (false, eval e X.env) :: starEach es X.env := by rfl) (hpl : (backTo pos (starEach es X.env)).any (·.1) = false := by rfl) :
    PMk X (.Call (.Name x p) (e :: es) [] pos) (tMkO C (spI1 C f) [] ta) := by
  obtain ⟨fd, hb, iok⟩ := T.iok
  exact pmk_oex (X := X) (ta := ta) T.ex.ec.ox T.ini.1 T.ini.2 iok hr hb .nil pass0 hg T.mgC ha hdb he hpl
/-! ### an instance made by a class whose __init__ may raise -/
structure ClsAt (P : Program) (w : World) (K : Frag) (mg : Str → Option Value) (base : Heap) (CX : CXT) (k : Nat) (x : Str) (C : Addr) (ps : List Str) (sp : Sp) : Prop where
  mgC : mg x = some (.ref C)
  cl : Cls K C
  mkr : Mk K C (He.ma K C "__init__")
  ok : ∃ fd, FnOk P w K mg base CX k (He.ma K C "__init__") fd ps sp ∧ Binds K fd ps []
def tNewS (C : Addr) (sp : Sp) (E : St → XK) (t : TA) : TE := fun σ H Q => t σ H fun vs H1 => ∀ a dx, H1 a = none → H1 dx = none → dx ≠ a → sp (.ref a :: vs) (upd (upd H1 dx (.own a)) a (.ins C dx [])) (fun v H2 => v = .non ∧ Q (.ref a) H2) (E σ)
theorem pe_newS {CX : CXT} {k : Nat} {C : Addr} {ps : List Str} {sp : Sp} {E : St → XK} (G : ClsAt X.prog X.w X.K X.mg X.base CX k x C ps sp) (hr : Room (k + 1) X.A) (hx : ∀ σ, PassesAt CX X σ (E σ)) (hg : Gl X x) (ha : PA X (e :: es) ta)
    (hdb : (x == ("__debug__" : Str)) = false := by decide) (he : starEach (e :: es) X.env = (false, eval e X.env) :: starEach es X.env := by rfl) (hpl : (backTo pos (starEach es X.env)).any (·.1) = false := by rfl) :
    PE X (.Call (.Name x p) (e :: es) [] pos) (tNewS C sp E ta) := by
  obtain ⟨fd, F, hb⟩ := G.ok
  have M := G.mkr
  constructor
  intro pins s σ H Q I h
  refine wpAny_Call_Name_kw (ld_glob I hg G.mgC ?_ hdb)
  refine callWith_K (h₀ := X.base) I.ok.mod.kin M.kp (thn (ha.run pos pins s σ H _ I h) fun us s1 ⟨vs, H1, I1, r, q⟩ => ⟨I1.kIn, ?_⟩) he hpl
  show wpAny _ _ (call (.ref C) us) _ _ _
  have pr := q (s1.heap.objs.size + 1) s1.heap.objs.size (I1.hok.fresh (Nat.le_succ _)) I1.fresh (Nat.ne_of_lt (Nat.lt_succ_self _))
  have I2 := Inv.made (C := C) I1
  have r2 : Vals (V.ref (s1.heap.objs.size + 1) :: vs) (Value.ref (s1.heap.objs.size + 1) :: us) := .cons rfl r
  have hl : (Value.ref (s1.heap.objs.size + 1) :: us).length = ps.length := by
    rw [← r2.length]
    exact F.len _ _ _ _ pr
  have hb' := hb _ (Value.ref (s1.heap.objs.size + 1) :: us) I2.kIn (by rw [List.append_nil]; exact hl)
  rw [List.append_nil] at hb'
  refine wpAny_call (make_map (f := He.ma X.K C "__init__") I1.kIn M.makes M.init (beq_iff_eq.mp M.fn) (codeAny_mono (F.run _ X.stack _ _ ⟨Value.ref (s1.heap.objs.size + 1) :: us, []⟩ (Value.ref (s1.heap.objs.size + 1) :: us) _ _ (E σ) (hr.make C us [])
    (I2.env0.make C us []) hb' r2 pr) fun r s' hq' => ?_))
  cases r with
  | error er => exact hx σ pins _ _ er s' I2 hq'
  | ok fl =>
    cases fl with
    | ret u =>
      obtain ⟨v, H', I3, rv, ev, q3⟩ := I2.after hq'
      subst ev
      exact ⟨rv, ⟨V.ref (s1.heap.objs.size + 1), H', I3, rfl, q3⟩⟩
    | next => exact False.elim hq'
    | brk => exact False.elim hq'
    | cont => exact False.elim hq'
end
/-! ### isinstance of flat values against built-in types -/
def tyN : V → String
  | .non => "NoneType"
  | .bl _ => "bool"
  | .int _ => "int"
  | .str _ => "str"
  | _ => ""
theorem flat_ty {K : Frag} {H : Hp} {v : V} (h : flatV v = true) : TyE K H v (.type (tyN v)) := by
  cases v with
  | non => exact .x (.base .non)
  | bl b => exact .x (.base (.bl b))
  | int i => exact .x (.base (.int i))
  | str z => exact .x (.base (.str z))
  | _ => cases h
def isStr : V → Bool
  | .str _ => true
  | _ => false
/-- an int or a bool -/
def isInt : V → Bool
  | .int _ => true
  | .bl _ => true
  | _ => false
def isBl : V → Bool
  | .bl _ => true
  | _ => false
theorem kit_str {v : V} (h : flatV v = true) : kitB (tyN v) "str" = some (isStr v) := by
  cases v with
  | non => show kitB "NoneType" "str" = some false; decide +kernel
  | bl b => show kitB "bool" "str" = some false; decide +kernel
  | int i => show kitB "int" "str" = some false; decide +kernel
  | str z => show kitB "str" "str" = some true; decide +kernel
  | _ => cases h
theorem kit_int {v : V} (h : flatV v = true) : kitB (tyN v) "int" = some (isInt v) := by
  cases v with
  | non => show kitB "NoneType" "int" = some false; decide +kernel
  | bl b => show kitB "bool" "int" = some true; decide +kernel
  | int i => show kitB "int" "int" = some true; decide +kernel
  | str z => show kitB "str" "int" = some false; decide +kernel
  | _ => cases h
theorem kit_bool {v : V} (h : flatV v = true) : kitB (tyN v) "bool" = some (isBl v) := by
  cases v with
  | non => show kitB "NoneType" "bool" = some false; decide +kernel
  | bl b => show kitB "bool" "bool" = some true; decide +kernel
  | int i => show kitB "int" "bool" = some false; decide +kernel
  | str z => show kitB "str" "bool" = some false; decide +kernel
  | _ => cases h
theorem ie_of {K : Frag} {H : Hp} {v : V} {S T : String} {b : Bool} {Q : VK} (ty : TyE K H v (.type S)) (k : kitB S T = some b) (q : Q (.bl b) H) : rIe K [v, .ty T] H Q :=
  ⟨v, .ty T, .type S, .type T, b, rfl, .ty T, ty, kit_ty k, q⟩
end L2.Jk

set_option Elab.async false
set_option linter.all false
set_option maxRecDepth 100000
set_option maxHeartbeats 4000000
/-! A comprehension over a text; a method of an instance whose class shows in the heap; what happens to an error that is raised in a make. -/
namespace L2.Jk
open PySem PySem.W PySem.Spec PySem.Calls PyProof.Rows

theorem lc_str {x : Str} {g : TG} {tt : TT} {te : TE} {vs : List Nat} {σ : St} {H1 : Hp} {D : Addr} {Qd : Hp → Prop} (Pv : Nat → Hp → Prop) (h0 : Pv 0 (upd H1 D (.lst [])))
    (hs : ∀ (i c : Nat) H, x.cps[i]? = some c → Pv i H → g (.str ⟨#[c]⟩) (wipe σ vs) H fun σ2 H2 => wipe σ2 vs = wipe σ vs ∧ tt σ2 H2 fun b H3 =>
      if b = true then te σ2 H3 fun y H4 => ∃ acc, H4 D = some (.lst acc) ∧ acc.length < sizeLine ∧ Pv (i + 1) (upd H4 D (.lst (acc ++ [y]))) else Pv (i + 1) H3) (hd : ∀ H, Pv x.cps.size H → Qd H) :
    ∃ W : Nat → Nat → Hp → Prop, (∃ m, W 0 m (upd H1 D (.lst []))) ∧ ∀ i m H, W i m H →
      ((Its x).stop i H ∧ Qd H) ∨ ((Its x).go i H ∧ ∃ Nx : Hp → Prop, (∀ H', Nx H' → ∃ m', m' < m ∧ W (i + 1) m' H') ∧ ∀ y H', (Its x).yld i H y H' → g y (wipe σ vs) H' fun σ2 H2 => wipe σ2 vs = wipe σ vs ∧ tt σ2 H2 fun b H3 =>
        if b = true then te σ2 H3 fun y H4 => ∃ acc, H4 D = some (.lst acc) ∧ acc.length < sizeLine ∧ Nx (upd H4 D (.lst (acc ++ [y]))) else Nx H3) := by
  refine ⟨fun i m H => m = x.cps.size - i ∧ i ≤ x.cps.size ∧ Pv i H, ⟨x.cps.size, by simp, Nat.zero_le _, h0⟩, ?_⟩
  rintro i m H ⟨rfl, hi, p⟩
  by_cases hlt : i < x.cps.size
  · refine .inr ⟨hlt, Pv (i + 1), fun H' p' => ⟨x.cps.size - (i + 1), by omega, rfl, hlt, p'⟩, fun y H' z => ?_⟩
    obtain ⟨e, c, hc, ev⟩ := z
    subst e ev
    exact hs i c _ hc p
  · have e : i = x.cps.size := by omega
    subst e
    exact .inl ⟨Nat.le_refl _, hd H p⟩
/-- o.m(e, ..), the class of o as the heap has it -/
def tMethD (X : Cx) (CX : CXT) (m : Str) (E : XK) (ta : TE) (t : TA) : TE := fun σ H Q => ta σ H fun x H1 => ∃ (a C dx f : Addr) (fs : List (Str × V)) (k : Nat) (fd : FuncData) (ps : List Str) (sp : Sp), x = .ref a ∧ H1 a = some (.ins C dx fs) ∧ fs.lookup m = none ∧
  Cls X.K C ∧ Meth X.K C m f ∧ FnOk X.prog X.w X.K X.mg X.base CX k f fd ps sp ∧ Room k X.A ∧ Binds X.K fd ps [] ∧ t σ H1 fun vs H2 => sp (x :: vs) H2 Q E
section
variable {X : Cx} {CX : CXT} {E : XK} {o e : Expr} {es : List Expr} {m : Str} {ta : TE} {t : TA} {apos pos : Pos}
theorem pe_methD {pl : Sem Bool} (he : PE X o ta) (hx : Passes CX X E) (ha : PA X (e :: es) t)
    (hst : starEach (e :: es) X.env = (false, eval e X.env) :: starEach es X.env := by rfl) (hpl : (backTo pos (starEach es X.env)).any (·.1) = false := by rfl)
    (ht : eval (.Call (.Attribute o m apos) (e :: es) [] pos) X.env = (do
      let ov ← eval o X.env
      standAt apos.atName
      let (f, first) ← holding [ov] (getMethod ov m pl)
      callWith pos f first (backTo pos (starEach (e :: es) X.env)) (backToKw pos (keywordEach [] X.env))) := by rfl) :
    PE X (.Call (.Attribute o m apos) (e :: es) [] pos) (tMethD X CX m E ta t) := by
  refine ⟨fun pins s σ H Q I h => ?_⟩
  refine PySem.W.methodCall_KW (pl := pl) (thn (he.run pins s σ H _ I h) fun u s1 hh => ?_) ht
  obtain ⟨x, H1, I1, rx, a, C, dx, f, fs, k, fd, ps, sp, ex, ea, l, c, hm, F, hr, hb, q⟩ := hh
  subst ex
  obtain rfl : u = Value.ref a := rx
  refine getmeth_ok I1 ea c hm l ?_
  refine PySem.W.callWith_K (first := [.ref a]) (h₀ := X.base) I.ok.mod.kin hm.kp (thn (ha.run pos pins s1 σ H1 _ I1 q) fun us s2 ⟨vs, H2, I2, r, q2⟩ => ⟨I2.kIn, ?_⟩) hst hpl
  have q2' : sp (V.ref a :: (vs ++ [])) H2 Q E := by rw [List.append_nil]; exact q2
  exact run_fn (us := .ref a :: us) (vs := .ref a :: vs) (dvs := []) (ds := []) F hr hb .nil hx I2 (.cons rfl r) q2'
end
/-- a call that the reading never comes to -/
theorem fn_never {P : Program} {w : World} {K : Frag} {mg : Str → Option Value} {base : Heap} {CX : CXT} {k : Nat} {f : Addr} {fd : FuncData} {ps : List Str} : FnOk P w K mg base CX k f fd ps (fun _ _ _ _ => False) where
  len := fun _ _ _ _ h => False.elim h
  run := fun _ _ _ _ _ _ _ _ _ _ _ _ _ h => False.elim h
theorem same_new {H : Hp} {a dx C : Addr} {fs : List (Str × V)} (ha : H a = none) (hd : H dx = none) : Same H (upd (upd H dx (.own a)) a (.ins C dx fs)) := fun b o e => by
  rw [upd_ne (ne_of_none e ha), upd_ne (ne_of_none e hd)]
  exact e
theorem same_put {H H1 : Hp} {p : Addr} {o : HO} (S : Same H H1) (n : H p = none) : Same H (upd H1 p o) := fun b u e => by
  rw [upd_ne (ne_of_none e n)]
  exact S b u e
end L2.Jk

set_option Elab.async false
set_option linter.all false
set_option maxRecDepth 100000
set_option maxHeartbeats 4000000
/-! The things that are drawn, and what is told of them. -/
namespace L2.K76
open PySem PySem.W PySem.Spec PySem.Calls PyProof.Rows L2.Jk

/-- a kind of things, by what is true of them -/
structure Menu (α : Type) where
  p : α → Prop
instance {α : Type} : Membership α (Menu α) := ⟨fun m a => m.p a⟩
def lenOf : V → Nat
  | .str z => z.length
  | _ => 0
def vM : Menu V := ⟨fun v => flatV v = true ∧ lenOf v ≤ 20⟩
abbrev sM := vM
abbrev eM := vM
abbrev mQ := vM
def nM : Menu V := ⟨fun v => flatV v = true ∧ ∀ i, v = .int i → i ≤ 300⟩
abbrev hM := nM
/-- what the texts of a listed field are drawn from -/
inductive LX where
  | lst (xs : List V)
  | tup (xs : List V)
  | val (v : V)
  deriving DecidableEq
def LX.els : LX → List V
  | .lst xs => xs
  | .tup xs => xs
  | .val _ => []
def dV : V → PyData
  | .bl b => .bool b
  | .int i => .int i
  | .str z => .str z
  | _ => .none
def lM : Menu LX := ⟨fun x => (x = .lst x.els ∨ x = .tup x.els) ∧ x.els.length ≤ 20 ∧ (∀ v ∈ x.els, v ∈ vM) ∧ SeqAt.shaped (.tuple (x.els.map dV)) = true⟩
def wM : Menu V := ⟨fun v => ∃ i, v = .int i ∧ 1 ≤ i ∧ i < 60⟩

/-- text.strip(signs) == '' -/
def madeB (a b : Str) : Bool := decide (V.str (Txt.stripChars a b) = V.str "")
/-- c in z, c one sign -/
def inB (c z : Str) : Bool := decide (c.cps.getD 0 0 ∈ z.cps.toList)
def isSignB : V → Bool
  | .str z => (z.length == 1) && inB z SG
  | _ => false
def areB : V → Bool
  | .str z => madeB z SG
  | _ => false
def sgB : V → Bool
  | .str z => z.cps.toList.all fun c => decide (c ∈ SG.cps.toList)
  | _ => false
def numB : V → Bool
  | .int _ => true
  | _ => false
def lenV : V → Nat
  | .str z => z.length
  | _ => 0
/-- signs that stand twice -/
def twB : V → Bool
  | .str z => decide ((newS (fun i => ⟨#[z.cps.getD i 0]⟩) z.cps.size : Nat) < z.length)
  | _ => false
def sBad (v : V) : Bool := !areB v || (decide (v = .str "") || twB v)
def ltV : V → V → Bool
  | .int a, .int b => decide (a < b)
  | _, _ => false
def bDue (l m : V) : Option Str :=
  if (!numB l || ltV l (.int 0)) = true then some "least" else if (!decide (m = .non) && (!numB m || ltV m l)) = true then some "most" else none
def wDue (w : V) : Option Str := if (!numB w || ltV w (.int 1)) = true then some "width" else none
/-- the texts of a list, if all are texts of signs -/
def strV : V → Str
  | .str z => z
  | _ => ""
def xsBad (xs : List V) : Bool := !xs.all areB || decide ((newS (fun i => (xs.map strV).getD i Str.empty) (xs.map strV).length : Nat) < xs.length)
def lxDue : LX → Option Str
  | .val _ => some "texts"
  | .lst xs => if (decide (xs.length = 0) || xsBad xs) = true then some "texts" else none
  | .tup xs => if (decide (xs.length = 0) || xsBad xs) = true then some "texts" else none
def eDue (s e l m : V) : Option Str :=
  if sBad s = true then some "signs" else if (!isSignB e || inB (strV e) (strV s)) = true then some "sign" else bDue l m
def oDue (s l m : V) : Option Str := if sBad s = true then some "signs" else bDue l m
inductive PD where
  | word (s l m : V)
  | number (l m : V)
  | fixed (w : V)
  | listed (x : LX)
  | ended (s e l m : V)
def PD.due : PD → Option Str
  | .word s l m => oDue s l m
  | .number l m => bDue l m
  | .fixed w => wDue w
  | .listed x => lxDue x
  | .ended s e l m => eDue s e l m
def PD.In : PD → Prop
  | .word s l m => s ∈ sM ∧ l ∈ nM ∧ m ∈ nM
  | .number l m => l ∈ nM ∧ m ∈ hM
  | .fixed w => w ∈ wM
  | .listed x => x ∈ lM
  | .ended s e l m => s ∈ sM ∧ e ∈ eM ∧ l ∈ nM ∧ m ∈ nM
/-- has a sign: what the program asks -/
def dg (n : Int) : Str := Txt.join "" [(toString n : Str)]
def wwB (s m : V) (c : Str) : Bool := inB c (strV s) && !decide (m = .int 0)
def intV : V → Int
  | .int i => i
  | _ => 0
def PD.has (c : Str) : PD → Bool
  | .word s _ m => wwB s m c
  | .number l m => if (decide (m = .non) || decide (9 ≤ intV m - intV l)) = true then inB c DG else (List.range (intV m + 1 - intV l).toNat).any fun (i : Nat) => inB c (dg (intV l + i))
  | .fixed _ => inB c DG
  | .listed x => x.els.any fun v => inB c (strV v)
  | .ended s e _ m => decide (V.str c = e) || wwB s m c
inductive OD where
  | val (v : V)
  | pl (d : PD)
  | mk (n m : V) (i : OD)
def iDue (n m : V) : OD → Option Str
  | .pl d => if (d.has (strV n) || d.has (strV m)) = true then some "field" else none
  | _ => some "field"
def OD.due : OD → Option Str
  | .val _ => none
  | .pl d => d.due
  | .mk n m i => if (!isSignB n) = true then some "none" else if (!isSignB m || decide (m = n)) = true then some "mark" else iDue n m i
theorem one_of {z : Str} (h : z.length = 1) : z = ⟨#[z.cps.getD 0 0]⟩ := by
  obtain ⟨a⟩ := z
  have h : a.size = 1 := h
  cases e : a.toList with
  | nil =>
    have z : a.toList.length = 1 := by rw [Array.length_toList]; exact h
    rw [e] at z
    cases z
  | cons x xs =>
    have z : a.toList.length = 1 := by rw [Array.length_toList]; exact h
    rw [e] at z
    have e2 : xs = [] := List.length_eq_zero_iff.mp (Nat.succ.inj z)
    have e3 : a = #[x] := by rw [← Array.toArray_toList (xs := a), e, e2]
    rw [e3]
    rfl
theorem vM_facts (v : V) (h : v ∈ vM) : flatV v = true ∧ True ∧ True ∧ lenV v ≤ 20 := by
  obtain ⟨h1, h2⟩ := (show flatV v = true ∧ lenOf v ≤ 20 from h)
  refine ⟨h1, trivial, trivial, ?_⟩
  cases v <;> exact h2
theorem one_sign (v : V) (_ : v ∈ vM) (h : lenV v = 1) : v = .str ⟨#[(strV v).cps.getD 0 0]⟩ := by
  cases v with
  | str z => exact congrArg V.str (one_of h)
  | _ => cases h
theorem bDue_none {l m : V} (h : bDue l m = none) : (∃ i, l = .int i ∧ 0 ≤ i) ∧ (m = .non ∨ ∃ j, m = .int j ∧ 0 ≤ j) := by
  unfold bDue at h
  split at h
  · cases h
  · rename_i h1
    split at h
    · cases h
    · rename_i h2
      cases l with
      | int i =>
        have hi : 0 ≤ i := by
          have z : ¬ (decide (i < 0)) = true := fun e => h1 (by show (!true || decide (i < 0)) = true; rw [e]; rfl)
          have : ¬ i < 0 := fun e => z (decide_eq_true e)
          omega
        refine ⟨⟨i, rfl, hi⟩, ?_⟩
        cases m with
        | non => exact .inl rfl
        | int j =>
          refine .inr ⟨j, rfl, ?_⟩
          have z : ¬ (decide (j < i)) = true := fun e => h2 (by show (!decide (V.int j = .non) && (!true || decide (j < i))) = true; rw [e, decide_eq_false (fun z => nomatch z)]; rfl)
          have : ¬ j < i := fun e => z (decide_eq_true e)
          omega
        | _ => exact absurd (by rw [decide_eq_false (fun z => nomatch z)]; rfl) h2
      | _ => exact absurd rfl h1
theorem sBad_str {s : V} (h : sBad s = false) : ∃ z, s = .str z := by
  cases s with
  | str z => exact ⟨z, rfl⟩
  | _ => cases h
theorem scal_flat {v : V} (h : flatV v = true) : scal v v = true := by cases v <;> first | rfl | cases h
theorem oDue_none {s l m : V} (h : oDue s l m = none) : sBad s = false ∧ bDue l m = none := by
  unfold oDue at h
  split at h
  · cases h
  · rename_i k
    exact ⟨Bool.eq_false_iff.mpr k, h⟩
theorem eDue_none {s e l m : V} (h : eDue s e l m = none) : sBad s = false ∧ isSignB e = true ∧ bDue l m = none := by
  unfold eDue at h
  split at h
  · cases h
  · rename_i k
    split at h
    · cases h
    · rename_i k2
      refine ⟨Bool.eq_false_iff.mpr k, ?_, h⟩
      cases z : isSignB e with
      | true => rfl
      | false => exact absurd (by rw [z]; rfl) k2
theorem sign_one {v : V} (h : isSignB v = true) : v = .str ⟨#[(strV v).cps.getD 0 0]⟩ ∧ True := by
  cases v with
  | str z =>
    have k : (z.length == 1) = true := (Bool.and_eq_true_iff.mp h).1
    exact ⟨congrArg V.str (one_of (by simpa using k)), trivial⟩
  | _ => cases h
theorem sM_vM {v : V} (h : v ∈ sM) : v ∈ vM := h
theorem eM_vM {v : V} (h : v ∈ eM) : v ∈ vM := h
theorem mQ_vM {v : V} (h : v ∈ mQ) : v ∈ vM := h
theorem nh {v : V} (h : v ∈ nM) : v ∈ hM := h
theorem word_due (s : V) (_ : s ∈ sM) (l : V) (_ : l ∈ nM) (m : V) (_ : m ∈ nM) (h : oDue s l m = none) : s = .str (strV s) ∧ scal m (.int 0) = true ∧ (scal s s && (scal l l && scal m m)) = true := by
  obtain ⟨h1, h2⟩ := oDue_none h
  obtain ⟨z, rfl⟩ := sBad_str h1
  obtain ⟨⟨i, rfl, _⟩, rfl | ⟨j, rfl, _⟩⟩ := bDue_none h2 <;> exact ⟨rfl, rfl, rfl⟩
theorem num_due (l : V) (hl : l ∈ nM) (m : V) (hm : m ∈ hM) (h : bDue l m = none) : l = .int (intV l) ∧ (m = .non ∨ m = .int (intV m)) ∧ 0 ≤ intV l ∧ intV l ≤ 300 ∧ 0 ≤ intV m ∧ (intV m ≤ 300 ∨ 110 ≤ intV m ∧ intV m ≤ 999999999) ∧ (scal l l && scal m m) = true := by
  obtain ⟨⟨i, rfl, hi⟩, rfl | ⟨j, rfl, hj⟩⟩ := bDue_none h
  · exact ⟨rfl, .inl rfl, hi, hl.2 i rfl, Int.le_refl _, .inl (by decide), rfl⟩
  · exact ⟨rfl, .inr rfl, hi, hl.2 i rfl, hj, .inl (hm.2 j rfl), rfl⟩
theorem fix_due (w : V) (h : w ∈ wM) (_ : wDue w = none) : scal w w = true := by
  obtain ⟨i, rfl, _⟩ := h
  rfl
theorem lx_bad {x : LX} (hx : x ∈ lM) (h : lxDue x = none) : x.els.all areB = true ∧ x.els ≠ [] := by
  obtain ⟨k, _⟩ := hx
  have z : (if (decide (x.els.length = 0) || xsBad x.els) = true then (some "texts" : Option Str) else none) = none := by
    rcases k with k | k <;> (rw [k] at h ⊢; exact h)
  split at z
  · cases z
  · rename_i h1
    refine ⟨?_, fun e => h1 (by rw [e]; rfl)⟩
    cases q : x.els.all areB with
    | true => rfl
    | false => exact absurd (by unfold xsBad; rw [q]; show (_ || (true || _)) = true; rw [Bool.true_or, Bool.or_true]) h1
theorem are_str {v : V} (h : areB v = true) : v = .str (strV v) := by
  cases v with
  | str z => rfl
  | _ => cases h
theorem lst_due (x : LX) (hx : x ∈ lM) (h : lxDue x = none) : (∀ v ∈ x.els, v = .str (strV v)) ∧ x.els.length ≤ 20 ∧ x.els ≠ [] := by
  obtain ⟨h1, h2⟩ := lx_bad hx h
  exact ⟨fun v hv => are_str (List.all_eq_true.mp h1 v hv), hx.2.1, h2⟩
theorem lst_are (x : LX) (hx : x ∈ lM) (h : lxDue x = none) : x.els.all areB = true := (lx_bad hx h).1
theorem end_due (s : V) (_ : s ∈ sM) (e : V) (_ : e ∈ eM) (l : V) (_ : l ∈ nM) (m : V) (_ : m ∈ nM) (h : eDue s e l m = none) : s = .str (strV s) ∧ e = .str ⟨#[(strV e).cps.getD 0 0]⟩ ∧ scal m (.int 0) = true ∧ (scal s s && (scal e e && (scal l l && scal m m))) = true := by
  obtain ⟨h1, h2, h3⟩ := eDue_none h
  obtain ⟨z, rfl⟩ := sBad_str h1
  have ee := (sign_one h2).1
  refine ⟨rfl, ee, ?_⟩
  rw [ee]
  obtain ⟨⟨i, rfl, _⟩, rfl | ⟨j, rfl, _⟩⟩ := bDue_none h3 <;> exact ⟨rfl, rfl⟩
theorem nM_flat (v : V) (h : v ∈ hM) : flatV v = true := h.1
theorem wM_flat (v : V) (h : v ∈ wM) : flatV v = true := by
  obtain ⟨i, rfl, _⟩ := h
  rfl
theorem lM_vM (x : LX) (h : x ∈ lM) : (∀ v ∈ x.els, v ∈ vM) ∧ x.els.length ≤ 20 := ⟨h.2.2.1, h.2.1⟩
theorem lM_val (x : LX) (h : x ∈ lM) : x = .val (.str "ab") ∨ x = .val .non ∨ (x = .lst x.els ∨ x = .tup x.els) := .inr (.inr h.1)
theorem eM_one (e : V) (_ : e ∈ eM) (h : isSignB e = true) : e = .str ⟨#[(strV e).cps.getD 0 0]⟩ := (sign_one h).1
theorem sM_str (s : V) (_ : s ∈ sM) (h : sBad s = false) : s = .str (strV s) := by
  obtain ⟨z, rfl⟩ := sBad_str h
  rfl
theorem mQ_one (v : V) (_ : v ∈ mQ) (h : isSignB v = true) : v = .str ⟨#[(strV v).cps.getD 0 0]⟩ ∧ True := sign_one h
theorem lM_shaped (x : LX) (hx : x ∈ lM) (h : lxDue x = none) : x.els.all flatV = true ∧ SeqAt.shaped (.tuple (x.els.map dV)) = true :=
  ⟨List.all_eq_true.mpr fun v hv => (hx.2.2.1 v hv).1, hx.2.2.2⟩
theorem word_all (s : V) (_ : s ∈ sM) (l : V) (_ : l ∈ nM) (m : V) (_ : m ∈ nM) (h : oDue s l m = none) : s = .str (strV s) ∧ l = .int (intV l) ∧ (m = .non ∨ m = .int (intV m)) := by
  obtain ⟨h1, h2⟩ := oDue_none h
  obtain ⟨z, rfl⟩ := sBad_str h1
  obtain ⟨⟨i, rfl, _⟩, rfl | ⟨j, rfl, _⟩⟩ := bDue_none h2
  · exact ⟨rfl, rfl, .inl rfl⟩
  · exact ⟨rfl, rfl, .inr rfl⟩
theorem end_all (s : V) (_ : s ∈ sM) (e : V) (_ : e ∈ eM) (l : V) (_ : l ∈ nM) (m : V) (_ : m ∈ nM) (h : eDue s e l m = none) : s = .str (strV s) ∧ e = .str (strV e) ∧ l = .int (intV l) ∧ (m = .non ∨ m = .int (intV m)) ∧ (strV e).length ≤ 10 := by
  obtain ⟨h1, h2, h3⟩ := eDue_none h
  obtain ⟨z, rfl⟩ := sBad_str h1
  have ee := (sign_one h2).1
  have el : (strV e).length ≤ 10 := by rw [ee]; show 1 ≤ 10; decide
  have e2 : e = .str (strV e) := by
    cases e with
    | str y => rfl
    | _ => cases h2
  obtain ⟨⟨i, rfl, _⟩, rfl | ⟨j, rfl, _⟩⟩ := bDue_none h3
  · exact ⟨rfl, e2, rfl, .inl rfl, el⟩
  · exact ⟨rfl, e2, rfl, .inr rfl, el⟩
end L2.K76

set_option Elab.async false
set_option linter.all false
set_option maxRecDepth 100000
set_option maxHeartbeats 4000000
/-! Things that may be asked for their class: flat values, lists, tuples, dicts. -/
namespace L2.Jk
open PySem PySem.W PySem.Spec PySem.Calls PyProof.Rows
def Thg (H : Hp) (v : V) : Prop := flatV v = true ∨ ∃ p, v = .ref p ∧ ((∃ xs, H p = some (.lst xs)) ∨ (∃ xs, H p = some (.tup xs)) ∨ ∃ kvs, H p = some (.dK kvs))
theorem Thg.same {H H' : Hp} {v : V} (S : Same H H') : Thg H v → Thg H' v
  | .inl h => .inl h
  | .inr ⟨p, e, .inl ⟨xs, h⟩⟩ => .inr ⟨p, e, .inl ⟨xs, S _ _ h⟩⟩
  | .inr ⟨p, e, .inr (.inl ⟨xs, h⟩)⟩ => .inr ⟨p, e, .inr (.inl ⟨xs, S _ _ h⟩)⟩
  | .inr ⟨p, e, .inr (.inr ⟨xs, h⟩)⟩ => .inr ⟨p, e, .inr (.inr ⟨xs, S _ _ h⟩)⟩
theorem thg_ty {K : Frag} {H : Hp} {v : V} (h : Thg H v) : ∃ T : String, TyE K H v (.type T) ∧ kitB T "str" = some (isStr v) ∧ kitB T "int" = some (isInt v) ∧ kitB T "bool" = some (isBl v) := by
  rcases h with h | ⟨p, rfl, ⟨xs, h⟩ | ⟨xs, h⟩ | ⟨kvs, h⟩⟩
  · exact ⟨_, flat_ty h, kit_str h, kit_int h, kit_bool h⟩
  · exact ⟨"list", .x (.base (.lst h)), by show kitB "list" "str" = some false; decide +kernel, by show kitB "list" "int" = some false; decide +kernel, by show kitB "list" "bool" = some false; decide +kernel⟩
  · exact ⟨"tuple", .x (.base (.tup h)), by show kitB "tuple" "str" = some false; decide +kernel, by show kitB "tuple" "int" = some false; decide +kernel, by show kitB "tuple" "bool" = some false; decide +kernel⟩
  · exact ⟨"dict", .x (.base (.dK h)), by show kitB "dict" "str" = some false; decide +kernel, by show kitB "dict" "int" = some false; decide +kernel, by show kitB "dict" "bool" = some false; decide +kernel⟩
end L2.Jk

set_option Elab.async false
set_option linter.all false
set_option maxRecDepth 100000
set_option maxHeartbeats 4000000
namespace L2.K76
open PySem PySem.W PySem.Spec PySem.Calls PyProof.Rows L2.Jk



/-! ### the law's own numbers: a list of three -/
def StAt (H : Hp) (a : Addr) : Prop := ∃ p q r : Int, H a = some (.lst [.int p, .int q, .int r]) ∧ 0 ≤ p ∧ 0 ≤ q ∧ q < 2147483700 ∧ 0 ≤ r
def spSource : Sp := fun vs H Q _ => ∃ n : Int, vs = [.int n] ∧ ∀ a H', H a = none → Same H H' → StAt H' a → Q (.ref a) H'
def spDraw : Sp := fun vs H Q _ => ∃ (a : Addr) (b : Int), vs = [.ref a, .int b] ∧ StAt H a ∧ 0 < b ∧ b < 1073741824 ∧ ∀ d H', 0 ≤ d → d < b → But a H H' → StAt H' a → Q (.int d) H'
theorem abs_line (n : Int) : 0 ≤ (if n < 0 then -n else n) * (if decide (10 ^ (18 : Int).toNat ≤ (if n < 0 then -n else n)) = true then 1 else 0) := by
  by_cases h : n < 0
  · simp only [if_pos h]
    split <;> omega
  · simp only [if_neg h]
    split <;> omega

structure Bl (mg : Str → Option Value) : Prop where
  abs : mg "abs" = none
  int : mg "int" = none
  bool : mg "bool" = none
  isinstance : mg "isinstance" = none
  range : mg "range" = none
  len : mg "len" = none
  set : mg "set" = none
  type : mg "type" = none
  str : mg "str" = none
  reversed : mg "reversed" = none
  tuple : mg "tuple" = none
  list : mg "list" = none
  any : mg "any" = none
  all : mg "all" = none

theorem bit_line (c : Prop) [Decidable c] : -(2 ^ 64) < (if c then (1 : Int) else 0) ∧ (if c then (1 : Int) else 0) < 2 ^ 64 := by
  split <;> exact ⟨by decide, by decide⟩
/-- the module's own names, the error class -/
structure G0 (P : Program) (w : World) (K : Frag) (mg : Str → Option Value) (base : Heap) : Prop extends Bl mg where
  sg : ∃ t, mg "SIGNS" = some (.str SG t)
  dgs : ∃ t, mg "DIGITS" = some (.str DG t)
  bf : ErrAt P w K mg base "BadField" (He.ga K "BadField") ["what"] "refused badfield"
section
variable {P : Program} {w : World} {K : Frag} {mg : Str → Option Value} {base : Heap} {f : Addr} {fd : FuncData}

theorem pe_sg {X : Cx} {x : Str} {z : Str} {pos : Pos} (h : ∃ t, X.mg x = some (.str z t)) (hg : Gl X x := by rfl) (hd : (x == ("__debug__" : Str)) = false := by decide) : PE X (.Name x pos) (tC (.str z)) := by
  obtain ⟨t, h⟩ := h
  exact pe_glob (v := .str z) hg h ⟨t, rfl⟩ hd

def spMade : Sp := fun vs H Q _ => ∃ a b : Str, vs = [.str a, .str b] ∧ a.length ≤ 1000 ∧ Q (.bl (madeB a b)) H
def spV (p : V → Bool) : Sp := fun vs H Q _ => ∃ v : V, vs = [v] ∧ v ∈ vM ∧ Q (.bl (p v)) H
def spNumT : Sp := fun vs H Q _ => ∃ v : V, vs = [v] ∧ Thg H v ∧ Q (.bl (numB v)) H
def spNum : Sp := fun vs H Q _ => ∃ v : V, vs = [v] ∧ flatV v = true ∧ Q (.bl (numB v)) H
def spDig : Sp := fun vs H Q _ => ∃ n : Int, vs = [.int n] ∧ 0 ≤ n ∧ n < 400 ∧ ∀ H', Same H H' → Q (.str (dg n)) H'
theorem small_line (z : Str) (h : z.length ≤ 1000) : z.length ≤ sizeLine := by
  rw [sizeLine_eq]
  omega

abbrev s_source : Stmt := top 45
theorem sc_source : FnScope ["_law_cell"] ["_law_cell"] (defScope s_source) := ⟨rfl, rfl, rfl, by decide +kernel, rfl, by decide +kernel, by decide +kernel⟩

theorem ok_source (F : FunD K "_law_source" "_law_source" (defArgs s_source) (defBody s_source) (defScope s_source) [] [] f fd) (G : Bl mg) : FnOk P w K mg base CX0 1 f fd ["_law_cell"] spSource := by
  refine F.ok (CX := CX0) sc_source (fun vs H Q E h => ?_) (fun cdv A outer s H vs Q E hr h => ?_)
  · obtain ⟨n, rfl, _⟩ := h
    rfl
  · refine ⟨_, PSs.nox (pss_one (ps_ret (pe_lstS (pa_cons (pe_op op_mul (pe_callB call_abs (by rfl) G.abs (by decide +kernel) (pa_cons (pv 0) pa_nil)) (pe_callTy call_int1 (by rfl) G.int (by decide +kernel) (pa_cons (pe_cmpR op_ge (pe_callB call_abs (by rfl) G.abs (by decide +kernel) (pa_cons (pv 0) pa_nil)) (pe_op op_pow pe_int pe_int) (nomark _)) pa_nil))) (pa_cons (pe_op op_mod (pe_callTy call_int1 (by rfl) G.int (by decide +kernel) (pa_cons (pv 0) pa_nil)) pe_int) (pa_cons pe_int pa_nil)))))), ?_⟩
    obtain ⟨n, rfl, q⟩ := h
    refine ⟨_, rfl, n, rfl, ?_⟩
    refine ⟨_, rfl, n, rfl, _, _, rfl, rfl, ⟨by decide, by decide, by decide⟩, _, _, rfl, rfl, .inr ⟨_, rfl, ?_⟩⟩
    refine ⟨_, _, rfl, rfl, .inr (bit_line _), _, rfl, .inl ⟨_, rfl, _, _, rfl, rfl, (by show (0 : Int) < 2147483629; decide), ?_⟩⟩
    refine ⟨by show 3 ≤ 1000; decide, fun p H' hp S e => q p H' hp S ⟨_, _, _, e, abs_line n, ?_, ?_, by decide⟩⟩
    · exact Int.emod_nonneg _ (by decide)
    · have := Int.emod_lt_of_pos n (show (0 : Int) < 2147483629 by decide)
      omega

abbrev s_draw : Stmt := top 46
theorem sc_draw : FnScope ["_law_source_here", "_law_many", "_law_found", "_law_mixed"] ["_law_source_here", "_law_many"] (defScope s_draw) := ⟨rfl, rfl, rfl, by decide +kernel, rfl, by decide +kernel, by decide +kernel⟩

theorem ok_draw (F : FunD K "_law_draw" "_law_draw" (defArgs s_draw) (defBody s_draw) (defScope s_draw) [] [] f fd) (G : Bl mg) : FnOk P w K mg base CX0 1 f fd ["_law_source_here", "_law_many"] spDraw := by
  refine F.ok (CX := CX0) sc_draw (fun vs H Q E h => ?_) (fun cdv A outer s H vs Q E hr h => ?_)
  · obtain ⟨a, b, rfl, _⟩ := h
    rfl
  · refine ⟨_, PSs.nox (pss_cons (ps_if (pt_cmpR op_gt (pe_ix ix_list (pv 0) pe_int (fun _ _ => rfl)) pe_int (nomark _))
      (pss_cons (ps_set (i := 2) sc_draw.nd rfl (Or.inl rfl) (pe_op op_mod (pe_callTy call_int1 (by rfl) G.int (by decide +kernel) (pa_cons (pe_ix ix_list (pv 0) pe_int (fun _ _ => rfl)) pa_nil)) (pv 1)))
      (pss_cons (ps_asg (pe_op op_fdiv (pe_ix ix_list (pv 0) pe_int (fun _ _ => rfl)) (pv 1)) (pg_sub (pv 0) pe_int set_list))
      (pss_one (ps_ret (pv 2)))))
      pss_nil)
    (pss_cons (ps_asg (pe_op op_add (pe_ix ix_list (pv 0) pe_int (fun _ _ => rfl)) pe_int) (pg_sub (pv 0) pe_int set_list))
    (pss_cons (ps_set (i := 3) sc_draw.nd rfl (Or.inl rfl) (pe_op op_mod (pe_callTy call_int1 (by rfl) G.int (by decide +kernel) (pa_cons (pe_op op_mul (pe_op op_add (pe_op op_add (pe_ix ix_list (pv 0) pe_int (fun _ _ => rfl)) (pe_op op_mul pe_int (pe_ix ix_list (pv 0) pe_int (fun _ _ => rfl)))) pe_int) pe_int) pa_nil)) pe_int))
    (pss_cons (ps_set (i := 3) sc_draw.nd rfl (Or.inl rfl) (pe_op op_mod (pe_callTy call_int1 (by rfl) G.int (by decide +kernel) (pa_cons (pe_op op_mul (pv 3) (pe_op op_add (pe_op op_add (pe_op op_fdiv (pv 3) pe_int) pe_int) (pe_ix ix_list (pv 0) pe_int (fun _ _ => rfl)))) pa_nil)) pe_int))
    (pss_one (ps_ret (pe_op op_mod (pe_callTy call_int1 (by rfl) G.int (by decide +kernel) (pa_cons (pe_op op_fdiv (pe_op op_mod (pe_callTy call_int1 (by rfl) G.int (by decide +kernel) (pa_cons (pe_op op_mul (pv 3) (pe_op op_add (pe_op op_fdiv (pv 3) pe_int) pe_int)) pa_nil)) pe_int) pe_int) pa_nil)) (pv 1)))))))), ?_⟩
    obtain ⟨a, b, rfl, ⟨x, y, z, ha, hx, hy, hy2, hz⟩, hb, hb2, q⟩ := h
    refine ⟨_, rfl, _, _, _, _, rfl, rfl, SqL.of ha, atI_nat (j := 0) rfl, _, _, rfl, rfl, _, rfl, ?_⟩
    refine ite2 (fun h0 => ?_) (fun h0 => ?_)
    · refine ⟨_, rfl, _, _, _, _, rfl, rfl, SqL.of ha, atI_nat (j := 0) rfl, .inl ⟨_, rfl, _, rfl, _, _, rfl, rfl, hb, ?_⟩⟩
      refine ⟨_, rfl, _, _, _, _, rfl, rfl, SqL.of ha, atI_nat (j := 0) rfl, _, rfl, _, _, rfl, rfl, ⟨hb, hb2⟩, ?_⟩
      refine ⟨_, rfl, _, _, _, 0, rfl, rfl, ha, rfl, ?_⟩
      refine ⟨_, rfl, q _ _ (Int.emod_nonneg _ (by omega)) (Int.emod_lt_of_pos _ hb) (but_upd _ _ _) ⟨_, _, _, upd_same, Int.ediv_nonneg hx (by omega), hy, hy2, hz⟩⟩
    · refine ⟨_, rfl, _, _, _, _, rfl, rfl, SqL.of ha, atI_nat (j := 2) rfl, _, _, rfl, rfl, ?_⟩
      refine ⟨_, rfl, _, _, _, 2, rfl, rfl, ha, rfl, ?_⟩
      obtain ⟨H1, e1⟩ : ∃ H1, upd H a (.lst ([V.int x, V.int y, V.int z].set 2 (V.int (z + 1)))) = H1 := ⟨_, rfl⟩
      have ha1 : H1 a = some (.lst [.int x, .int y, .int (z + 1)]) := by rw [← e1, upd_same]; rfl
      rw [e1]
      refine ⟨_, rfl, _, _, _, _, rfl, rfl, SqL.of ha1, atI_nat (j := 1) rfl, _, rfl, _, _, _, _, rfl, rfl, SqL.of ha1, atI_nat (j := 2) rfl, _, _, rfl, rfl, .inl ⟨by decide, by decide⟩, _, _, rfl, rfl, _, _, rfl, rfl, _, _, rfl, rfl, .inr ⟨by decide, by decide⟩, .inl ⟨_, rfl, _, _, rfl, rfl, (by show (0 : Int) < 2147483647; decide), ?_⟩⟩
      have k1 := Int.emod_nonneg ((y + 104729 * (z + 1) + 11) * 48271) (show (2147483647 : Int) ≠ 0 by decide)
      have k2 := Int.emod_lt_of_pos ((y + 104729 * (z + 1) + 11) * 48271) (show (0 : Int) < 2147483647 by decide)
      refine ⟨_, rfl, _, rfl, _, _, rfl, rfl, ⟨by decide, by decide⟩, _, _, rfl, rfl, _, rfl, _, _, _, _, rfl, rfl, SqL.of ha1, atI_nat (j := 2) rfl, _, _, rfl, rfl, _, _, rfl, rfl, .inl ⟨by omega, by omega⟩, .inl ⟨_, rfl, _, _, rfl, rfl, (by show (0 : Int) < 2147483587; decide), ?_⟩⟩
      have k3 := Int.emod_nonneg ((((y + 104729 * (z + 1) + 11) * 48271) % 2147483647) * ((((y + 104729 * (z + 1) + 11) * 48271) % 2147483647) / 1009 + 69621 + (z + 1))) (show (2147483587 : Int) ≠ 0 by decide)
      have k4 := Int.emod_lt_of_pos ((((y + 104729 * (z + 1) + 11) * 48271) % 2147483647) * ((((y + 104729 * (z + 1) + 11) * 48271) % 2147483647) / 1009 + 69621 + (z + 1))) (show (0 : Int) < 2147483587 by decide)
      refine ⟨_, rfl, _, rfl, _, _, rfl, rfl, ⟨by decide, by decide⟩, _, _, rfl, rfl, _, _, rfl, rfl, .inl ⟨by omega, by omega⟩, .inl ⟨_, rfl, _, _, rfl, rfl, (by show (0 : Int) < 2147483563; decide), _, _, rfl, rfl, ⟨by decide, by decide⟩, .inl ⟨_, rfl, _, rfl, _, _, rfl, rfl, hb, ?_⟩⟩⟩
      refine q _ _ (Int.emod_nonneg _ (by omega)) (Int.emod_lt_of_pos _ hb) ?_ ⟨_, _, _, ha1, hx, hy, hy2, by omega⟩
      rw [← e1]
      exact but_upd _ _ _

abbrev s_made_of : Stmt := top 11
theorem sc_made_of : FnScope ["text", "signs"] ["text", "signs"] (defScope s_made_of) := ⟨rfl, rfl, rfl, by decide +kernel, rfl, by decide +kernel, by decide +kernel⟩

theorem ok_made_of (F : FunD K "is_made_of" "is_made_of" (defArgs s_made_of) (defBody s_made_of) (defScope s_made_of) [] [] f fd) (G : G0 P w K mg base) : FnOk P w K mg base CX0 1 f fd ["text", "signs"] spMade := by
  refine F.ok (CX := CX0) sc_made_of (fun vs H Q E h => ?_) (fun cdv A outer s H vs Q E hr h => ?_)
  · obtain ⟨a, b, rfl, _⟩ := h
    rfl
  · refine ⟨_, PSs.nox (pss_one (ps_ret (pe_cmpR op_eq (pe_bm PySem.F.plainAttrs_str PySem.F.slot_str_strip PySem.F.type_str_strip mt_stripChars (pv 0) (pa_cons (pv 1) pa_nil)) pe_str (nomark _)))), ?_⟩
    obtain ⟨a, b, rfl, hz, q⟩ := h
    exact ⟨_, rfl, rfl, _, rfl, a, b, rfl, rfl, small_line a hz, rfl, q⟩

abbrev s_is_sign : Stmt := top 12
theorem sc_is_sign : FnScope ["thing"] ["thing"] (defScope s_is_sign) := ⟨rfl, rfl, rfl, by decide +kernel, rfl, by decide +kernel, by decide +kernel⟩

theorem ok_is_sign (F : FunD K "is_sign" "is_sign" (defArgs s_is_sign) (defBody s_is_sign) (defScope s_is_sign) [] [] f fd) (G : G0 P w K mg base) : FnOk P w K mg base CX0 1 f fd ["thing"] (spV isSignB) := by
  refine F.ok (CX := CX0) sc_is_sign (fun vs H Q E h => ?_) (fun cdv A outer s H vs Q E hr h => ?_)
  · obtain ⟨v, rfl, _⟩ := h
    rfl
  · refine ⟨_, PSs.nox (pss_one (ps_ret (pe_and (pe_callB call_ie (by rfl) G.isinstance (by decide +kernel) (pa_cons (pv 0) (pa_cons (pe_bty (n := "str") (by rfl) G.str (by decide +kernel)) pa_nil))) (pe_and (pe_cmpR op_eq (pe_callB call_len_str (by rfl) G.len (by decide +kernel) (pa_cons (pv 0) pa_nil)) pe_int (nomark _)) (pe_one (pe_cmpR op_in_sign (pv 0) (pe_sg G.sg) (by rfl))))))), ?_⟩
    obtain ⟨v, rfl, hv, q⟩ := h
    obtain ⟨hf, _, _, hz⟩ := vM_facts v hv
    refine ⟨_, rfl, _, _, _, _, _, rfl, .ty _, flat_ty hf, kit_ty (kit_str hf), _, rfl, ?_⟩
    cases v with
    | str z =>
      refine iteT ⟨_, rfl, z, rfl, small_line z (Nat.le_trans hz (by decide)), rfl, _, rfl, ?_⟩
      refine ite2 (fun h1 => ?_) (fun h1 => ?_)
      · have h1' : z.length = 1 := by have := of_decide_eq_true h1; simp at this; omega
        have e := one_sign (.str z) hv h1'
        refine ⟨_, rfl, _, SG, e, rfl, ?_⟩
        have r : isSignB (.str z) = decide (z.cps.getD 0 0 ∈ SG.cps.toList) := by show ((z.length == 1) && inB z SG) = _; rw [h1']; rfl
        rw [r] at q
        exact q
      · have h1' : z.length ≠ 1 := fun e => h1 (by rw [e]; rfl)
        have r : isSignB (.str z) = false := by show ((z.length == 1) && inB z SG) = _; rw [beq_eq_false_iff_ne.mpr h1']; rfl
        rw [r] at q
        exact q
    | non => exact iteF q
    | bl b => exact iteF q
    | int i => exact iteF q
    | _ => cases hf

abbrev s_is_numberT : Stmt := top 15
theorem sc_is_numberT : FnScope ["thing"] ["thing"] (defScope s_is_numberT) := ⟨rfl, rfl, rfl, by decide +kernel, rfl, by decide +kernel, by decide +kernel⟩

theorem ok_is_numberT (F : FunD K "is_number" "is_number" (defArgs s_is_numberT) (defBody s_is_numberT) (defScope s_is_numberT) [] [] f fd) (G : G0 P w K mg base) : FnOk P w K mg base CX0 1 f fd ["thing"] spNumT := by
  refine F.ok (CX := CX0) sc_is_numberT (fun vs H Q E h => ?_) (fun cdv A outer s H vs Q E hr h => ?_)
  · obtain ⟨v, rfl, _⟩ := h
    rfl
  · refine ⟨_, PSs.nox (pss_one (ps_ret (pe_and (pe_callB call_ie (by rfl) G.isinstance (by decide +kernel) (pa_cons (pv 0) (pa_cons (pe_bty (n := "int") (by rfl) G.int (by decide +kernel)) pa_nil))) (pe_one (pe_not (pe_callB call_ie (by rfl) G.isinstance (by decide +kernel) (pa_cons (pv 0) (pa_cons (pe_bty (n := "bool") (by rfl) G.bool (by decide +kernel)) pa_nil)))))))), ?_⟩
    obtain ⟨v, rfl, hf, q⟩ := h
    obtain ⟨T, ty, ks, ki, kb⟩ := thg_ty (K := K) hf
    refine ⟨_, rfl, _, _, _, _, _, rfl, .ty _, ty, kit_ty ki, _, rfl, ?_⟩
    cases v with
    | bl b => exact iteT ⟨_, rfl, _, _, _, _, _, rfl, .ty _, ty, kit_ty kb, _, rfl, q⟩
    | int i => exact iteT ⟨_, rfl, _, _, _, _, _, rfl, .ty _, ty, kit_ty kb, _, rfl, q⟩
    | _ => exact iteF q

theorem ok_is_number (F : FunD K "is_number" "is_number" (defArgs s_is_numberT) (defBody s_is_numberT) (defScope s_is_numberT) [] [] f fd) (G : G0 P w K mg base) : FnOk P w K mg base CX0 1 f fd ["thing"] spNum := (ok_is_numberT F G).imp fun vs H Q E ⟨v, e, h, q⟩ => ⟨v, e, .inl h, q⟩
theorem dg_ok : ∀ n ∈ List.range 400, JoinOk "" [(toString (n : Int) : Str)] = true := by decide +kernel
theorem dg_log : ∀ n ∈ List.range 400, (n : Int).natAbs.log2 < 1920 := by decide +kernel

abbrev s_digits_of : Stmt := top 16
theorem sc_digits_of : FnScope ["number", "limit", "pieces", "piece"] ["number"] (defScope s_digits_of) := ⟨rfl, rfl, rfl, by decide +kernel, rfl, by decide +kernel, by decide +kernel⟩

theorem ok_digits_of (F : FunD K "digits_of" "digits_of" (defArgs s_digits_of) (defBody s_digits_of) (defScope s_digits_of) [] [] f fd) (G : G0 P w K mg base) : FnOk P w K mg base CX0 1 f fd ["number"] spDig := by
  refine F.ok (CX := CX0) sc_digits_of (fun vs H Q E h => ?_) (fun cdv A outer s H vs Q E hr h => ?_)
  · obtain ⟨n, rfl, _⟩ := h
    rfl
  · refine ⟨_, PSs.nox (pss_cons (ps_set (i := 1) sc_digits_of.nd rfl (Or.inl rfl) (pe_op op_pow pe_int pe_int))
    (pss_cons (ps_set (i := 2) sc_digits_of.nd rfl (Or.inl rfl) (pe_lstS pa_nil))
    (pss_cons (ps_while PassesOwn.never (pt_cmpR op_ge (pv 0) (pv 1) (nomark _)) pss_never)
    (pss_cons (ps_expr (pe_bm PySem.F.plainAttrs_list PySem.F.slot_list_append PySem.F.type_list_append mt_append (pv 2) (pa_cons (pe_callTy call_str_int (by rfl) G.str (by decide +kernel) (pa_cons (pv 0) pa_nil)) pa_nil)))
    (pss_one (ps_ret (pe_joinRev rfl (by rfl) G.reversed pe_str (pv 2)))))))), ?_⟩
    obtain ⟨n, rfl, h0, h1, q⟩ := h
    obtain ⟨k, rfl⟩ : ∃ k : Nat, n = (k : Int) := ⟨n.toNat, by omega⟩
    have hk : k ∈ List.range 400 := List.mem_range.mpr (by omega)
    refine ⟨_, _, rfl, rfl, ⟨by decide, by decide, by decide⟩, ?_⟩
    refine ⟨by show 0 ≤ 1000; decide, fun p H1 hp S e => ?_⟩
    refine ⟨fun m σ' H' => m = 0 ∧ σ' = [some (.int (k : Int)), some (.int (10 ^ (64 : Int).toNat)), some (.ref p), none] ∧ H' = H1, ⟨0, rfl, rfl, rfl⟩, ?_⟩
    rintro m σ' H' ⟨rfl, rfl, rfl⟩
    refine ⟨_, rfl, _, rfl, _, _, rfl, rfl, _, rfl, ?_⟩
    refine ite2 (fun hf => ?_) (fun _ => ?_)
    · have z := of_decide_eq_true hf
      have e : (10 : Int) ^ (64 : Int).toNat = 10000000000000000000000000000000000000000000000000000000000000000 := by decide +kernel
      rw [e] at z
      omega
    refine ⟨_, rfl, .inl ⟨rfl, _, SqL.of e⟩, _, rfl, _, rfl, dg_log k hk, p, _, _, rfl, rfl, e, (by rw [sizeLine_eq]; decide), ?_⟩
    refine ⟨_, rfl, _, rfl, p, [(toString (k : Int) : Str)], rfl, SqL.of upd_same, dg_ok k hk, ?_⟩
    exact q _ (same_put S hp)

structure G1 (P : Program) (w : World) (K : Frag) (mg : Str → Option Value) (base : Heap) : Prop extends G0 P w K mg base where
  is_made_of : FnAt P w K mg base CX0 1 "is_made_of" ["text", "signs"] spMade
  is_sign : FnAt P w K mg base CX0 1 "is_sign" ["thing"] (spV isSignB)
  is_number : FnAt P w K mg base CX0 1 "is_number" ["thing"] spNum
  digits_of : FnAt P w K mg base CX0 1 "digits_of" ["number"] spDig

abbrev s_are_signs : Stmt := top 13
theorem sc_are_signs : FnScope ["thing"] ["thing"] (defScope s_are_signs) := ⟨rfl, rfl, rfl, by decide +kernel, rfl, by decide +kernel, by decide +kernel⟩

theorem ok_are_signs (F : FunD K "are_signs" "are_signs" (defArgs s_are_signs) (defBody s_are_signs) (defScope s_are_signs) [] [] f fd) (G : G1 P w K mg base) : FnOk P w K mg base CX0 2 f fd ["thing"] (spV areB) := by
  refine F.ok (CX := CX0) sc_are_signs (fun vs H Q E h => ?_) (fun cdv A outer s H vs Q E hr h => ?_)
  · obtain ⟨v, rfl, _⟩ := h
    rfl
  · refine ⟨_, PSs.nox (pss_one (ps_ret (pe_and (pe_callB call_ie (by rfl) G.isinstance (by decide +kernel) (pa_cons (pv 0) (pa_cons (pe_bty (n := "str") (by rfl) G.str (by decide +kernel)) pa_nil))) (pe_one (pe_fn G.is_made_of hr pass0 (by rfl) (pa_cons (pv 0) (pa_cons (pe_sg G.sg) pa_nil))))))), ?_⟩
    obtain ⟨v, rfl, hv, q⟩ := h
    obtain ⟨hf, _, _, hz⟩ := vM_facts v hv
    refine ⟨_, rfl, _, _, _, _, _, rfl, .ty _, flat_ty hf, kit_ty (kit_str hf), _, rfl, ?_⟩
    cases v with
    | str z => exact iteT ⟨_, rfl, z, SG, rfl, Nat.le_trans hz (by decide), q⟩
    | non => exact iteF q
    | bl b => exact iteF q
    | int i => exact iteF q
    | _ => cases hf

structure G2 (P : Program) (w : World) (K : Frag) (mg : Str → Option Value) (base : Heap) : Prop extends G1 P w K mg base where
  are_signs : FnAt P w K mg base CX0 2 "are_signs" ["thing"] (spV areB)
def spChkS (K : Frag) : Sp := fun vs H Q E => ∃ v : V, vs = [v] ∧ v ∈ sM ∧ (sBad v = false → Q .non H) ∧ (sBad v = true → RaiseE (BF K) "what" (.str "signs") H E)
def spChkB (K : Frag) : Sp := fun vs H Q E => ∃ l m : V, vs = [l, m] ∧ flatV l = true ∧ flatV m = true ∧ (bDue l m = none → Q .non H) ∧ (∀ z, bDue l m = some z → RaiseE (BF K) "what" (.str z) H E)

abbrev s_check_signs : Stmt := top 20
theorem sc_check_signs : FnScope ["signs"] ["signs"] (defScope s_check_signs) := ⟨rfl, rfl, rfl, by decide +kernel, rfl, by decide +kernel, by decide +kernel⟩

theorem ok_check_signs (F : FunD K "check_signs" "check_signs" (defArgs s_check_signs) (defBody s_check_signs) (defScope s_check_signs) [] [] f fd) (G : G2 P w K mg base) : FnOk P w K mg base (L2.CX P w) 3 f fd ["signs"] (spChkS K) := by
  refine F.ok (CX := (L2.CX P w)) sc_check_signs (fun vs H Q E h => ?_) (fun cdv A outer s H vs Q E hr h => ?_)
  · obtain ⟨v, rfl, _⟩ := h
    rfl
  · have hr2 : Room 2 _ := hr
    refine ⟨_, (pss_one (ps_if (PW.pt (pw_or (pt_not (pt_val (pe_fn G.are_signs hr2 pass0 (by rfl) (pa_cons (pv 0) pa_nil)))) (pw_or (pt_cmpR op_eq (pv 0) pe_str (nomark _)) (pw_or1 (pt_cmpR op_lt (pe_lenSetStr rfl (by rfl) G.len (by rfl) G.set (pv 0)) (pe_callB call_len_str (by rfl) G.len (by decide +kernel) (pa_cons (pv 0) pa_nil)) (nomark _))))))
      (pss_one (ps_raise rfl (takes_of rfl rfl rfl rfl) (pmk_1 G.bf hr2 (by rfl) (pa_cons pe_str pa_nil))))
      pss_nil)), ?_⟩
    obtain ⟨v, rfl, hv, q1, q2⟩ := h
    obtain ⟨hf, _, _, hz⟩ := vM_facts v (sM_vM hv)
    refine ⟨_, rfl, v, rfl, sM_vM hv, _, rfl, ?_⟩
    have bad : ∀ h : sBad v = true, _ := fun h => mkO_1 (q2 h)
    show if (!areB v) = true then _ else _
    refine ite2 (fun h1 => bad (by show (!areB v || _) = true; rw [h1]; rfl)) (fun h1 => ?_)
    cases v with
    | str z =>
      refine ⟨_, rfl, rfl, _, rfl, ?_⟩
      refine ite2 (fun h2 => bad (by show (_ || (decide _ || _)) = true; rw [h2]; exact Bool.or_true _)) (fun h2 => ?_)
      refine ⟨_, rfl, z, rfl, Nat.le_trans hz (by decide), _, rfl, z, rfl, small_line z (Nat.le_trans hz (by decide)), _, _, rfl, rfl, _, rfl, ?_⟩
      refine ite2 (fun h3 => bad ?_) (fun h3 => q1 ?_)
      · have h4 : twB (.str z) = true := decide_eq_true (by have := of_decide_eq_true h3; omega)
        show (_ || (_ || twB (.str z))) = true
        rw [h4, Bool.or_true, Bool.or_true]
      · have h4 : twB (.str z) = false := decide_eq_false (fun h => h3 (decide_eq_true (by omega)))
        show (!areB (.str z) || (decide (V.str z = .str "") || twB (.str z))) = false
        rw [h4, Bool.eq_false_iff.mpr h1, Bool.eq_false_iff.mpr h2]
        rfl
    | _ => exact absurd rfl h1

abbrev s_check_span : Stmt := top 21
theorem sc_check_span : FnScope ["least", "most"] ["least", "most"] (defScope s_check_span) := ⟨rfl, rfl, rfl, by decide +kernel, rfl, by decide +kernel, by decide +kernel⟩

theorem ok_check_span (F : FunD K "check_span" "check_span" (defArgs s_check_span) (defBody s_check_span) (defScope s_check_span) [] [] f fd) (G : G2 P w K mg base) : FnOk P w K mg base (L2.CX P w) 3 f fd ["least", "most"] (spChkB K) := by
  refine F.ok (CX := (L2.CX P w)) sc_check_span (fun vs H Q E h => ?_) (fun cdv A outer s H vs Q E hr h => ?_)
  · obtain ⟨l, m, rfl, _⟩ := h
    rfl
  · have hr2 : Room 2 _ := hr
    refine ⟨_, (pss_cons (ps_if (PW.pt (pw_or (pt_not (pt_val (pe_fn G.is_number (hr2.mono (by decide)) pass0 (by rfl) (pa_cons (pv 0) pa_nil)))) (pw_or1 (pt_cmpR op_lt (pv 0) pe_int (nomark _)))))
      (pss_one (ps_raise rfl (takes_of rfl rfl rfl rfl) (pmk_1 G.bf hr2 (by rfl) (pa_cons pe_str pa_nil))))
      pss_nil)
    (pss_one (ps_if (PW.pt (pw_and (pt_cmpR op_notN (pv 1) pe_non (nomark _)) (pw_and1 (PW.pt (pw_or (pt_not (pt_val (pe_fn G.is_number (hr2.mono (by decide)) pass0 (by rfl) (pa_cons (pv 1) pa_nil)))) (pw_or1 (pt_cmpR op_lt (pv 1) (pv 0) (nomark _))))))))
      (pss_one (ps_raise rfl (takes_of rfl rfl rfl rfl) (pmk_1 G.bf hr2 (by rfl) (pa_cons pe_str pa_nil))))
      pss_nil))), ?_⟩
    obtain ⟨l, m, rfl, hl, hm, q1, q2⟩ := h
    refine ⟨_, rfl, l, rfl, hl, _, rfl, ?_⟩
    show if (!numB l) = true then _ else _
    refine ite2 (fun h1 => mkO_1 (q2 _ (by show (if (!numB l || _) = true then _ else _) = _; rw [h1]; rfl))) (fun h1 => ?_)
    cases l with
    | int i =>
      refine ⟨_, rfl, _, _, rfl, rfl, _, rfl, ?_⟩
      refine ite2 (fun h2 => mkO_1 (q2 _ (by show (if (_ || decide (i < 0)) = true then _ else _) = _; rw [h2]; rfl))) (fun h2 => ?_)
      refine ⟨_, rfl, rfl, _, rfl, ?_⟩
      have e0 : bDue (.int i) m = if (!decide (m = .non) && (!numB m || ltV m (.int i))) = true then (some "most" : Option Str) else none := by
        show (if (!true || decide (i < 0)) = true then _ else _) = _
        rw [Bool.eq_false_iff.mpr h2]
        rfl
      rw [e0] at q1 q2
      refine ite2 (fun h3 => ?_) (fun h3 => q1 (by rw [Bool.eq_false_iff.mpr h3]; rfl))
      refine ⟨_, rfl, m, rfl, hm, _, rfl, ?_⟩
      show if (!numB m) = true then _ else _
      refine ite2 (fun h4 => mkO_1 (q2 _ (by rw [h3, h4]; rfl))) (fun h4 => ?_)
      cases m with
      | int j =>
        refine ⟨_, rfl, _, rfl, _, _, rfl, rfl, _, rfl, ?_⟩
        refine ite2 (fun h5 => mkO_1 (q2 _ (by show (if (_ && (_ || decide (j < i))) = true then _ else _) = _; rw [h3, h5]; rfl))) (fun h5 => q1 (by show (if (_ && (!true || decide (j < i))) = true then _ else _) = _; rw [h3, Bool.eq_false_iff.mpr h5]; rfl))
      | _ => exact absurd rfl h4
    | _ => exact absurd rfl h1

def spHww (K : Frag) : Sp := fun vs H Q _ => ∃ (a C dx : Addr) (fs : List (Str × V)) (c : Nat) (z : Str) (m : V), vs = [.ref a, .str ⟨#[c]⟩] ∧ H a = some (.ins C dx fs) ∧ Cls K C ∧ NoAttr K C "signs" ∧ NoAttr K C "most" ∧ fs.lookup ("signs" : Str) = some (.str z) ∧ fs.lookup ("most" : Str) = some m ∧
  scal m (.int 0) = true ∧ Q (.bl (wwB (.str z) m ⟨#[c]⟩)) H

abbrev s_has_words : Stmt := top 24
theorem sc_has_words : FnScope ["field", "sign"] ["field", "sign"] (defScope s_has_words) := ⟨rfl, rfl, rfl, by decide +kernel, rfl, by decide +kernel, by decide +kernel⟩

theorem ok_has_words (F : FunD K "has_words_with" "has_words_with" (defArgs s_has_words) (defBody s_has_words) (defScope s_has_words) [] [] f fd) (G : G0 P w K mg base) : FnOk P w K mg base CX0 1 f fd ["field", "sign"] (spHww K) := by
  refine F.ok (CX := CX0) sc_has_words (fun vs H Q E h => ?_) (fun cdv A outer s H vs Q E hr h => ?_)
  · obtain ⟨a, C, dx, fs, c, z, m, rfl, _⟩ := h
    rfl
  · refine ⟨_, PSs.nox (pss_one (ps_ret (pe_and (pe_cmpR op_in_sign (pv 1) (pe_fld (pv 0) rfl) (by rfl)) (pe_one (pe_cmpR op_ne (pe_fld (pv 0) rfl) pe_int (nomark _)))))), ?_⟩
    obtain ⟨a, C, dx, fs, c, z, m, rfl, ha, hC, n1, n2, l1, l2, sc, q⟩ := h
    refine ⟨_, rfl, _, rfl, a, C, dx, fs, _, rfl, ha, hC, n1, l1, c, z, rfl, rfl, _, rfl, ?_⟩
    refine ite2 (fun h1 => ?_) (fun h1 => ?_)
    · refine ⟨_, rfl, a, C, dx, fs, _, rfl, ha, hC, n2, l2, sc, ?_⟩
      have e : wwB (.str z) m ⟨#[c]⟩ = !decide (m = .int 0) := by show (decide (c ∈ z.cps.toList) && _) = _; rw [h1]; rfl
      rw [e] at q
      exact q
    · have e : wwB (.str z) m ⟨#[c]⟩ = false := by show (decide (c ∈ z.cps.toList) && _) = _; rw [Bool.eq_false_iff.mpr h1]; rfl
      rw [e] at q
      exact q

end
end L2.K76

set_option Elab.async false
set_option linter.all false
set_option maxRecDepth 100000
set_option maxHeartbeats 4000000
/-! 'x' * n, n at least 1. -/
namespace L2.Jk
open PySem PySem.W PySem.Spec PySem.Calls PyProof.Rows
def repS (z : Str) (i : Int) : Str := ⟨(List.replicate i.toNat z.cps).foldl (· ++ ·) #[]⟩
/-- it may be done -/
def repOk (z : Str) (i : Int) : Bool := decide (1 ≤ i) && (decide (i < 1000) && (decide (z.length = 1) && (!Builtin.Str.tooLong (z.length * i.toNat) && decide ((repS z i).length ≤ 16777216))))
theorem op_mulStr {X : Cx} : OpR X (binaryOp .Mult) (fun x y H Q => ∃ (z : Str) (i : Int), x = .str z ∧ y = .int i ∧ repOk z i = true ∧ Q (.str (repS z i)) H) := by
  intro pins s σ H x y v u Q I rx ry h
  obtain ⟨z, i, rfl, rfl, ok, q⟩ := h
  obtain ⟨t, rfl⟩ := rx
  obtain ⟨t', rfl⟩ := ry
  obtain ⟨o1, ok⟩ := Bool.and_eq_true_iff.mp ok
  obtain ⟨o2, ok⟩ := Bool.and_eq_true_iff.mp ok
  obtain ⟨o3, ok⟩ := Bool.and_eq_true_iff.mp ok
  obtain ⟨o4, o5⟩ := Bool.and_eq_true_iff.mp ok
  replace o1 := of_decide_eq_true o1
  replace o2 := of_decide_eq_true o2
  replace o3 := of_decide_eq_true o3
  replace o5 := of_decide_eq_true o5
  have e1 : ¬ i < 1 := by omega
  by_cases h1 : i = 1
  · subst h1
    have er : repS z 1 = z := by
      obtain ⟨c⟩ := z
      show (⟨(List.replicate 1 c).foldl (· ++ ·) #[]⟩ : Str) = ⟨c⟩
      simp
    rw [er] at q
    refine P.mul_str (by decide) (fun _ h => absurd h (by simp)) (fun _ h => absurd h (by simp)) ?_
    rw [if_neg e1, if_pos (show ((1 : Int) == 1 || z.length == 0) = true from rfl)]
    exact ⟨.str z, H, I, ⟨t, rfl⟩, q⟩
  have e2 : (i == 1 || z.length == 0) = false := by
    rw [o3, show (i == 1) = false from beq_eq_false_iff_ne.mpr h1]
    rfl
  refine P.mul_str (by rw [decide_eq_false (by omega), decide_eq_false (by omega)]; rfl) (fun _ _ => ?_) (fun _ _ => by rwa [Bool.not_eq_true'] at o4) ?_
  · rw [o3]
    have h2 : (1 : Int) ≤ (2 ^ 63 - 1) / i := Int.le_ediv_of_mul_le (by omega) (by omega)
    omega
  · rw [if_neg e1, e2]
    exact ⟨by rw [sizeLine_eq]; exact o5, ⟨.str _, H, I.tok _, ⟨_, rfl⟩, q⟩⟩
end L2.Jk

set_option Elab.async false
set_option linter.all false
set_option maxRecDepth 100000
set_option maxHeartbeats 4000000
/-! Tuples of which it is known that they have no dict: made, their methods called. -/
namespace L2.Jk
open PySem PySem.W PySem.Spec PySem.Calls PyProof.Rows
/-- at t: a tuple of these items, an object without a dict -/
def TupZ (H : Hp) (t : Addr) (xs : List V) : Prop := ∃ o : Obj, o.cls = .type "tuple" ∧ o.dict = none ∧ H t = some (.frz o (.tup xs))
theorem TupZ.same {H H' : Hp} {t : Addr} {xs : List V} (S : Same H H') (h : TupZ H t xs) : TupZ H' t xs := by
  obtain ⟨o, c, d, e⟩ := h
  exact ⟨o, c, d, S _ _ e⟩
theorem TupZ.sq {K : Frag} {H : Hp} {t : Addr} {xs : List V} (h : TupZ H t xs) : SqT K H t xs := by
  obtain ⟨o, c, d, e⟩ := h
  exact .inl (.inr ⟨o, e⟩)
section
variable {X : Cx}
def rTupZ (K : Frag) : List V → Hp → VK → Prop := fun xs H Q => ∃ p ys, xs = [.ref p] ∧ ((SqL K H p ys ∧ ∀ l H', H l = none → Same H H' → TupZ H' l ys → Q (.ref l) H') ∨ (SqT K H p ys ∧ Q (.ref p) H))
theorem call_tupleZ : CallR X (.type "tuple") (rTupZ X.K) := by
  intro pins s σ H xs us Q I r h
  obtain ⟨p, ys, rfl, h⟩ := h
  obtain ⟨u, rfl, rx⟩ := vals1 r
  cases rx
  rcases h with ⟨hq, q⟩ | ⟨hq, q⟩
  · obtain ⟨its, r', pl, hz⟩ := I.list hq
    have hlen := r'.length
    refine call_tuple_list pl.isList (fun h' kp => ?_) (by simp only [List.size_toArray] <;> omega)
    have I1 : Inv X pins σ H { s with heap := h' } := I.kept (t' := s.toks) kp
    have I2 : Inv X pins σ (upd H h'.objs.size (.frz { cls := .type "tuple", data := .seq its.toArray } (.tup ys))) { s with heap := h'.push { cls := .type "tuple", data := .seq its.toArray } } :=
      I1.laid (t' := s.toks) (fun b o e => Heap.get?_push_of_some _ e) (Nat.le_refl _) ⟨Heap.get?_push_size _ rfl, show ObjOk X.prog X.w _ _ _ (.tup ys) from ⟨hz, its, r', IsTup.new _ _⟩⟩
    have n := I1.hok.fresh (a := h'.objs.size) (Nat.le_refl _)
    exact ⟨.ref h'.objs.size, _, I2, rfl, q _ _ n (same_upd n) ⟨_, rfl, rfl, upd_same⟩⟩
  · obtain ⟨its, r', pl, hz⟩ := I.tuple hq
    exact call_tuple_same pl ⟨.ref p, H, I, rfl, q⟩
/-- a tuple display -/
def tTupZ (t : TA) : TE := fun σ H Q => t σ H fun xs H1 => xs.length ≤ 1000 ∧ ∀ p H', H1 p = none → Same H1 H' → TupZ H' p xs → Q (.ref p) H'
theorem pe_tupZ {es : List Expr} {t : TA} {pos : Pos} {k} (ha : PA X es t) : PE X (.Tuple es k pos) (tTupZ t) := by
  constructor
  intro pins s σ H Q I h
  refine wpAny_Tuple_spliced (thn (ha.run pos pins s σ H _ I h) fun us s1 ⟨xs, H1, I1, r, z, q⟩ => ?_)
  have z' := Nat.le_of_lt (small1000 z)
  have n : H1 s1.heap.objs.size = none := I1.fresh
  refine ⟨by rw [← r.length]; exact z', .ref s1.heap.objs.size, _, I1.laid (t' := s1.toks) (o := .frz { cls := .type "tuple", data := .seq us.toArray } (.tup xs)) (fun b u e => Heap.get?_push_of_some _ e) (Nat.le_refl _) ?_, rfl, q _ _ n (same_upd n) ⟨_, rfl, rfl, upd_same⟩⟩
  exact ⟨Heap.get?_push_size _ rfl, z', us, r, IsTup.new _ _⟩
/-- o.m(e, ..) of such a tuple -/
def tBMZ (r : V → List V → Hp → VK → Prop) (to : TE) (t : TA) : TE := fun σ H Q => to σ H fun x H1 => (∃ p xs, x = .ref p ∧ TupZ H1 p xs) ∧ t σ H1 fun xs H2 => r x xs H2 Q
variable {o e : Expr} {es : List Expr} {to : TE} {t : TA} {name : Str} {apos cpos : Pos} {id : String} {r : V → List V → Hp → VK → Prop}
theorem pe_bmZ (slot : Slot "tuple" name id) (hty : typeOf (.builtin id) = pure (.type "method_descriptor")) (pa : PlainAttrs "tuple") (hm : MtR X id r) (ho : PE X o to) (ha : PA X (e :: es) t)
    (hbase : attributeBase o name X.env (eval o X.env) = eval o X.env := by rfl)
    (hfew : ((backTo cpos (starEach (e :: es) X.env)).all (fun x => !x.1) && (backToKw cpos (keywordEach [] X.env)).all (fun x => x.1.isSome)
      && decide ((e :: es).length + ([] : List Keyword).length + (if ([] : List Keyword).isEmpty then 0 else 1) < 30)) = true := by rfl)
    (hline : (apos.endLine == cpos.line) = true := by rfl) (hs : starEach (e :: es) X.env = (false, eval e X.env) :: starEach es X.env := by rfl) (hplain : (backTo cpos (starEach es X.env)).any (·.1) = false := by rfl) :
    PE X (.Call (.Attribute o name apos) (e :: es) [] cpos) (tBMZ r to t) := by
  refine ⟨fun pins s σ H Q I h => ?_⟩
  refine wpAny_Call_method_late hbase hfew hline rfl (thn (ho.run pins s σ H _ I h) fun v s1 ⟨x, H1, I1, r1, ⟨p, ys, ex, ob, hc, hd, hp⟩, q1⟩ => ?_)
  subst ex
  obtain rfl : v = Value.ref p := r1
  obtain ⟨hg, _⟩ := (show s1.heap.get? p = some ob ∧ ObjOk X.prog X.w H1 s1.heap p (.tup ys) from I1.hok p _ hp)
  refine ⟨"tuple", id, pa, slot, hty, ⟨ob, hg, hc⟩, (fun a e => by cases e; exact ⟨ob, hg, hd⟩), ?_⟩
  have hA := ha.run cpos pins s1 σ H1 _ I1 q1
  rw [hs] at hA ⊢
  refine Calls.callWith_builtin (by show (false || (backTo cpos (starEach es X.env)).any (·.1)) = false; rw [hplain] <;> rfl) (Calls.evalArgs_plain ?_)
  exact thn hA fun us s2 ⟨vs, H2, I2, r2, q2⟩ => hm pins s2 σ H2 (.ref p) vs (.ref p) us Q I2 rfl r2 q2
end
end L2.Jk

set_option Elab.async false
set_option linter.all false
set_option maxRecDepth 100000
set_option maxHeartbeats 4000000
namespace L2.K76
open PySem PySem.W PySem.Spec PySem.Calls PyProof.Rows L2.Jk
section
variable {P : Program} {w : World} {K : Frag} {mg : Str → Option Value} {base : Heap} {f : Addr} {fd : FuncData}

/-- a field class: its name, its attributes -/
structure C0 (K : Frag) (mg : Str → Option Value) (x : Str) (fs : List Str) : Prop where
  mgC : mg x = some (.ref (He.ga K x))
  cl : Cls K (He.ga K x)
  no : ∀ f ∈ fs, NoAttr K (He.ga K x) f

def fWord (s l m : V) : List (Str × V) := (putF "most" m (putF "least" l (putF "signs" s [])))
theorem lWord_signs {s l m : V} : (fWord s l m).lookup ("signs" : Str) = some s := by unfold fWord; rw [lookup_putF, if_neg (by decide +kernel)]; rw [lookup_putF, if_neg (by decide +kernel)]; rw [lookup_putF, if_pos rfl]
theorem lWord_least {s l m : V} : (fWord s l m).lookup ("least" : Str) = some l := by unfold fWord; rw [lookup_putF, if_neg (by decide +kernel)]; rw [lookup_putF, if_pos rfl]
theorem lWord_most {s l m : V} : (fWord s l m).lookup ("most" : Str) = some m := by unfold fWord; rw [lookup_putF, if_pos rfl]
theorem lWord_hs {s l m : V} : (fWord s l m).lookup ("has_sign" : Str) = none := by unfold fWord; rw [lookup_putF, if_neg (by decide +kernel)]; rw [lookup_putF, if_neg (by decide +kernel)]; rw [lookup_putF, if_neg (by decide +kernel)]; rfl
def fNumber (l m : V) : List (Str × V) := (putF "most" m (putF "least" l []))
theorem lNumber_least {l m : V} : (fNumber l m).lookup ("least" : Str) = some l := by unfold fNumber; rw [lookup_putF, if_neg (by decide +kernel)]; rw [lookup_putF, if_pos rfl]
theorem lNumber_most {l m : V} : (fNumber l m).lookup ("most" : Str) = some m := by unfold fNumber; rw [lookup_putF, if_pos rfl]
theorem lNumber_hs {l m : V} : (fNumber l m).lookup ("has_sign" : Str) = none := by unfold fNumber; rw [lookup_putF, if_neg (by decide +kernel)]; rw [lookup_putF, if_neg (by decide +kernel)]; rfl
def fFixed (w : V) : List (Str × V) := (putF "width" w [])
theorem lFixed_width {w : V} : (fFixed w).lookup ("width" : Str) = some w := by unfold fFixed; rw [lookup_putF, if_pos rfl]
theorem lFixed_hs {w : V} : (fFixed w).lookup ("has_sign" : Str) = none := by unfold fFixed; rw [lookup_putF, if_neg (by decide +kernel)]; rfl
def fListed (x : V) : List (Str × V) := (putF "texts" x [])
theorem lListed_texts {x : V} : (fListed x).lookup ("texts" : Str) = some x := by unfold fListed; rw [lookup_putF, if_pos rfl]
theorem lListed_hs {x : V} : (fListed x).lookup ("has_sign" : Str) = none := by unfold fListed; rw [lookup_putF, if_neg (by decide +kernel)]; rfl
def fEnded (s e l m : V) : List (Str × V) := (putF "most" m (putF "least" l (putF "sign" e (putF "signs" s []))))
theorem lEnded_signs {s e l m : V} : (fEnded s e l m).lookup ("signs" : Str) = some s := by unfold fEnded; rw [lookup_putF, if_neg (by decide +kernel)]; rw [lookup_putF, if_neg (by decide +kernel)]; rw [lookup_putF, if_neg (by decide +kernel)]; rw [lookup_putF, if_pos rfl]
theorem lEnded_sign {s e l m : V} : (fEnded s e l m).lookup ("sign" : Str) = some e := by unfold fEnded; rw [lookup_putF, if_neg (by decide +kernel)]; rw [lookup_putF, if_neg (by decide +kernel)]; rw [lookup_putF, if_pos rfl]
theorem lEnded_least {s e l m : V} : (fEnded s e l m).lookup ("least" : Str) = some l := by unfold fEnded; rw [lookup_putF, if_neg (by decide +kernel)]; rw [lookup_putF, if_pos rfl]
theorem lEnded_most {s e l m : V} : (fEnded s e l m).lookup ("most" : Str) = some m := by unfold fEnded; rw [lookup_putF, if_pos rfl]
theorem lEnded_hs {s e l m : V} : (fEnded s e l m).lookup ("has_sign" : Str) = none := by unfold fEnded; rw [lookup_putF, if_neg (by decide +kernel)]; rw [lookup_putF, if_neg (by decide +kernel)]; rw [lookup_putF, if_neg (by decide +kernel)]; rw [lookup_putF, if_neg (by decide +kernel)]; rfl
def fMarked (n k y : V) : List (Str × V) := (putF "field" y (putF "mark" k (putF "none" n [])))
theorem lMarked_none {n k y : V} : (fMarked n k y).lookup ("none" : Str) = some n := by unfold fMarked; rw [lookup_putF, if_neg (by decide +kernel)]; rw [lookup_putF, if_neg (by decide +kernel)]; rw [lookup_putF, if_pos rfl]
theorem lMarked_mark {n k y : V} : (fMarked n k y).lookup ("mark" : Str) = some k := by unfold fMarked; rw [lookup_putF, if_neg (by decide +kernel)]; rw [lookup_putF, if_pos rfl]
theorem lMarked_field {n k y : V} : (fMarked n k y).lookup ("field" : Str) = some y := by unfold fMarked; rw [lookup_putF, if_pos rfl]
theorem lMarked_hs {n k y : V} : (fMarked n k y).lookup ("has_sign" : Str) = none := by unfold fMarked; rw [lookup_putF, if_neg (by decide +kernel)]; rw [lookup_putF, if_neg (by decide +kernel)]; rw [lookup_putF, if_neg (by decide +kernel)]; rfl

/-- the field d stands at a -/
def FieldAt (K : Frag) (H : Hp) (a : Addr) : PD → Prop
  | .word s l m => ∃ dx, H a = some (.ins (He.ga K "Word") dx (fWord s l m))
  | .number l m => ∃ dx, H a = some (.ins (He.ga K "Number") dx (fNumber l m))
  | .fixed w => ∃ dx, H a = some (.ins (He.ga K "Fixed") dx (fFixed w))
  | .listed x => ∃ dx t, H a = some (.ins (He.ga K "Listed") dx (fListed (.ref t))) ∧ TupZ H t x.els
  | .ended s e l m => ∃ dx, H a = some (.ins (He.ga K "Ended") dx (fEnded s e l m))
theorem FieldAt.same {H H' : Hp} {a : Addr} (S : Same H H') : ∀ {d : PD}, FieldAt K H a d → FieldAt K H' a d
  | .word .., ⟨dx, h⟩ => ⟨dx, S _ _ h⟩
  | .number .., ⟨dx, h⟩ => ⟨dx, S _ _ h⟩
  | .fixed _, ⟨dx, h⟩ => ⟨dx, S _ _ h⟩
  | .listed _, ⟨dx, t, h, k⟩ => ⟨dx, t, S _ _ h, k.same S⟩
  | .ended .., ⟨dx, h⟩ => ⟨dx, S _ _ h⟩
/-- of values that are taken -/
structure G3 (P : Program) (w : World) (K : Frag) (mg : Str → Option Value) (base : Heap) : Prop extends G2 P w K mg base where
  check_signs : FnAt P w K mg base (L2.CX P w) 3 "check_signs" ["signs"] (spChkS K)
  check_span : FnAt P w K mg base (L2.CX P w) 3 "check_span" ["least", "most"] (spChkB K)
  has_words_with : FnAt P w K mg base CX0 1 "has_words_with" ["field", "sign"] (spHww K)
  cWord : C0 K mg "Word" ["signs", "least", "most"]
  cNumber : C0 K mg "Number" ["least", "most"]
  cFixed : C0 K mg "Fixed" ["width"]
  cListed : C0 K mg "Listed" ["texts"]
  cEnded : C0 K mg "Ended" ["signs", "sign", "least", "most"]
  cMarked : C0 K mg "Marked" ["none", "mark", "field"]

def spWord (K : Frag) : Sp := fun vs H Q E => ∃ (a dx : Addr) (s l m : V), vs = [.ref a, s, l, m] ∧ H a = some (.ins (He.ga K "Word") dx []) ∧ s ∈ sM ∧ l ∈ nM ∧ m ∈ nM ∧ (oDue s l m = none → Q .non (upd H a (.ins (He.ga K "Word") dx (fWord s l m)))) ∧
  ∀ z, oDue s l m = some z → RaiseE (BF K) "what" (.str z) H E

abbrev s_Word_init : Stmt := inClass (top 25) 0
theorem sc_Word_init : FnScope ["self", "signs", "least", "most"] ["self", "signs", "least", "most"] (defScope s_Word_init) := ⟨rfl, rfl, rfl, by decide +kernel, rfl, by decide +kernel, by decide +kernel⟩

theorem ok_Word_init (F : FunD K "__init__" "Word.__init__" (defArgs s_Word_init) (defBody s_Word_init) (defScope s_Word_init) [] [] f fd) (G : G3 P w K mg base) : FnOk P w K mg base (L2.CX P w) 4 f fd ["self", "signs", "least", "most"] (spWord K) := by
  refine F.ok (CX := (L2.CX P w)) sc_Word_init (fun vs H Q E h => ?_) (fun cdv A outer s H vs Q E hr h => ?_)
  · obtain ⟨a, dx, s, l, m, rfl, _⟩ := h
    rfl
  · have hr3 : Room 3 _ := hr
    refine ⟨_, (pss_cons (ps_expr (pe_fnS G.check_signs hr3 (fun σ => passAt (takes_of rfl rfl rfl rfl) σ) (by rfl) (pa_cons (pv 1) pa_nil)))
    (pss_cons (ps_expr (pe_fnS G.check_span hr3 (fun σ => passAt (takes_of rfl rfl rfl rfl) σ) (by rfl) (pa_cons (pv 2) (pa_cons (pv 3) pa_nil))))
    (pss_cons (ps_fld (pv 0) (pv 1) rfl)
    (pss_cons (ps_fld (pv 0) (pv 2) rfl)
    (pss_one (ps_fld (pv 0) (pv 3) rfl)))))), ?_⟩
    obtain ⟨a, dx, s, l, m, rfl, ha, hs, hl, hm, q1, q2⟩ := h
    refine ⟨_, rfl, s, rfl, hs, fun e1 => ?_, fun e1 => q2 _ (by unfold oDue; rw [if_pos e1])⟩
    have e0 : oDue s l m = bDue l m := by unfold oDue; rw [e1]; rfl
    rw [e0] at q1 q2
    refine ⟨_, rfl, _, rfl, l, m, rfl, nM_flat l (nh hl), nM_flat m (nh hm), fun e2 => ?_, fun z e2 => q2 z e2⟩
    refine ⟨_, rfl, _, rfl, a, _, dx, _, rfl, ha, G.cWord.cl, G.cWord.no _ (by decide +kernel), (by show 0 < 1000; decide), _, rfl, _, rfl, a, _, dx, _, rfl, upd_same, G.cWord.cl, G.cWord.no _ (by decide +kernel), (by show 1 < 1000; decide), _, rfl, _, rfl, a, _, dx, _, rfl, upd_same, G.cWord.cl, G.cWord.no _ (by decide +kernel), (by show 2 < 1000; decide), ?_⟩
    have z := q1 e2
    show Q .non _
    rw [upd_upd, upd_upd]
    exact z

theorem pi_or {X : Cx} {tg e : Expr} {t1 t2 : TI} (h1 : PI X tg e t1) (h2 : PI X tg e t2) : PI X tg e (fun σ H R => t1 σ H R ∨ t2 σ H R) :=
  ⟨fun pins s σ H R I h => h.elim (h1.run pins s σ H R I) (h2.run pins s σ H R I)⟩
def spNumber (K : Frag) : Sp := fun vs H Q E => ∃ (a dx : Addr) (l m : V), vs = [.ref a, l, m] ∧ H a = some (.ins (He.ga K "Number") dx []) ∧ l ∈ nM ∧ m ∈ hM ∧ (bDue l m = none → Q .non (upd H a (.ins (He.ga K "Number") dx (fNumber l m)))) ∧
  ∀ z, bDue l m = some z → RaiseE (BF K) "what" (.str z) H E

abbrev s_Number_init : Stmt := inClass (top 26) 0
theorem sc_Number_init : FnScope ["self", "least", "most"] ["self", "least", "most"] (defScope s_Number_init) := ⟨rfl, rfl, rfl, by decide +kernel, rfl, by decide +kernel, by decide +kernel⟩

theorem ok_Number_init (F : FunD K "__init__" "Number.__init__" (defArgs s_Number_init) (defBody s_Number_init) (defScope s_Number_init) [] [] f fd) (G : G3 P w K mg base) : FnOk P w K mg base (L2.CX P w) 4 f fd ["self", "least", "most"] (spNumber K) := by
  refine F.ok (CX := (L2.CX P w)) sc_Number_init (fun vs H Q E h => ?_) (fun cdv A outer s H vs Q E hr h => ?_)
  · obtain ⟨a, dx, l, m, rfl, _⟩ := h
    rfl
  · have hr3 : Room 3 _ := hr
    refine ⟨_, (pss_cons (ps_expr (pe_fnS G.check_span hr3 (fun σ => passAt (takes_of rfl rfl rfl rfl) σ) (by rfl) (pa_cons (pv 1) (pa_cons (pv 2) pa_nil))))
    (pss_cons (ps_fld (pv 0) (pv 1) rfl)
    (pss_one (ps_fld (pv 0) (pv 2) rfl)))), ?_⟩
    obtain ⟨a, dx, l, m, rfl, ha, hl, hm, q1, q2⟩ := h
    refine ⟨_, rfl, _, rfl, l, m, rfl, nM_flat l (nh hl), nM_flat m hm, fun e2 => ?_, fun z e2 => q2 z e2⟩
    refine ⟨_, rfl, _, rfl, a, _, dx, _, rfl, ha, G.cNumber.cl, G.cNumber.no _ (by decide +kernel), (by show 0 < 1000; decide), _, rfl, _, rfl, a, _, dx, _, rfl, upd_same, G.cNumber.cl, G.cNumber.no _ (by decide +kernel), (by show 1 < 1000; decide), ?_⟩
    have z := q1 e2
    show Q .non _
    rw [upd_upd]
    exact z

def spFixed (K : Frag) : Sp := fun vs H Q E => ∃ (a dx : Addr) (v : V), vs = [.ref a, v] ∧ H a = some (.ins (He.ga K "Fixed") dx []) ∧ v ∈ wM ∧ (wDue v = none → Q .non (upd H a (.ins (He.ga K "Fixed") dx (fFixed v)))) ∧
  ∀ z, wDue v = some z → RaiseE (BF K) "what" (.str z) H E

abbrev s_Fixed_init : Stmt := inClass (top 27) 0
theorem sc_Fixed_init : FnScope ["self", "width"] ["self", "width"] (defScope s_Fixed_init) := ⟨rfl, rfl, rfl, by decide +kernel, rfl, by decide +kernel, by decide +kernel⟩

theorem ok_Fixed_init (F : FunD K "__init__" "Fixed.__init__" (defArgs s_Fixed_init) (defBody s_Fixed_init) (defScope s_Fixed_init) [] [] f fd) (G : G3 P w K mg base) : FnOk P w K mg base (L2.CX P w) 4 f fd ["self", "width"] (spFixed K) := by
  refine F.ok (CX := (L2.CX P w)) sc_Fixed_init (fun vs H Q E h => ?_) (fun cdv A outer s H vs Q E hr h => ?_)
  · obtain ⟨a, dx, v, rfl, _⟩ := h
    rfl
  · have hr3 : Room 3 _ := hr
    have hr2 : Room 2 _ := hr.mono (by decide)
    refine ⟨_, (pss_cons (ps_if (PW.pt (pw_or (pt_not (pt_val (pe_fn G.is_number (hr2.mono (by decide)) pass0 (by rfl) (pa_cons (pv 1) pa_nil)))) (pw_or1 (pt_cmpR op_lt (pv 1) pe_int (nomark _)))))
      (pss_one (ps_raise rfl (takes_of rfl rfl rfl rfl) (pmk_1 G.bf hr2 (by rfl) (pa_cons pe_str pa_nil))))
      pss_nil)
    (pss_one (ps_fld (pv 0) (pv 1) rfl))), ?_⟩
    obtain ⟨a, dx, v, rfl, ha, hv, q1, q2⟩ := h
    refine ⟨_, rfl, v, rfl, wM_flat v hv, _, rfl, ?_⟩
    show if (!numB v) = true then _ else _
    refine ite2 (fun h1 => mkO_1 (q2 _ (by show (if (!numB v || _) = true then _ else _) = _; rw [h1]; rfl))) (fun h1 => ?_)
    cases v with
    | int i =>
      refine ⟨_, rfl, _, _, rfl, rfl, _, rfl, ?_⟩
      refine ite2 (fun h2 => mkO_1 (q2 _ (by show (if (_ || decide (i < 1)) = true then _ else _) = _; rw [h2]; rfl))) (fun h2 => ?_)
      refine ⟨_, rfl, _, rfl, a, _, dx, _, rfl, ha, G.cFixed.cl, G.cFixed.no _ (by decide +kernel), (by show 0 < 1000; decide), q1 ?_⟩
      show (if (!true || decide (i < 1)) = true then _ else _) = _
      rw [Bool.eq_false_iff.mpr h2]
      rfl
    | _ => exact absurd rfl h1

/-- what is handed in as texts -/
def LXAt (H : Hp) (v : V) : LX → Prop
  | .lst xs => ∃ b, v = .ref b ∧ H b = some (.lst xs)
  | .tup xs => ∃ b, v = .ref b ∧ TupZ H b xs
  | .val u => v = u
theorem LXAt.same {H H' : Hp} {v : V} (S : Same H H') : ∀ {x : LX}, LXAt H v x → LXAt H' v x
  | .lst _, ⟨b, e, h⟩ => ⟨b, e, S _ _ h⟩
  | .tup _, ⟨b, e, h⟩ => ⟨b, e, h.same S⟩
  | .val _, e => e
theorem all_str : ∀ xs : List V, xs.all areB = true → (xs.map strV).map V.str = xs
  | [], _ => rfl
  | v :: xs, h => by
    obtain ⟨h1, h2⟩ := Bool.and_eq_true_iff.mp (show (areB v && xs.all areB) = true from h)
    have e : V.str (strV v) = v := by cases v <;> first | rfl | cases h1
    show V.str (strV v) :: (xs.map strV).map V.str = v :: xs
    rw [e, all_str xs h2]
theorem raise_mono {C : Addr} {g : Str} {v : V} {H H1 : Hp} {E : XK} (S : Same H H1) (h : RaiseE C g v H E) : RaiseE C g v H1 E := fun d H2 hd S2 e => by
  refine h d H2 ?_ (S.trans S2) e
  cases q : H d with
  | none => rfl
  | some o => rw [S d o q] at hd; cases hd
def spListed (K : Frag) : Sp := fun vs H Q E => ∃ (a dx : Addr) (v : V) (x : LX), vs = [.ref a, v] ∧ H a = some (.ins (He.ga K "Listed") dx []) ∧ x ∈ lM ∧ LXAt H v x ∧
  (lxDue x = none → ∀ t H2, Same H H2 → TupZ H2 t x.els → Q .non (upd H2 a (.ins (He.ga K "Listed") dx (fListed (.ref t))))) ∧ ∀ z, lxDue x = some z → RaiseE (BF K) "what" (.str z) H E
theorem kit_LT (K : Frag) : kitAny K (.type "list") [.type "list", .type "tuple"] = some true ∧ kitAny K (.type "tuple") [.type "list", .type "tuple"] = some true ∧ kitAny K (.type "str") [.type "list", .type "tuple"] = some false ∧ kitAny K (.type "NoneType") [.type "list", .type "tuple"] = some false := by
  have k : ∀ {S T : String} {b : Bool}, kitB S T = some b → kitOne K (.type S) (.type T) = some b := fun h => kit_ty h
  refine ⟨?_, ?_, ?_, ?_⟩
  · exact kitAny_cons (b := true) (k (by decide +kernel)) (fun z => nomatch z) (fun _ => rfl)
  · exact kitAny_cons (b := false) (k (by decide +kernel)) (fun _ => kitAny_cons (b := true) (k (by decide +kernel)) (fun z => nomatch z) (fun _ => rfl)) (fun z => nomatch z)
  · exact kitAny_cons (b := false) (k (by decide +kernel)) (fun _ => kitAny_cons (b := false) (k (by decide +kernel)) (fun _ => kitAny_nil) (fun z => nomatch z)) (fun z => nomatch z)
  · exact kitAny_cons (b := false) (k (by decide +kernel)) (fun _ => kitAny_cons (b := false) (k (by decide +kernel)) (fun _ => kitAny_nil) (fun z => nomatch z)) (fun z => nomatch z)
theorem take_succ_map {α β : Type} (g : α → β) {xs : List α} {i : Nat} {x : α} (h : xs[i]? = some x) : (xs.take (i + 1)).map g = (xs.take i).map g ++ [g x] := by
  rw [List.take_add_one, h, List.map_append]
  rfl

abbrev s_Listed_init : Stmt := inClass (top 28) 0
theorem sc_Listed_init : FnScope ["self", "texts", "text"] ["self", "texts"] (defScope s_Listed_init) := ⟨rfl, rfl, rfl, by decide +kernel, rfl, by decide +kernel, by decide +kernel⟩

theorem ok_Listed_init (F : FunD K "__init__" "Listed.__init__" (defArgs s_Listed_init) (defBody s_Listed_init) (defScope s_Listed_init) [] [] f fd) (G : G3 P w K mg base) : FnOk P w K mg base (L2.CX P w) 4 f fd ["self", "texts"] (spListed K) := by
  refine F.ok (CX := (L2.CX P w)) sc_Listed_init (fun vs H Q E h => ?_) (fun cdv A outer s H vs Q E hr h => ?_)
  · obtain ⟨a, dx, v, x, rfl, _⟩ := h
    rfl
  · have hr3 : Room 3 _ := hr
    have hr2 : Room 2 _ := hr.mono (by decide)
    refine ⟨_, (pss_cons (ps_if (PW.pt (pw_or (pt_not (pt_val (pe_callB call_ieT (by rfl) G.isinstance (by decide +kernel) (pa_cons (pv 1) (pa_cons (pe_tupS (pa_cons (pe_bty (n := "list") (by rfl) G.list (by decide +kernel)) (pa_cons (pe_bty (n := "tuple") (by rfl) G.tuple (by decide +kernel)) pa_nil))) pa_nil))))) (pw_or1 (pt_cmpR op_eq (pe_callB call_len_seq (by rfl) G.len (by decide +kernel) (pa_cons (pv 1) pa_nil)) pe_int (nomark _)))))
      (pss_one (ps_raise rfl (takes_of rfl rfl rfl rfl) (pmk_1 G.bf hr2 (by rfl) (pa_cons pe_str pa_nil))))
      pss_nil)
    (pss_cons (ps_if (PW.pt (pw_or (pt_not (pt_val (pe_callB (cr_all rfl) (by rfl) G.all (by decide +kernel) (pa_cons (pe_lc (own := [("text", 2)]) (g := gName 2) (tt := tYes) rfl sc_Listed_init.nd (pi_or (pi_list (pv 1)) (pi_tup (pv 1))) (blkOk_by (N := ["self", "texts", "text"]) (sc := defScope s_Listed_init) (by decide +kernel)) (fun _ _ _ _ _ => pg_name (i := 2) sc_Listed_init.nd rfl (Or.inl rfl)) (fun _ _ _ _ _ => pts_nil) (fun _ _ _ _ _ => (pe_fn G.are_signs hr2 pass0 (by rfl) (pa_cons (pv 2) pa_nil)))) pa_nil)))) (pw_or1 (pt_cmpR op_lt (pe_lenSetSeq rfl (by rfl) G.len (by rfl) G.set (pv 1)) (pe_callB call_len_seq (by rfl) G.len (by decide +kernel) (pa_cons (pv 1) pa_nil)) (nomark _)))))
      (pss_one (ps_raise rfl (takes_of rfl rfl rfl rfl) (pmk_1 G.bf hr2 (by rfl) (pa_cons pe_str pa_nil))))
      pss_nil)
    (pss_one (ps_fld (pv 0) (pe_callTy call_tupleZ (by rfl) G.tuple (by decide +kernel) (pa_cons (pv 1) pa_nil)) rfl)))), ?_⟩
    obtain ⟨a, dx, v, x, rfl, ha, hx, hL, q1, q2⟩ := h
    obtain ⟨hv, hz⟩ := lM_vM x hx
    rcases lM_val x hx with e | e | e
    · subst e
      obtain rfl : v = .str "ab" := hL
      refine ⟨_, rfl, by show 2 ≤ 1000; decide, fun p0 H0 hp0 S0 e0 => ⟨_, p0, _, _, _, false, rfl, e0, .cons (.ty _) (.cons (.ty _) Paired.nil), .x (.base (.str _)), (kit_LT K).2.2.1, _, rfl, iteT (mkO_1 (raise_mono S0 (q2 _ rfl)))⟩⟩
    · subst e
      obtain rfl : v = .non := hL
      refine ⟨_, rfl, by show 2 ≤ 1000; decide, fun p0 H0 hp0 S0 e0 => ⟨_, p0, _, _, _, false, rfl, e0, .cons (.ty _) (.cons (.ty _) Paired.nil), .x (.base .non), (kit_LT K).2.2.2, _, rfl, iteT (mkO_1 (raise_mono S0 (q2 _ rfl)))⟩⟩
    · cases x with
      | val u => rcases e with e | e <;> cases e
      | lst xs =>
      obtain ⟨b, rfl, hb⟩ := hL
      have hz' : xs.length ≤ 20 := hz
      refine ⟨_, rfl, by show 2 ≤ 1000; decide, fun p0 H0 hp0 S0 e0 => ⟨_, p0, _, _, _, true, rfl, e0, .cons (.ty _) (.cons (.ty _) Paired.nil), .x (.base (.lst (S0 _ _ hb))), (kit_LT K).1, _, rfl, iteF ?_⟩⟩
      refine ⟨_, rfl, b, _, rfl, .inl (SqL.of (S0 _ _ hb)), rfl, _, rfl, ?_⟩
      refine ite2 (fun h1 => mkO_1 (raise_mono S0 (q2 _ (by show (if (decide (xs.length = 0) || _) = true then _ else _) = _; rw [show decide (xs.length = 0) = true from decide_eq_true (by have := of_decide_eq_true h1; simpa using this)]; rfl)))) (fun h1 => ?_)
      have n0 : decide (xs.length = 0) = false := decide_eq_false (fun z => h1 (decide_eq_true (by rw [z]; rfl)))
      have eD : lxDue (.lst xs) = if xsBad xs = true then (some "texts" : Option Str) else none := by
        show (if (decide (xs.length = 0) || xsBad xs) = true then _ else _) = _
        rw [n0]
        rfl
      rw [eD] at q1 q2
      refine .inl ⟨_, rfl, b, rfl, ⟨_, SqL.of (S0 _ _ hb)⟩, fun D hD => ?_⟩
      refine lc_list (K := K) (a := b) (xs := xs) (LcP H0 D fun n => (xs.take n).map fun v => V.bl (areB v)) (LcP.start hD rfl) (fun i J hi p => SqL.of (p.1 _ _ (S0 _ _ hb))) ?_ ?_
      · intro i v J hx p
        refine ⟨rfl, _, rfl, v, rfl, hv v (List.mem_of_getElem? hx), p.put (Same.refl _) (take_succ_map _ hx) ?_⟩
        have := (List.getElem?_eq_some_iff.mp hx).1
        omega
      · rintro J ⟨S1, _, eJ, _⟩
        have eJ2 : J D = some (.lst ((xs.map areB).map V.bl)) := by rw [eJ]; show some (HO.lst ((xs.take xs.length).map fun v => V.bl (areB v))) = _; rw [List.take_length, List.map_map]; rfl
        refine ⟨D, xs.map areB, rfl, SqL.of eJ2, _, rfl, ?_⟩
        have ea : (xs.map areB).all id = xs.all areB := by rw [List.all_map]; rfl
        rw [ea]
        show if (!xs.all areB) = true then _ else _
        have S2 : Same H J := S0.trans S1
        refine ite2 (fun h2 => mkO_1 (raise_mono S2 (q2 _ (by unfold xsBad; rw [h2]; rfl)))) (fun h2 => ?_)
        have h2' : xs.all areB = true := by cases z : xs.all areB with | true => rfl | false => exact absurd (by rw [z]; rfl) h2
        refine ⟨_, rfl, b, xs.map strV, rfl, .inl (by rw [all_str xs h2']; exact SqL.of (S2 _ _ hb)), by rw [List.length_map]; omega, _, rfl, b, _, rfl, .inl (SqL.of (S2 _ _ hb)), _, _, rfl, rfl, _, rfl, ?_⟩
        refine ite2 (fun h3 => mkO_1 (raise_mono S2 (q2 _ ?_))) (fun h3 => ?_)
        · unfold xsBad
          rw [show decide ((newS (fun i => (xs.map strV).getD i Str.empty) (xs.map strV).length : Nat) < xs.length) = true from decide_eq_true (by have := of_decide_eq_true h3; omega), Bool.or_true]
          rfl
        · have q1' := q1 (by unfold xsBad; rw [h2', show decide ((newS (fun i => (xs.map strV).getD i Str.empty) (xs.map strV).length : Nat) < xs.length) = false from decide_eq_false (fun z => h3 (decide_eq_true (by omega)))]; rfl)
          refine ⟨_, rfl, b, xs, rfl, .inl ⟨SqL.of (S2 _ _ hb), fun t H3 ht S3 tz => ?_⟩⟩
          refine ⟨_, rfl, a, _, dx, _, rfl, S3 _ _ (S2 _ _ ha), G.cListed.cl, G.cListed.no _ (by decide +kernel), (by show 0 < 1000; decide), ?_⟩
          exact q1' t _ (S2.trans S3) tz
      | tup xs =>
      obtain ⟨b, rfl, hb⟩ := hL
      have hz' : xs.length ≤ 20 := hz
      refine ⟨_, rfl, by show 2 ≤ 1000; decide, fun p0 H0 hp0 S0 e0 => ⟨_, p0, _, _, _, true, rfl, e0, .cons (.ty _) (.cons (.ty _) Paired.nil), .x (.fTuple (hb.same S0).choose_spec.2.2), (kit_LT K).2.1, _, rfl, iteF ?_⟩⟩
      refine ⟨_, rfl, b, _, rfl, .inr ((hb.same S0).sq), rfl, _, rfl, ?_⟩
      refine ite2 (fun h1 => mkO_1 (raise_mono S0 (q2 _ (by show (if (decide (xs.length = 0) || _) = true then _ else _) = _; rw [show decide (xs.length = 0) = true from decide_eq_true (by have := of_decide_eq_true h1; simpa using this)]; rfl)))) (fun h1 => ?_)
      have n0 : decide (xs.length = 0) = false := decide_eq_false (fun z => h1 (decide_eq_true (by rw [z]; rfl)))
      have eD : lxDue (.tup xs) = if xsBad xs = true then (some "texts" : Option Str) else none := by
        show (if (decide (xs.length = 0) || xsBad xs) = true then _ else _) = _
        rw [n0]
        rfl
      rw [eD] at q1 q2
      refine .inr ⟨_, rfl, b, rfl, ⟨_, (hb.same S0).sq⟩, fun D hD => ?_⟩
      refine lc_tup (K := K) (a := b) (xs := xs) (LcP H0 D fun n => (xs.take n).map fun v => V.bl (areB v)) (LcP.start hD rfl) (fun i J hi p => ((hb.same S0).same p.1).sq) ?_ ?_
      · intro i v J hx p
        refine ⟨rfl, _, rfl, v, rfl, hv v (List.mem_of_getElem? hx), p.put (Same.refl _) (take_succ_map _ hx) ?_⟩
        have := (List.getElem?_eq_some_iff.mp hx).1
        omega
      · rintro J ⟨S1, _, eJ, _⟩
        have eJ2 : J D = some (.lst ((xs.map areB).map V.bl)) := by rw [eJ]; show some (HO.lst ((xs.take xs.length).map fun v => V.bl (areB v))) = _; rw [List.take_length, List.map_map]; rfl
        refine ⟨D, xs.map areB, rfl, SqL.of eJ2, _, rfl, ?_⟩
        have ea : (xs.map areB).all id = xs.all areB := by rw [List.all_map]; rfl
        rw [ea]
        show if (!xs.all areB) = true then _ else _
        have S2 : Same H J := S0.trans S1
        refine ite2 (fun h2 => mkO_1 (raise_mono S2 (q2 _ (by unfold xsBad; rw [h2]; rfl)))) (fun h2 => ?_)
        have h2' : xs.all areB = true := by cases z : xs.all areB with | true => rfl | false => exact absurd (by rw [z]; rfl) h2
        refine ⟨_, rfl, b, xs.map strV, rfl, .inr (by rw [all_str xs h2']; exact (hb.same S2).sq), by rw [List.length_map]; omega, _, rfl, b, _, rfl, .inr ((hb.same S2).sq), _, _, rfl, rfl, _, rfl, ?_⟩
        refine ite2 (fun h3 => mkO_1 (raise_mono S2 (q2 _ ?_))) (fun h3 => ?_)
        · unfold xsBad
          rw [show decide ((newS (fun i => (xs.map strV).getD i Str.empty) (xs.map strV).length : Nat) < xs.length) = true from decide_eq_true (by have := of_decide_eq_true h3; omega), Bool.or_true]
          rfl
        · have q1' := q1 (by unfold xsBad; rw [h2', show decide ((newS (fun i => (xs.map strV).getD i Str.empty) (xs.map strV).length : Nat) < xs.length) = false from decide_eq_false (fun z => h3 (decide_eq_true (by omega)))]; rfl)
          refine ⟨_, rfl, b, xs, rfl, .inr ⟨(hb.same S2).sq, ?_⟩⟩
          refine ⟨_, rfl, a, _, dx, _, rfl, S2 _ _ ha, G.cListed.cl, G.cListed.no _ (by decide +kernel), (by show 0 < 1000; decide), ?_⟩
          exact q1' b _ S2 (hb.same S2)


def spEnded (K : Frag) : Sp := fun vs H Q E => ∃ (a dx : Addr) (s e l m : V), vs = [.ref a, s, e, l, m] ∧ H a = some (.ins (He.ga K "Ended") dx []) ∧ s ∈ sM ∧ e ∈ eM ∧ l ∈ nM ∧ m ∈ nM ∧ (eDue s e l m = none → Q .non (upd H a (.ins (He.ga K "Ended") dx (fEnded s e l m)))) ∧
  ∀ z, eDue s e l m = some z → RaiseE (BF K) "what" (.str z) H E

abbrev s_Ended_init : Stmt := inClass (top 29) 0
theorem sc_Ended_init : FnScope ["self", "signs", "sign", "least", "most"] ["self", "signs", "sign", "least", "most"] (defScope s_Ended_init) := ⟨rfl, rfl, rfl, by decide +kernel, rfl, by decide +kernel, by decide +kernel⟩

theorem ok_Ended_init (F : FunD K "__init__" "Ended.__init__" (defArgs s_Ended_init) (defBody s_Ended_init) (defScope s_Ended_init) [] [] f fd) (G : G3 P w K mg base) : FnOk P w K mg base (L2.CX P w) 4 f fd ["self", "signs", "sign", "least", "most"] (spEnded K) := by
  refine F.ok (CX := (L2.CX P w)) sc_Ended_init (fun vs H Q E h => ?_) (fun cdv A outer s H vs Q E hr h => ?_)
  · obtain ⟨a, dx, s, e, l, m, rfl, _⟩ := h
    rfl
  · have hr3 : Room 3 _ := hr
    have hr2 : Room 2 _ := hr.mono (by decide)
    refine ⟨_, (pss_cons (ps_expr (pe_fnS G.check_signs hr3 (fun σ => passAt (takes_of rfl rfl rfl rfl) σ) (by rfl) (pa_cons (pv 1) pa_nil)))
    (pss_cons (ps_if (PW.pt (pw_or (pt_not (pt_val (pe_fn G.is_sign (hr2.mono (by decide)) pass0 (by rfl) (pa_cons (pv 2) pa_nil)))) (pw_or1 (pt_cmpR op_in_sign (pv 2) (pv 1) (by rfl)))))
      (pss_one (ps_raise rfl (takes_of rfl rfl rfl rfl) (pmk_1 G.bf hr2 (by rfl) (pa_cons pe_str pa_nil))))
      pss_nil)
    (pss_cons (ps_expr (pe_fnS G.check_span hr3 (fun σ => passAt (takes_of rfl rfl rfl rfl) σ) (by rfl) (pa_cons (pv 3) (pa_cons (pv 4) pa_nil))))
    (pss_cons (ps_fld (pv 0) (pv 1) rfl)
    (pss_cons (ps_fld (pv 0) (pv 2) rfl)
    (pss_cons (ps_fld (pv 0) (pv 3) rfl)
    (pss_one (ps_fld (pv 0) (pv 4) rfl)))))))), ?_⟩
    obtain ⟨a, dx, s, e, l, m, rfl, ha, hs, he, hl, hm, q1, q2⟩ := h
    refine ⟨_, rfl, s, rfl, hs, fun e1 => ?_, fun e1 => q2 _ (by unfold eDue; rw [if_pos e1])⟩
    have e0 : eDue s e l m = if (!isSignB e || inB (strV e) (strV s)) = true then (some "sign" : Option Str) else bDue l m := by unfold eDue; rw [e1]; rfl
    rw [e0] at q1 q2
    refine ⟨_, rfl, e, rfl, eM_vM he, _, rfl, ?_⟩
    show if (!isSignB e) = true then _ else _
    refine ite2 (fun h1 => mkO_1 (q2 _ (by rw [h1]; rfl))) (fun h1 => ?_)
    have h1' : isSignB e = true := by cases z : isSignB e with | true => rfl | false => exact absurd (by rw [z]; rfl) h1
    refine ⟨_, rfl, _, rfl, _, strV s, eM_one e he h1', sM_str s hs e1, _, rfl, ?_⟩
    show if inB (strV e) (strV s) = true then _ else _
    refine ite2 (fun h2 => mkO_1 (q2 _ (by rw [h2, Bool.or_true]; rfl))) (fun h2 => ?_)
    have h2' : inB (strV e) (strV s) = false := Bool.eq_false_iff.mpr h2
    rw [h1', h2'] at q1 q2
    refine ⟨_, rfl, _, rfl, l, m, rfl, nM_flat l (nh hl), nM_flat m (nh hm), fun e2 => ?_, fun z e2 => q2 z e2⟩
    refine ⟨_, rfl, _, rfl, a, _, dx, _, rfl, ha, G.cEnded.cl, G.cEnded.no _ (by decide +kernel), (by show 0 < 1000; decide), _, rfl, _, rfl, a, _, dx, _, rfl, upd_same, G.cEnded.cl, G.cEnded.no _ (by decide +kernel), (by show 1 < 1000; decide), _, rfl, _, rfl, a, _, dx, _, rfl, upd_same, G.cEnded.cl, G.cEnded.no _ (by decide +kernel), (by show 2 < 1000; decide), _, rfl, _, rfl, a, _, dx, _, rfl, upd_same, G.cEnded.cl, G.cEnded.no _ (by decide +kernel), (by show 3 < 1000; decide), ?_⟩
    have z := q1 e2
    show Q .non _
    rw [upd_upd, upd_upd, upd_upd]
    exact z

def spHasWord (K : Frag) : Sp := fun vs H Q _ => ∃ (a : Addr) (c : Nat) (s l m : V), vs = [.ref a, .str ⟨#[c]⟩] ∧ FieldAt K H a (.word s l m) ∧ PD.In (.word s l m) ∧ PD.due (.word s l m) = none ∧ ∀ H', Same H H' → Q (.bl (PD.has ⟨#[c]⟩ (.word s l m))) H'

def spHasNumber (K : Frag) : Sp := fun vs H Q _ => ∃ (a : Addr) (c : Nat) (l m : V), vs = [.ref a, .str ⟨#[c]⟩] ∧ FieldAt K H a (.number l m) ∧ PD.In (.number l m) ∧ PD.due (.number l m) = none ∧ ∀ H', Same H H' → Q (.bl (PD.has ⟨#[c]⟩ (.number l m))) H'

def spHasFixed (K : Frag) : Sp := fun vs H Q _ => ∃ (a : Addr) (c : Nat) (v : V), vs = [.ref a, .str ⟨#[c]⟩] ∧ FieldAt K H a (.fixed v) ∧ PD.In (.fixed v) ∧ PD.due (.fixed v) = none ∧ ∀ H', Same H H' → Q (.bl (PD.has ⟨#[c]⟩ (.fixed v))) H'

def spHasListed (K : Frag) : Sp := fun vs H Q _ => ∃ (a : Addr) (c : Nat) (x : LX), vs = [.ref a, .str ⟨#[c]⟩] ∧ FieldAt K H a (.listed x) ∧ PD.In (.listed x) ∧ PD.due (.listed x) = none ∧ ∀ H', Same H H' → Q (.bl (PD.has ⟨#[c]⟩ (.listed x))) H'

def spHasEnded (K : Frag) : Sp := fun vs H Q _ => ∃ (a : Addr) (c : Nat) (s e l m : V), vs = [.ref a, .str ⟨#[c]⟩] ∧ FieldAt K H a (.ended s e l m) ∧ PD.In (.ended s e l m) ∧ PD.due (.ended s e l m) = none ∧ ∀ H', Same H H' → Q (.bl (PD.has ⟨#[c]⟩ (.ended s e l m))) H'

abbrev s_Word_has : Stmt := inClass (top 25) 7
theorem sc_Word_has : FnScope ["self", "sign"] ["self", "sign"] (defScope s_Word_has) := ⟨rfl, rfl, rfl, by decide +kernel, rfl, by decide +kernel, by decide +kernel⟩

theorem ok_Word_has (F : FunD K "has_sign" "Word.has_sign" (defArgs s_Word_has) (defBody s_Word_has) (defScope s_Word_has) [] [] f fd) (G : G3 P w K mg base) : FnOk P w K mg base CX0 2 f fd ["self", "sign"] (spHasWord K) := by
  refine F.ok (CX := CX0) sc_Word_has (fun vs H Q E h => ?_) (fun cdv A outer s H vs Q E hr h => ?_)
  · obtain ⟨a, c, s, l, m, rfl, _⟩ := h
    rfl
  · refine ⟨_, PSs.nox (pss_one (ps_ret (pe_fn G.has_words_with hr pass0 (by rfl) (pa_cons (pv 0) (pa_cons (pv 1) pa_nil))))), ?_⟩
    obtain ⟨a, c, s, l, m, rfl, ⟨dx, ha⟩, ⟨hs, hl, hm⟩, hd, q⟩ := h
    obtain ⟨es, sc, _⟩ := word_due s hs l hl m hm hd
    rw [es] at ha q
    exact ⟨_, rfl, _, rfl, a, _, dx, _, c, strV s, m, rfl, ha, G.cWord.cl, G.cWord.no _ (by decide +kernel), G.cWord.no _ (by decide +kernel), lWord_signs, lWord_most, sc, q _ (Same.refl _)⟩

abbrev s_Fixed_has : Stmt := inClass (top 27) 7
theorem sc_Fixed_has : FnScope ["self", "sign"] ["self", "sign"] (defScope s_Fixed_has) := ⟨rfl, rfl, rfl, by decide +kernel, rfl, by decide +kernel, by decide +kernel⟩

theorem ok_Fixed_has (F : FunD K "has_sign" "Fixed.has_sign" (defArgs s_Fixed_has) (defBody s_Fixed_has) (defScope s_Fixed_has) [] [] f fd) (G : G3 P w K mg base) : FnOk P w K mg base CX0 2 f fd ["self", "sign"] (spHasFixed K) := by
  refine F.ok (CX := CX0) sc_Fixed_has (fun vs H Q E h => ?_) (fun cdv A outer s H vs Q E hr h => ?_)
  · obtain ⟨a, c, v, rfl, _⟩ := h
    rfl
  · refine ⟨_, PSs.nox (pss_one (ps_ret (pe_cmpR op_in_sign (pv 1) (pe_sg G.dgs) (by rfl)))), ?_⟩
    obtain ⟨a, c, v, rfl, hf, _, _, q⟩ := h
    exact ⟨_, rfl, c, DG, rfl, rfl, q _ (Same.refl _)⟩

abbrev s_Ended_has : Stmt := inClass (top 29) 7
theorem sc_Ended_has : FnScope ["self", "sign"] ["self", "sign"] (defScope s_Ended_has) := ⟨rfl, rfl, rfl, by decide +kernel, rfl, by decide +kernel, by decide +kernel⟩

theorem ok_Ended_has (F : FunD K "has_sign" "Ended.has_sign" (defArgs s_Ended_has) (defBody s_Ended_has) (defScope s_Ended_has) [] [] f fd) (G : G3 P w K mg base) : FnOk P w K mg base CX0 2 f fd ["self", "sign"] (spHasEnded K) := by
  refine F.ok (CX := CX0) sc_Ended_has (fun vs H Q E h => ?_) (fun cdv A outer s H vs Q E hr h => ?_)
  · obtain ⟨a, c, s, e, l, m, rfl, _⟩ := h
    rfl
  · refine ⟨_, PSs.nox (pss_one (ps_ret (pe_or (pe_cmpR op_eq (pv 1) (pe_fld (pv 0) rfl) (nomark _)) (pe_one (pe_fn G.has_words_with hr pass0 (by rfl) (pa_cons (pv 0) (pa_cons (pv 1) pa_nil))))))), ?_⟩
    obtain ⟨a, c, s, e, l, m, rfl, ⟨dx, ha⟩, ⟨hs, he, hl, hm⟩, hd, q⟩ := h
    obtain ⟨es, ee, sc, _⟩ := end_due s hs e he l hl m hm hd
    have q0 := q _ (Same.refl _)
    refine ⟨_, rfl, _, rfl, a, _, dx, _, _, rfl, ha, G.cEnded.cl, G.cEnded.no _ (by decide +kernel), lEnded_sign, (by rw [ee]; rfl), _, rfl, ?_⟩
    refine ite2 (fun h1 => ?_) (fun h1 => ?_)
    · have r : PD.has ⟨#[c]⟩ (.ended s e l m) = true := by show (decide (V.str ⟨#[c]⟩ = e) || _) = true; rw [h1]; rfl
      rw [r] at q0
      exact q0
    · have r : PD.has ⟨#[c]⟩ (.ended s e l m) = wwB s m ⟨#[c]⟩ := by show (decide (V.str ⟨#[c]⟩ = e) || _) = _; rw [Bool.eq_false_iff.mpr h1]; rfl
      rw [r] at q0
      rw [es] at ha q0
      exact ⟨_, rfl, _, rfl, a, _, dx, _, c, strV s, m, rfl, ha, G.cEnded.cl, G.cEnded.no _ (by decide +kernel), G.cEnded.no _ (by decide +kernel), lEnded_signs, lEnded_most, sc, q0⟩

abbrev s_Listed_has : Stmt := inClass (top 28) 7
theorem sc_Listed_has : FnScope ["self", "sign", "text"] ["self", "sign"] (defScope s_Listed_has) := ⟨rfl, rfl, rfl, by decide +kernel, rfl, by decide +kernel, by decide +kernel⟩

theorem ok_Listed_has (F : FunD K "has_sign" "Listed.has_sign" (defArgs s_Listed_has) (defBody s_Listed_has) (defScope s_Listed_has) [] [] f fd) (G : G3 P w K mg base) : FnOk P w K mg base CX0 2 f fd ["self", "sign"] (spHasListed K) := by
  refine F.ok (CX := CX0) sc_Listed_has (fun vs H Q E h => ?_) (fun cdv A outer s H vs Q E hr h => ?_)
  · obtain ⟨a, c, x, rfl, _⟩ := h
    rfl
  · refine ⟨_, PSs.nox (pss_one (ps_ret (pe_callB (cr_any rfl) (by rfl) G.any (by decide +kernel) (pa_cons (pe_lc (own := [("text", 2)]) (g := gName 2) (tt := tYes) rfl sc_Listed_has.nd (pi_tup (pe_fld (pv 0) rfl)) (blkOk_by (N := ["self", "sign", "text"]) (sc := defScope s_Listed_has) (by decide +kernel)) (fun _ _ _ _ _ => pg_name (i := 2) sc_Listed_has.nd rfl (Or.inl rfl)) (fun _ _ _ _ _ => pts_nil) (fun _ _ _ _ _ => (pe_cmpR op_in_sign (pv 1) (pv 2) (by rfl)))) pa_nil)))), ?_⟩
    obtain ⟨a, c, x, rfl, ⟨dx, t, ha, ht⟩, hx, hd, q⟩ := h
    obtain ⟨hs, hz, _⟩ := lst_due x hx hd
    refine ⟨_, rfl, a, _, dx, _, _, rfl, ha, G.cListed.cl, G.cListed.no _ (by decide +kernel), lListed_texts, t, rfl, ⟨_, ht.sq⟩, fun D hD => ?_⟩
    refine lc_tup (K := K) (a := t) (xs := x.els) (LcP H D fun n => (x.els.take n).map fun v => V.bl (inB ⟨#[c]⟩ (strV v))) (LcP.start hD rfl) (fun i J hi p => (ht.same p.1).sq) ?_ ?_
    · intro i v J hv p
      have ev := hs v (List.mem_of_getElem? hv)
      have := (List.getElem?_eq_some_iff.mp hv).1
      exact ⟨rfl, _, rfl, _, rfl, c, strV v, rfl, ev, p.put (Same.refl _) (take_succ_map _ hv) (by omega)⟩
    · rintro J ⟨S1, _, eJ, _⟩
      have eJ2 : J D = some (.lst ((x.els.map fun v => inB ⟨#[c]⟩ (strV v)).map V.bl)) := by rw [eJ]; show some (HO.lst ((x.els.take x.els.length).map fun v => V.bl (inB ⟨#[c]⟩ (strV v)))) = _; rw [List.take_length, List.map_map]; rfl
      refine ⟨D, _, rfl, SqL.of eJ2, ?_⟩
      rw [List.any_map]
      exact q _ S1

abbrev s_Number_has : Stmt := inClass (top 26) 7
theorem sc_Number_has : FnScope ["self", "sign", "number"] ["self", "sign"] (defScope s_Number_has) := ⟨rfl, rfl, rfl, by decide +kernel, rfl, by decide +kernel, by decide +kernel⟩

theorem ok_Number_has (F : FunD K "has_sign" "Number.has_sign" (defArgs s_Number_has) (defBody s_Number_has) (defScope s_Number_has) [] [] f fd) (G : G3 P w K mg base) : FnOk P w K mg base CX0 2 f fd ["self", "sign"] (spHasNumber K) := by
  refine F.ok (CX := CX0) sc_Number_has (fun vs H Q E h => ?_) (fun cdv A outer s H vs Q E hr h => ?_)
  · obtain ⟨a, c, l, m, rfl, _⟩ := h
    rfl
  · refine ⟨_, PSs.nox (pss_cons (ps_if (PW.pt (pw_or (pt_cmpR op_isN (pe_fld (pv 0) rfl) pe_non (nomark _)) (pw_or1 (pt_cmpR op_ge (pe_op op_sub (pe_fld (pv 0) rfl) (pe_fld (pv 0) rfl)) pe_int (nomark _)))))
      (pss_one (ps_ret (pe_cmpR op_in_sign (pv 1) (pe_sg G.dgs) (by rfl))))
      pss_nil)
    (pss_one (ps_ret (pe_callB (cr_any rfl) (by rfl) G.any (by decide +kernel) (pa_cons (pe_lc (own := [("number", 2)]) (g := gName 2) (tt := tYes) rfl sc_Number_has.nd (pi_range2 (by rfl) G.range (pa_cons (pe_fld (pv 0) rfl) (pa_cons (pe_op op_add (pe_fld (pv 0) rfl) pe_int) pa_nil))) (blkOk_by (N := ["self", "sign", "number"]) (sc := defScope s_Number_has) (by decide +kernel)) (fun _ _ _ _ _ => pg_name (i := 2) sc_Number_has.nd rfl (Or.inl rfl)) (fun _ _ _ _ _ => pts_nil) (fun _ _ _ _ _ => (pe_cmpR op_in_sign (pv 1) (pe_fn G.digits_of hr pass0 (by rfl) (pa_cons (pv 2) pa_nil)) (by rfl)))) pa_nil))))), ?_⟩
    obtain ⟨a, c, l, m, rfl, ⟨dx, ha⟩, ⟨hl, hm⟩, hd, q⟩ := h
    obtain ⟨el, em, hl0, hl1, hm0, hm1, _⟩ := num_due l hl m hm hd
    refine ⟨_, rfl, a, _, dx, _, _, rfl, ha, G.cNumber.cl, G.cNumber.no _ (by decide +kernel), lNumber_most, rfl, _, rfl, ?_⟩
    refine ite2 (fun h1 => ?_) (fun h1 => ?_)
    · have r : PD.has ⟨#[c]⟩ (.number l m) = inB ⟨#[c]⟩ DG := by show (if (decide (m = .non) || _) = true then _ else _) = _; rw [h1]; rfl
      have q0 := q _ (Same.refl _)
      rw [r] at q0
      exact ⟨_, rfl, c, DG, rfl, rfl, q0⟩
    rcases em with em | em
    · exact absurd (decide_eq_true em) h1
    refine ⟨_, rfl, a, _, dx, _, _, rfl, ha, G.cNumber.cl, G.cNumber.no _ (by decide +kernel), lNumber_most, _, rfl, a, _, dx, _, _, rfl, ha, G.cNumber.cl, G.cNumber.no _ (by decide +kernel), lNumber_least, intV m, intV l, em, el, _, _, rfl, rfl, _, rfl, ?_⟩
    refine ite2 (fun h2 => ?_) (fun h2 => ?_)
    · have r : PD.has ⟨#[c]⟩ (.number l m) = inB ⟨#[c]⟩ DG := by show (if (_ || decide (9 ≤ intV m - intV l)) = true then _ else _) = _; rw [h2, Bool.or_true]; rfl
      have q0 := q _ (Same.refl _)
      rw [r] at q0
      exact ⟨_, rfl, c, DG, rfl, rfl, q0⟩
    have h9 : ¬ 9 ≤ intV m - intV l := fun z => h2 (decide_eq_true z)
    have r : PD.has ⟨#[c]⟩ (.number l m) = (List.range (intV m + 1 - intV l).toNat).any fun (i : Nat) => inB ⟨#[c]⟩ (dg (intV l + i)) := by
      show (if (decide (m = .non) || decide (9 ≤ intV m - intV l)) = true then _ else _) = _
      rw [Bool.eq_false_iff.mpr h1, Bool.eq_false_iff.mpr h2]
      rfl
    rw [r] at q
    refine ⟨_, rfl, a, _, dx, _, _, rfl, ha, G.cNumber.cl, G.cNumber.no _ (by decide +kernel), lNumber_least, _, rfl, a, _, dx, _, _, rfl, ha, G.cNumber.cl, G.cNumber.no _ (by decide +kernel), lNumber_most, intV m, 1, em, rfl, intV l, intV m + 1, by rw [el]; rfl, ⟨by omega, by omega, by omega, by omega⟩, fun D hD => ?_⟩
    refine lc_range (lo := intV l) (n := (intV m + 1 - intV l).toNat) (LcP H D fun n => (List.range n).map fun (i : Nat) => V.bl (inB ⟨#[c]⟩ (dg (intV l + i)))) (LcP.start hD rfl) ?_ ?_
    · intro i J hi p
      refine ⟨rfl, _, rfl, _, rfl, _, rfl, by omega, by omega, fun J' S' => ⟨c, _, rfl, rfl, p.put S' (by rw [List.range_succ, List.map_append]; rfl) (by omega)⟩⟩
    · rintro J ⟨S1, _, eJ, _⟩
      have eJ2 : J D = some (.lst (((List.range (intV m + 1 - intV l).toNat).map fun (i : Nat) => inB ⟨#[c]⟩ (dg (intV l + i))).map V.bl)) := by rw [eJ, List.map_map]; rfl
      refine ⟨D, _, rfl, SqL.of eJ2, ?_⟩
      rw [List.any_map]
      exact q _ S1

end
end L2.K76

set_option Elab.async false
set_option linter.all false
set_option maxRecDepth 100000
set_option maxHeartbeats 4000000
namespace L2.K76
open PySem PySem.W PySem.Spec PySem.Calls PyProof.Rows L2.Jk
def PD.ci : PD → Nat
  | .word .. => 0
  | .number .. => 1
  | .fixed _ => 2
  | .listed _ => 3
  | .ended .. => 4
theorem PD.ci_lt (d : PD) : d.ci < 5 := by cases d <;> simp [PD.ci]
/-- what the head says of a field class beyond C0 -/
structure KC (K : Frag) (C : Addr) : Prop where
  kk : findIn K (.ref C) "__class__" = some (some (.builtin "object.__class__"))
  km : mroIn K C (.type "object") = some true
  nf : notFirst K C (.type "tuple") = true
  eq : EqcC K C
  ke : keepIn K (.ref (He.ma K C "__eq__")) = true
structure G4 (P : Program) (w : World) (K : Frag) (mg : Str → Option Value) (base : Heap) : Prop extends G3 P w K mg base where
  kc : ∀ i, i < 6 → KC K (ca K i)
  kn : specialIn K (.builtin "object.__class__") "__get__" = some (some (.builtin "getset_descriptor.__get__"))
  kt : takesIn K (.builtin "object.__class__") = some true
  kit : ∀ i j, i < 6 → j < 6 → kitOne K (.ref (ca K i)) (.ref (ca K j)) = some (decide (i = j))
  kitN : ∀ j, j < 6 → kitOne K (.type "NoneType") (.ref (ca K j)) = some false
  kitS : ∀ j, j < 6 → kitOne K (.type "str") (.ref (ca K j)) = some false
section
variable {P : Program} {w : World} {K : Frag} {mg : Str → Option Value} {base : Heap} {f : Addr} {fd : FuncData}
theorem FieldAt.ins {H : Hp} {y : Addr} : ∀ {d : PD}, FieldAt K H y d → ∃ dx fs, H y = some (.ins (ca K d.ci) dx fs) ∧ fs.lookup ("has_sign" : Str) = none
  | .word .., ⟨dx, h⟩ => ⟨dx, _, h, lWord_hs⟩
  | .number .., ⟨dx, h⟩ => ⟨dx, _, h, lNumber_hs⟩
  | .fixed _, ⟨dx, h⟩ => ⟨dx, _, h, lFixed_hs⟩
  | .listed _, ⟨dx, t, h, k⟩ => ⟨dx, _, h, lListed_hs⟩
  | .ended .., ⟨dx, h⟩ => ⟨dx, _, h, lEnded_hs⟩
theorem G4.cl (G : G4 P w K mg base) : ∀ i, i < 6 → Cls K (ca K i)
  | 0, _ => G.cWord.cl
  | 1, _ => G.cNumber.cl
  | 2, _ => G.cFixed.cl
  | 3, _ => G.cListed.cl
  | 4, _ => G.cEnded.cl
  | 5, _ => G.cMarked.cl
  | n + 6, h => absurd h (by omega)
theorem G4.ty (G : G4 P w K mg base) {H : Hp} {y dx : Addr} {fs : List (Str × V)} {i : Nat} (hi : i < 6) (h : H y = some (.ins (ca K i) dx fs)) : TyE K H (.ref y) (.ref (ca K i)) :=
  .x (.base (.ins h (G.cl i hi) (G.kc i hi).kk G.kn G.kt (G.kc i hi).km))
theorem dp_flat {H : Hp} : ∀ {v : V}, flatV v = true → Dp K H v (dV v)
  | .non, _ => .non
  | .bl b, _ => .bl b
  | .int i, _ => .int i
  | .str z, _ => .str z
theorem dpAll_flat {H : Hp} : ∀ {xs : List V}, xs.all flatV = true → DpAll K H xs (xs.map dV)
  | [], _ => .nil
  | v :: xs, h => by
    obtain ⟨h1, h2⟩ := Bool.and_eq_true_iff.mp (show (flatV v && xs.all flatV) = true from h)
    exact .cons (dp_flat h1) (dpAll_flat h2)

def spEqWord (K : Frag) : Sp := fun vs H Q _ => ∃ (a : Addr) (u : V) (s l m : V), vs = [.ref a, u] ∧ FieldAt K H a (.word s l m) ∧ PD.In (.word s l m) ∧ PD.due (.word s l m) = none ∧
  ((∃ b, u = .ref b ∧ FieldAt K H b (.word s l m) ∧ Q (.bl true) H) ∨ (∃ b xs, u = .ref b ∧ H b = some (.tup xs) ∧ Q (.bl false) H))

def spEqNumber (K : Frag) : Sp := fun vs H Q _ => ∃ (a : Addr) (u : V) (l m : V), vs = [.ref a, u] ∧ FieldAt K H a (.number l m) ∧ PD.In (.number l m) ∧ PD.due (.number l m) = none ∧
  ((∃ b, u = .ref b ∧ FieldAt K H b (.number l m) ∧ Q (.bl true) H) ∨ (∃ b xs, u = .ref b ∧ H b = some (.tup xs) ∧ Q (.bl false) H))

def spEqFixed (K : Frag) : Sp := fun vs H Q _ => ∃ (a : Addr) (u : V) (v : V), vs = [.ref a, u] ∧ FieldAt K H a (.fixed v) ∧ PD.In (.fixed v) ∧ PD.due (.fixed v) = none ∧
  ((∃ b, u = .ref b ∧ FieldAt K H b (.fixed v) ∧ Q (.bl true) H) ∨ (∃ b xs, u = .ref b ∧ H b = some (.tup xs) ∧ Q (.bl false) H))

def spEqListed (K : Frag) : Sp := fun vs H Q _ => ∃ (a : Addr) (u : V) (x : LX), vs = [.ref a, u] ∧ FieldAt K H a (.listed x) ∧ PD.In (.listed x) ∧ PD.due (.listed x) = none ∧
  ((∃ b, u = .ref b ∧ FieldAt K H b (.listed x) ∧ Q (.bl true) H) ∨ (∃ b xs, u = .ref b ∧ H b = some (.tup xs) ∧ Q (.bl false) H))

def spEqEnded (K : Frag) : Sp := fun vs H Q _ => ∃ (a : Addr) (u : V) (s e l m : V), vs = [.ref a, u] ∧ FieldAt K H a (.ended s e l m) ∧ PD.In (.ended s e l m) ∧ PD.due (.ended s e l m) = none ∧
  ((∃ b, u = .ref b ∧ FieldAt K H b (.ended s e l m) ∧ Q (.bl true) H) ∨ (∃ b xs, u = .ref b ∧ H b = some (.tup xs) ∧ Q (.bl false) H))

abbrev s_Word_eq : Stmt := inClass (top 25) 1
theorem sc_Word_eq : FnScope ["self", "other"] ["self", "other"] (defScope s_Word_eq) := ⟨rfl, rfl, rfl, by decide +kernel, rfl, by decide +kernel, by decide +kernel⟩

theorem ok_Word_eq (F : FunD K "__eq__" "Word.__eq__" (defArgs s_Word_eq) (defBody s_Word_eq) (defScope s_Word_eq) [] [] f fd) (G : G4 P w K mg base) : FnOk P w K mg base CX0 1 f fd ["self", "other"] (spEqWord K) := by
  refine F.ok (CX := CX0) sc_Word_eq (fun vs H Q E h => ?_) (fun cdv A outer s H vs Q E hr h => ?_)
  · obtain ⟨a, u, s, l, m, rfl, _⟩ := h
    rfl
  · refine ⟨_, PSs.nox (pss_one (ps_ret (pe_and (pe_cmpR op_isA (pe_callTy call_tyA (by rfl) G.type (by decide +kernel) (pa_cons (pv 0) pa_nil)) (pe_callTy call_tyA (by rfl) G.type (by decide +kernel) (pa_cons (pv 1) pa_nil)) (nomark _)) (pe_and (pe_cmpR op_eq (pe_fld (pv 0) rfl) (pe_fld (pv 1) rfl) (nomark _)) (pe_and (pe_cmpR op_eq (pe_fld (pv 0) rfl) (pe_fld (pv 1) rfl) (nomark _)) (pe_one (pe_cmpR op_eq (pe_fld (pv 0) rfl) (pe_fld (pv 1) rfl) (nomark _)))))))), ?_⟩
    obtain ⟨a, u, s, l, m, rfl, ⟨dx, ha⟩, hin, hd, h⟩ := h
    obtain ⟨hs, hl, hm⟩ := hin
    obtain ⟨_, _, z⟩ := word_due s hs l hl m hm hd
    obtain ⟨k0, z⟩ := Bool.and_eq_true_iff.mp z
    obtain ⟨k1, k2⟩ := Bool.and_eq_true_iff.mp z

    rcases h with ⟨b, rfl, ⟨dy, hb⟩, q⟩ | ⟨b, xs, rfl, hb, q⟩
    · refine ⟨_, rfl, _, rfl, .inl ⟨a, _, dx, _, rfl, ha, _, rfl, _, rfl, .inl ⟨b, _, dy, _, rfl, hb, _, rfl, .inl ⟨_, rfl, .inl rfl, _, rfl, ?_⟩⟩⟩⟩
      refine ite2 (fun _ => ?_) (fun h => absurd (decide_eq_true rfl) h)
      refine ⟨_, rfl, a, _, dx, _, _, rfl, ha, G.cWord.cl, G.cWord.no _ (by decide +kernel), lWord_signs, _, rfl, b, _, dy, _, _, rfl, hb, G.cWord.cl, G.cWord.no _ (by decide +kernel), lWord_signs, k0, _, rfl, ?_⟩
      refine ite2 (fun _ => ?_) (fun h => absurd (decide_eq_true rfl) h)
      refine ⟨_, rfl, a, _, dx, _, _, rfl, ha, G.cWord.cl, G.cWord.no _ (by decide +kernel), lWord_least, _, rfl, b, _, dy, _, _, rfl, hb, G.cWord.cl, G.cWord.no _ (by decide +kernel), lWord_least, k1, _, rfl, ?_⟩
      refine ite2 (fun _ => ?_) (fun h => absurd (decide_eq_true rfl) h)
      refine ⟨_, rfl, a, _, dx, _, _, rfl, ha, G.cWord.cl, G.cWord.no _ (by decide +kernel), lWord_most, _, rfl, b, _, dy, _, _, rfl, hb, G.cWord.cl, G.cWord.no _ (by decide +kernel), lWord_most, k2, ?_⟩
      rw [decide_eq_true rfl]
      exact q
    · exact ⟨_, rfl, _, rfl, .inl ⟨a, _, dx, _, rfl, ha, _, rfl, _, rfl, .inr ⟨_, .tup hb, _, rfl, .inr ⟨_, rfl, _, rfl, iteF q⟩⟩⟩⟩


abbrev s_Number_eq : Stmt := inClass (top 26) 1
theorem sc_Number_eq : FnScope ["self", "other"] ["self", "other"] (defScope s_Number_eq) := ⟨rfl, rfl, rfl, by decide +kernel, rfl, by decide +kernel, by decide +kernel⟩

theorem ok_Number_eq (F : FunD K "__eq__" "Number.__eq__" (defArgs s_Number_eq) (defBody s_Number_eq) (defScope s_Number_eq) [] [] f fd) (G : G4 P w K mg base) : FnOk P w K mg base CX0 1 f fd ["self", "other"] (spEqNumber K) := by
  refine F.ok (CX := CX0) sc_Number_eq (fun vs H Q E h => ?_) (fun cdv A outer s H vs Q E hr h => ?_)
  · obtain ⟨a, u, l, m, rfl, _⟩ := h
    rfl
  · refine ⟨_, PSs.nox (pss_one (ps_ret (pe_and (pe_cmpR op_isA (pe_callTy call_tyA (by rfl) G.type (by decide +kernel) (pa_cons (pv 0) pa_nil)) (pe_callTy call_tyA (by rfl) G.type (by decide +kernel) (pa_cons (pv 1) pa_nil)) (nomark _)) (pe_and (pe_cmpR op_eq (pe_fld (pv 0) rfl) (pe_fld (pv 1) rfl) (nomark _)) (pe_one (pe_cmpR op_eq (pe_fld (pv 0) rfl) (pe_fld (pv 1) rfl) (nomark _))))))), ?_⟩
    obtain ⟨a, u, l, m, rfl, ⟨dx, ha⟩, hin, hd, h⟩ := h
    obtain ⟨hl, hm⟩ := hin
    obtain ⟨_, _, _, _, _, _, z⟩ := num_due l hl m hm hd
    obtain ⟨k0, k1⟩ := Bool.and_eq_true_iff.mp z

    rcases h with ⟨b, rfl, ⟨dy, hb⟩, q⟩ | ⟨b, xs, rfl, hb, q⟩
    · refine ⟨_, rfl, _, rfl, .inl ⟨a, _, dx, _, rfl, ha, _, rfl, _, rfl, .inl ⟨b, _, dy, _, rfl, hb, _, rfl, .inl ⟨_, rfl, .inl rfl, _, rfl, ?_⟩⟩⟩⟩
      refine ite2 (fun _ => ?_) (fun h => absurd (decide_eq_true rfl) h)
      refine ⟨_, rfl, a, _, dx, _, _, rfl, ha, G.cNumber.cl, G.cNumber.no _ (by decide +kernel), lNumber_least, _, rfl, b, _, dy, _, _, rfl, hb, G.cNumber.cl, G.cNumber.no _ (by decide +kernel), lNumber_least, k0, _, rfl, ?_⟩
      refine ite2 (fun _ => ?_) (fun h => absurd (decide_eq_true rfl) h)
      refine ⟨_, rfl, a, _, dx, _, _, rfl, ha, G.cNumber.cl, G.cNumber.no _ (by decide +kernel), lNumber_most, _, rfl, b, _, dy, _, _, rfl, hb, G.cNumber.cl, G.cNumber.no _ (by decide +kernel), lNumber_most, k1, ?_⟩
      rw [decide_eq_true rfl]
      exact q
    · exact ⟨_, rfl, _, rfl, .inl ⟨a, _, dx, _, rfl, ha, _, rfl, _, rfl, .inr ⟨_, .tup hb, _, rfl, .inr ⟨_, rfl, _, rfl, iteF q⟩⟩⟩⟩


abbrev s_Fixed_eq : Stmt := inClass (top 27) 1
theorem sc_Fixed_eq : FnScope ["self", "other"] ["self", "other"] (defScope s_Fixed_eq) := ⟨rfl, rfl, rfl, by decide +kernel, rfl, by decide +kernel, by decide +kernel⟩

theorem ok_Fixed_eq (F : FunD K "__eq__" "Fixed.__eq__" (defArgs s_Fixed_eq) (defBody s_Fixed_eq) (defScope s_Fixed_eq) [] [] f fd) (G : G4 P w K mg base) : FnOk P w K mg base CX0 1 f fd ["self", "other"] (spEqFixed K) := by
  refine F.ok (CX := CX0) sc_Fixed_eq (fun vs H Q E h => ?_) (fun cdv A outer s H vs Q E hr h => ?_)
  · obtain ⟨a, u, v, rfl, _⟩ := h
    rfl
  · refine ⟨_, PSs.nox (pss_one (ps_ret (pe_and (pe_cmpR op_isA (pe_callTy call_tyA (by rfl) G.type (by decide +kernel) (pa_cons (pv 0) pa_nil)) (pe_callTy call_tyA (by rfl) G.type (by decide +kernel) (pa_cons (pv 1) pa_nil)) (nomark _)) (pe_one (pe_cmpR op_eq (pe_fld (pv 0) rfl) (pe_fld (pv 1) rfl) (nomark _)))))), ?_⟩
    obtain ⟨a, u, v, rfl, ⟨dx, ha⟩, hin, hd, h⟩ := h
    have k0 := fix_due v hin hd

    rcases h with ⟨b, rfl, ⟨dy, hb⟩, q⟩ | ⟨b, xs, rfl, hb, q⟩
    · refine ⟨_, rfl, _, rfl, .inl ⟨a, _, dx, _, rfl, ha, _, rfl, _, rfl, .inl ⟨b, _, dy, _, rfl, hb, _, rfl, .inl ⟨_, rfl, .inl rfl, _, rfl, ?_⟩⟩⟩⟩
      refine ite2 (fun _ => ?_) (fun h => absurd (decide_eq_true rfl) h)
      refine ⟨_, rfl, a, _, dx, _, _, rfl, ha, G.cFixed.cl, G.cFixed.no _ (by decide +kernel), lFixed_width, _, rfl, b, _, dy, _, _, rfl, hb, G.cFixed.cl, G.cFixed.no _ (by decide +kernel), lFixed_width, k0, ?_⟩
      rw [decide_eq_true rfl]
      exact q
    · exact ⟨_, rfl, _, rfl, .inl ⟨a, _, dx, _, rfl, ha, _, rfl, _, rfl, .inr ⟨_, .tup hb, _, rfl, .inr ⟨_, rfl, _, rfl, iteF q⟩⟩⟩⟩


abbrev s_Ended_eq : Stmt := inClass (top 29) 1
theorem sc_Ended_eq : FnScope ["self", "other"] ["self", "other"] (defScope s_Ended_eq) := ⟨rfl, rfl, rfl, by decide +kernel, rfl, by decide +kernel, by decide +kernel⟩

theorem ok_Ended_eq (F : FunD K "__eq__" "Ended.__eq__" (defArgs s_Ended_eq) (defBody s_Ended_eq) (defScope s_Ended_eq) [] [] f fd) (G : G4 P w K mg base) : FnOk P w K mg base CX0 1 f fd ["self", "other"] (spEqEnded K) := by
  refine F.ok (CX := CX0) sc_Ended_eq (fun vs H Q E h => ?_) (fun cdv A outer s H vs Q E hr h => ?_)
  · obtain ⟨a, u, s, e, l, m, rfl, _⟩ := h
    rfl
  · refine ⟨_, PSs.nox (pss_one (ps_ret (pe_and (pe_cmpR op_isA (pe_callTy call_tyA (by rfl) G.type (by decide +kernel) (pa_cons (pv 0) pa_nil)) (pe_callTy call_tyA (by rfl) G.type (by decide +kernel) (pa_cons (pv 1) pa_nil)) (nomark _)) (pe_and (pe_cmpR op_eq (pe_fld (pv 0) rfl) (pe_fld (pv 1) rfl) (nomark _)) (pe_and (pe_cmpR op_eq (pe_fld (pv 0) rfl) (pe_fld (pv 1) rfl) (nomark _)) (pe_and (pe_cmpR op_eq (pe_fld (pv 0) rfl) (pe_fld (pv 1) rfl) (nomark _)) (pe_one (pe_cmpR op_eq (pe_fld (pv 0) rfl) (pe_fld (pv 1) rfl) (nomark _))))))))), ?_⟩
    obtain ⟨a, u, s, e, l, m, rfl, ⟨dx, ha⟩, hin, hd, h⟩ := h
    obtain ⟨hs, he, hl, hm⟩ := hin
    obtain ⟨_, _, _, z⟩ := end_due s hs e he l hl m hm hd
    obtain ⟨k0, z⟩ := Bool.and_eq_true_iff.mp z
    obtain ⟨k1, z⟩ := Bool.and_eq_true_iff.mp z
    obtain ⟨k2, k3⟩ := Bool.and_eq_true_iff.mp z

    rcases h with ⟨b, rfl, ⟨dy, hb⟩, q⟩ | ⟨b, xs, rfl, hb, q⟩
    · refine ⟨_, rfl, _, rfl, .inl ⟨a, _, dx, _, rfl, ha, _, rfl, _, rfl, .inl ⟨b, _, dy, _, rfl, hb, _, rfl, .inl ⟨_, rfl, .inl rfl, _, rfl, ?_⟩⟩⟩⟩
      refine ite2 (fun _ => ?_) (fun h => absurd (decide_eq_true rfl) h)
      refine ⟨_, rfl, a, _, dx, _, _, rfl, ha, G.cEnded.cl, G.cEnded.no _ (by decide +kernel), lEnded_signs, _, rfl, b, _, dy, _, _, rfl, hb, G.cEnded.cl, G.cEnded.no _ (by decide +kernel), lEnded_signs, k0, _, rfl, ?_⟩
      refine ite2 (fun _ => ?_) (fun h => absurd (decide_eq_true rfl) h)
      refine ⟨_, rfl, a, _, dx, _, _, rfl, ha, G.cEnded.cl, G.cEnded.no _ (by decide +kernel), lEnded_sign, _, rfl, b, _, dy, _, _, rfl, hb, G.cEnded.cl, G.cEnded.no _ (by decide +kernel), lEnded_sign, k1, _, rfl, ?_⟩
      refine ite2 (fun _ => ?_) (fun h => absurd (decide_eq_true rfl) h)
      refine ⟨_, rfl, a, _, dx, _, _, rfl, ha, G.cEnded.cl, G.cEnded.no _ (by decide +kernel), lEnded_least, _, rfl, b, _, dy, _, _, rfl, hb, G.cEnded.cl, G.cEnded.no _ (by decide +kernel), lEnded_least, k2, _, rfl, ?_⟩
      refine ite2 (fun _ => ?_) (fun h => absurd (decide_eq_true rfl) h)
      refine ⟨_, rfl, a, _, dx, _, _, rfl, ha, G.cEnded.cl, G.cEnded.no _ (by decide +kernel), lEnded_most, _, rfl, b, _, dy, _, _, rfl, hb, G.cEnded.cl, G.cEnded.no _ (by decide +kernel), lEnded_most, k3, ?_⟩
      rw [decide_eq_true rfl]
      exact q
    · exact ⟨_, rfl, _, rfl, .inl ⟨a, _, dx, _, rfl, ha, _, rfl, _, rfl, .inr ⟨_, .tup hb, _, rfl, .inr ⟨_, rfl, _, rfl, iteF q⟩⟩⟩⟩


abbrev s_Listed_eq : Stmt := inClass (top 28) 1
theorem sc_Listed_eq : FnScope ["self", "other"] ["self", "other"] (defScope s_Listed_eq) := ⟨rfl, rfl, rfl, by decide +kernel, rfl, by decide +kernel, by decide +kernel⟩

theorem ok_Listed_eq (F : FunD K "__eq__" "Listed.__eq__" (defArgs s_Listed_eq) (defBody s_Listed_eq) (defScope s_Listed_eq) [] [] f fd) (G : G4 P w K mg base) : FnOk P w K mg base CX0 1 f fd ["self", "other"] (spEqListed K) := by
  refine F.ok (CX := CX0) sc_Listed_eq (fun vs H Q E h => ?_) (fun cdv A outer s H vs Q E hr h => ?_)
  · obtain ⟨a, u, x, rfl, _⟩ := h
    rfl
  · refine ⟨_, PSs.nox (pss_one (ps_ret (pe_and (pe_cmpR op_isA (pe_callTy call_tyA (by rfl) G.type (by decide +kernel) (pa_cons (pv 0) pa_nil)) (pe_callTy call_tyA (by rfl) G.type (by decide +kernel) (pa_cons (pv 1) pa_nil)) (nomark _)) (pe_one (pe_cmpR (op_eqD hr.units) (pe_fld (pv 0) rfl) (pe_fld (pv 1) rfl) (nomark _)))))), ?_⟩
    obtain ⟨a, u, x, rfl, ⟨dx, t, ha, ht⟩, hin, hd, h⟩ := h
    obtain ⟨hf, hsh⟩ := lM_shaped x hin hd
    rcases h with ⟨b, rfl, ⟨dy, t2, hb, ht2⟩, q⟩ | ⟨b, xs, rfl, hb, q⟩
    · refine ⟨_, rfl, _, rfl, .inl ⟨a, _, dx, _, rfl, ha, _, rfl, _, rfl, .inl ⟨b, _, dy, _, rfl, hb, _, rfl, .inl ⟨_, rfl, .inl rfl, _, rfl, ?_⟩⟩⟩⟩
      refine ite2 (fun _ => ?_) (fun h => absurd (decide_eq_true rfl) h)
      refine ⟨_, rfl, a, _, dx, _, _, rfl, ha, G.cListed.cl, G.cListed.no _ (by decide +kernel), lListed_texts, _, rfl, b, _, dy, _, _, rfl, hb, G.cListed.cl, G.cListed.no _ (by decide +kernel), lListed_texts, _, _, .tup ht.sq (dpAll_flat hf), .tup ht2.sq (dpAll_flat hf), hsh, hsh, ?_⟩
      rw [eqv_same hsh]
      exact q
    · exact ⟨_, rfl, _, rfl, .inl ⟨a, _, dx, _, rfl, ha, _, rfl, _, rfl, .inr ⟨_, .tup hb, _, rfl, .inr ⟨_, rfl, _, rfl, iteF q⟩⟩⟩⟩


/-- has_sign and == of each class -/
structure HM (P : Program) (w : World) (K : Frag) (mg : Str → Option Value) (base : Heap) (k : Nat) (C : Addr) (m : Str) (ps : List Str) (sp : Sp) : Prop where
  me : Meth K C m (He.ma K C m)
  ok : ∃ fd, FnOk P w K mg base CX0 k (He.ma K C m) fd ps sp ∧ Binds K fd ps []
structure EQ (P : Program) (w : World) (K : Frag) (mg : Str → Option Value) (base : Heap) (C : Addr) (sp : Sp) : Prop where
  ok : ∃ fd, FnOk P w K mg base CX0 1 (He.ma K C "__eq__") fd ["self", "other"] sp ∧ Binds K fd ["self", "other"] []
structure G5 (P : Program) (w : World) (K : Frag) (mg : Str → Option Value) (base : Heap) : Prop extends G4 P w K mg base where
  hWord : HM P w K mg base 2 (ca K 0) "has_sign" ["self", "sign"] (spHasWord K)
  eWord : EQ P w K mg base (ca K 0) (spEqWord K)
  hNumber : HM P w K mg base 2 (ca K 1) "has_sign" ["self", "sign"] (spHasNumber K)
  eNumber : EQ P w K mg base (ca K 1) (spEqNumber K)
  hFixed : HM P w K mg base 2 (ca K 2) "has_sign" ["self", "sign"] (spHasFixed K)
  eFixed : EQ P w K mg base (ca K 2) (spEqFixed K)
  hListed : HM P w K mg base 2 (ca K 3) "has_sign" ["self", "sign"] (spHasListed K)
  eListed : EQ P w K mg base (ca K 3) (spEqListed K)
  hEnded : HM P w K mg base 2 (ca K 4) "has_sign" ["self", "sign"] (spHasEnded K)
  eEnded : EQ P w K mg base (ca K 4) (spEqEnded K)
theorem G5.has (G : G5 P w K mg base) {H : Hp} {y : Addr} : ∀ {d : PD}, FieldAt K H y d → d.In → d.due = none → ∃ sp, HM P w K mg base 2 (ca K d.ci) "has_sign" ["self", "sign"] sp ∧
    ∀ c Q E, (∀ H', Same H H' → Q (.bl (d.has ⟨#[c]⟩)) H') → sp [.ref y, .str ⟨#[c]⟩] H Q E
  | .word s l m, h, i, u => ⟨_, G.hWord, fun c Q E q => ⟨y, c, s, l, m, rfl, h, i, u, q⟩⟩
  | .number l m, h, i, u => ⟨_, G.hNumber, fun c Q E q => ⟨y, c, l, m, rfl, h, i, u, q⟩⟩
  | .fixed v, h, i, u => ⟨_, G.hFixed, fun c Q E q => ⟨y, c, v, rfl, h, i, u, q⟩⟩
  | .listed x, h, i, u => ⟨_, G.hListed, fun c Q E q => ⟨y, c, x, rfl, h, i, u, q⟩⟩
  | .ended s e l m, h, i, u => ⟨_, G.hEnded, fun c Q E q => ⟨y, c, s, e, l, m, rfl, h, i, u, q⟩⟩
theorem G5.eqs (G : G5 P w K mg base) {H : Hp} {y : Addr} : ∀ {d : PD}, FieldAt K H y d → d.In → d.due = none → ∃ sp, EQ P w K mg base (ca K d.ci) sp ∧
    ∀ u Q E, ((∃ b, u = .ref b ∧ FieldAt K H b d ∧ Q (.bl true) H) ∨ (∃ b xs, u = .ref b ∧ H b = some (.tup xs) ∧ Q (.bl false) H)) → sp [.ref y, u] H Q E
  | .word s l m, h, i, u => ⟨_, G.eWord, fun v Q E q => ⟨y, v, s, l, m, rfl, h, i, u, q⟩⟩
  | .number l m, h, i, u => ⟨_, G.eNumber, fun v Q E q => ⟨y, v, l, m, rfl, h, i, u, q⟩⟩
  | .fixed z, h, i, u => ⟨_, G.eFixed, fun v Q E q => ⟨y, v, z, rfl, h, i, u, q⟩⟩
  | .listed x, h, i, u => ⟨_, G.eListed, fun v Q E q => ⟨y, v, x, rfl, h, i, u, q⟩⟩
  | .ended s e l m, h, i, u => ⟨_, G.eEnded, fun v Q E q => ⟨y, v, s, e, l, m, rfl, h, i, u, q⟩⟩
/-- what is handed in as the field of a marked one -/
def IVAt (K : Frag) (H : Hp) (fv : V) : OD → Prop
  | .val u => fv = u ∧ (u = .non ∨ u = .str "word")
  | .pl d => ∃ y, fv = .ref y ∧ FieldAt K H y d ∧ d.In ∧ d.due = none
  | .mk .. => ∃ y dx fs, fv = .ref y ∧ H y = some (.ins (ca K 5) dx fs)
theorem kit5 (G : G4 P w K mg base) : ∀ i, i < 6 → kitAny K (.ref (ca K i)) [.ref (ca K 0), .ref (ca K 1), .ref (ca K 2), .ref (ca K 3), .ref (ca K 4)] = some (decide (i < 5))
  | 0, h => by
    have k := fun j (hj : j < 6) => G.kit 0 j h hj
    exact kitAny_cons (b := true) (k 0 (by decide)) (fun z => nomatch z) (fun _ => rfl)
  | 1, h => by
    have k := fun j (hj : j < 6) => G.kit 1 j h hj
    exact kitAny_cons (b := false) (k 0 (by decide)) (fun _ => kitAny_cons (b := true) (k 1 (by decide)) (fun z => nomatch z) (fun _ => rfl)) (fun z => nomatch z)
  | 2, h => by
    have k := fun j (hj : j < 6) => G.kit 2 j h hj
    exact kitAny_cons (b := false) (k 0 (by decide)) (fun _ => kitAny_cons (b := false) (k 1 (by decide)) (fun _ => kitAny_cons (b := true) (k 2 (by decide)) (fun z => nomatch z) (fun _ => rfl)) (fun z => nomatch z)) (fun z => nomatch z)
  | 3, h => by
    have k := fun j (hj : j < 6) => G.kit 3 j h hj
    exact kitAny_cons (b := false) (k 0 (by decide)) (fun _ => kitAny_cons (b := false) (k 1 (by decide)) (fun _ => kitAny_cons (b := false) (k 2 (by decide)) (fun _ => kitAny_cons (b := true) (k 3 (by decide)) (fun z => nomatch z) (fun _ => rfl)) (fun z => nomatch z)) (fun z => nomatch z)) (fun z => nomatch z)
  | 4, h => by
    have k := fun j (hj : j < 6) => G.kit 4 j h hj
    exact kitAny_cons (b := false) (k 0 (by decide)) (fun _ => kitAny_cons (b := false) (k 1 (by decide)) (fun _ => kitAny_cons (b := false) (k 2 (by decide)) (fun _ => kitAny_cons (b := false) (k 3 (by decide)) (fun _ => kitAny_cons (b := true) (k 4 (by decide)) (fun z => nomatch z) (fun _ => rfl)) (fun z => nomatch z)) (fun z => nomatch z)) (fun z => nomatch z)) (fun z => nomatch z)
  | 5, h => by
    have k := fun j (hj : j < 6) => G.kit 5 j h hj
    exact kitAny_cons (b := false) (k 0 (by decide)) (fun _ => kitAny_cons (b := false) (k 1 (by decide)) (fun _ => kitAny_cons (b := false) (k 2 (by decide)) (fun _ => kitAny_cons (b := false) (k 3 (by decide)) (fun _ => kitAny_cons (b := false) (k 4 (by decide)) (fun _ => kitAny_nil) (fun z => nomatch z)) (fun z => nomatch z)) (fun z => nomatch z)) (fun z => nomatch z)) (fun z => nomatch z)
  | n + 6, h => absurd h (by omega)
theorem kit5N (G : G4 P w K mg base) : kitAny K (.type "NoneType") [.ref (ca K 0), .ref (ca K 1), .ref (ca K 2), .ref (ca K 3), .ref (ca K 4)] = some false := by
  have k := G.kitN
  exact kitAny_cons (b := false) (k 0 (by decide)) (fun _ => kitAny_cons (b := false) (k 1 (by decide)) (fun _ => kitAny_cons (b := false) (k 2 (by decide)) (fun _ => kitAny_cons (b := false) (k 3 (by decide)) (fun _ => kitAny_cons (b := false) (k 4 (by decide)) (fun _ => kitAny_nil) (fun z => nomatch z)) (fun z => nomatch z)) (fun z => nomatch z)) (fun z => nomatch z)) (fun z => nomatch z)
theorem kit5S (G : G4 P w K mg base) : kitAny K (.type "str") [.ref (ca K 0), .ref (ca K 1), .ref (ca K 2), .ref (ca K 3), .ref (ca K 4)] = some false := by
  have k := G.kitS
  exact kitAny_cons (b := false) (k 0 (by decide)) (fun _ => kitAny_cons (b := false) (k 1 (by decide)) (fun _ => kitAny_cons (b := false) (k 2 (by decide)) (fun _ => kitAny_cons (b := false) (k 3 (by decide)) (fun _ => kitAny_cons (b := false) (k 4 (by decide)) (fun _ => kitAny_nil) (fun z => nomatch z)) (fun z => nomatch z)) (fun z => nomatch z)) (fun z => nomatch z)) (fun z => nomatch z)
def spMarked (K : Frag) : Sp := fun vs H Q E => ∃ (a dx : Addr) (n m fv : V) (i : OD), vs = [.ref a, n, m, fv] ∧ H a = some (.ins (ca K 5) dx []) ∧ n ∈ mQ ∧ m ∈ mQ ∧ IVAt K H fv i ∧
  (OD.due (.mk n m i) = none → ∀ H2, Same H H2 → Q .non (upd H2 a (.ins (ca K 5) dx (fMarked n m fv)))) ∧ ∀ z, OD.due (.mk n m i) = some z → RaiseE (BF K) "what" (.str z) H E

abbrev s_Marked_init : Stmt := inClass (top 30) 0
theorem sc_Marked_init : FnScope ["self", "none", "mark", "field"] ["self", "none", "mark", "field"] (defScope s_Marked_init) := ⟨rfl, rfl, rfl, by decide +kernel, rfl, by decide +kernel, by decide +kernel⟩

theorem ok_Marked_init (F : FunD K "__init__" "Marked.__init__" (defArgs s_Marked_init) (defBody s_Marked_init) (defScope s_Marked_init) [] [] f fd) (G : G5 P w K mg base) : FnOk P w K mg base (L2.CX P w) 4 f fd ["self", "none", "mark", "field"] (spMarked K) := by
  refine F.ok (CX := (L2.CX P w)) sc_Marked_init (fun vs H Q E h => ?_) (fun cdv A outer s H vs Q E hr h => ?_)
  · obtain ⟨a, dx, n, m, fv, i, rfl, _⟩ := h
    rfl
  · have hr3 : Room 3 _ := hr
    have hr2 : Room 2 _ := hr.mono (by decide)
    refine ⟨_, (pss_cons (ps_if (pt_not (pt_val (pe_fn G.is_sign (hr2.mono (by decide)) pass0 (by rfl) (pa_cons (pv 1) pa_nil))))
      (pss_one (ps_raise rfl (takes_of rfl rfl rfl rfl) (pmk_1 G.bf hr2 (by rfl) (pa_cons pe_str pa_nil))))
      pss_nil)
    (pss_cons (ps_if (PW.pt (pw_or (pt_not (pt_val (pe_fn G.is_sign (hr2.mono (by decide)) pass0 (by rfl) (pa_cons (pv 2) pa_nil)))) (pw_or1 (pt_cmpR op_eq (pv 2) (pv 1) (nomark _)))))
      (pss_one (ps_raise rfl (takes_of rfl rfl rfl rfl) (pmk_1 G.bf hr2 (by rfl) (pa_cons pe_str pa_nil))))
      pss_nil)
    (pss_cons (ps_if (pt_not (pt_val (pe_callB call_ieT (by rfl) G.isinstance (by decide +kernel) (pa_cons (pv 3) (pa_cons (pe_tupS (pa_cons (pe_gref (by rfl) G.cWord.mgC) (pa_cons (pe_gref (by rfl) G.cNumber.mgC) (pa_cons (pe_gref (by rfl) G.cFixed.mgC) (pa_cons (pe_gref (by rfl) G.cListed.mgC) (pa_cons (pe_gref (by rfl) G.cEnded.mgC) pa_nil)))))) pa_nil)))))
      (pss_one (ps_raise rfl (takes_of rfl rfl rfl rfl) (pmk_1 G.bf hr2 (by rfl) (pa_cons pe_str pa_nil))))
      pss_nil)
    (pss_cons (ps_if (PW.pt (pw_or (pt_val (pe_methD (CX := CX0) (pv 3) pass0 (pa_cons (pv 1) pa_nil))) (pw_or1 (pt_val (pe_methD (CX := CX0) (pv 3) pass0 (pa_cons (pv 2) pa_nil))))))
      (pss_one (ps_raise rfl (takes_of rfl rfl rfl rfl) (pmk_1 G.bf hr2 (by rfl) (pa_cons pe_str pa_nil))))
      pss_nil)
    (pss_cons (ps_fld (pv 0) (pv 1) rfl)
    (pss_cons (ps_fld (pv 0) (pv 2) rfl)
    (pss_one (ps_fld (pv 0) (pv 3) rfl)))))))), ?_⟩
    obtain ⟨a, dx, n, m, fv, i, rfl, ha, hn, hm, hI, q1, q2⟩ := h
    refine ⟨_, rfl, n, rfl, mQ_vM hn, _, rfl, ?_⟩
    show if (!isSignB n) = true then _ else _
    refine ite2 (fun h1 => mkO_1 (q2 _ (by show (if (!isSignB n) = true then _ else _) = _; rw [if_pos h1]))) (fun h1 => ?_)
    have e1 : OD.due (.mk n m i) = if (!isSignB m || decide (m = n)) = true then (some "mark" : Option Str) else iDue n m i := by show (if (!isSignB n) = true then _ else _) = _; rw [if_neg h1]
    rw [e1] at q1 q2
    have h1' : isSignB n = true := by cases z : isSignB n with | true => rfl | false => exact absurd (by rw [z]; rfl) h1
    obtain ⟨en, cn⟩ := mQ_one n hn h1'
    refine ⟨_, rfl, m, rfl, mQ_vM hm, _, rfl, ?_⟩
    show if (!isSignB m) = true then _ else _
    refine ite2 (fun h2 => mkO_1 (q2 _ (by rw [h2]; rfl))) (fun h2 => ?_)
    have h2' : isSignB m = true := by cases z : isSignB m with | true => rfl | false => exact absurd (by rw [z]; rfl) h2
    obtain ⟨em, cm⟩ := mQ_one m hm h2'
    refine ⟨_, rfl, _, rfl, (by rw [en, em]; rfl), _, rfl, ?_⟩
    refine ite2 (fun h3 => mkO_1 (q2 _ (by rw [h3, Bool.or_true]; rfl))) (fun h3 => ?_)
    rw [h2', Bool.eq_false_iff.mpr h3] at q1 q2
    replace q1 : iDue n m i = none → ∀ H2, Same H H2 → Q .non (upd H2 a (.ins (ca K 5) dx (fMarked n m fv))) := q1
    replace q2 : ∀ z, iDue n m i = some z → RaiseE (BF K) "what" (.str z) H E := q2
    clear e1
    cases i with
    | val u =>
      obtain ⟨rfl, rfl | rfl⟩ := hI
      · refine ⟨_, rfl, by show 5 ≤ 1000; decide, fun p0 H0 hp0 S0 e0 => ⟨_, p0, _, _, _, false, rfl, e0, .cons (.own _) (.cons (.own _) (.cons (.own _) (.cons (.own _) (.cons (.own _) Paired.nil)))), .x (.base .non), (kit5N G.toG4), _, rfl, iteT (mkO_1 (raise_mono S0 (q2 _ rfl)))⟩⟩
      · refine ⟨_, rfl, by show 5 ≤ 1000; decide, fun p0 H0 hp0 S0 e0 => ⟨_, p0, _, _, _, false, rfl, e0, .cons (.own _) (.cons (.own _) (.cons (.own _) (.cons (.own _) (.cons (.own _) Paired.nil)))), .x (.base (.str _)), (kit5S G.toG4), _, rfl, iteT (mkO_1 (raise_mono S0 (q2 _ rfl)))⟩⟩
    | mk n2 m2 i2 =>
      obtain ⟨y, dy, fs, rfl, hy⟩ := hI
      refine ⟨_, rfl, by show 5 ≤ 1000; decide, fun p0 H0 hp0 S0 e0 => ⟨_, p0, _, _, _, false, rfl, e0, .cons (.own _) (.cons (.own _) (.cons (.own _) (.cons (.own _) (.cons (.own _) Paired.nil)))), G.ty (i := 5) (by decide) (S0 _ _ hy), (kit5 G.toG4 5 (by decide)), _, rfl, iteT (mkO_1 (raise_mono S0 (q2 _ rfl)))⟩⟩
    | pl d =>
      obtain ⟨y, rfl, hy, hin, hd⟩ := hI
      have eD : iDue n m (.pl d) = if (d.has ⟨#[(strV n).cps.getD 0 0]⟩ || d.has ⟨#[(strV m).cps.getD 0 0]⟩) = true then (some "field" : Option Str) else none := by
        have e1 : strV n = ⟨#[(strV n).cps.getD 0 0]⟩ := congrArg strV en
        have e2 : strV m = ⟨#[(strV m).cps.getD 0 0]⟩ := congrArg strV em
        rw [← e1, ← e2]
        rfl
      rw [eD] at q1 q2
      obtain ⟨dy, fs, hi, lf⟩ := hy.ins
      refine ⟨_, rfl, by show 5 ≤ 1000; decide, fun p0 H0 hp0 S0 e0 => ⟨_, p0, _, _, _, true, rfl, e0, .cons (.own _) (.cons (.own _) (.cons (.own _) (.cons (.own _) (.cons (.own _) Paired.nil)))), G.ty (Nat.lt_of_lt_of_le d.ci_lt (by decide)) (S0 _ _ hi), ((kit5 G.toG4 d.ci (Nat.lt_of_lt_of_le d.ci_lt (by decide))).trans (congrArg some (decide_eq_true d.ci_lt))), _, rfl, iteF ?_⟩⟩
      obtain ⟨sp, M, Hs⟩ := G.has (hy.same S0) hin hd
      obtain ⟨fdh, Fh, Bh⟩ := M.ok
      refine ⟨_, rfl, y, _, dy, _, fs, 2, fdh, _, sp, rfl, S0 _ _ hi, lf, G.cl _ (Nat.lt_of_lt_of_le d.ci_lt (by decide)), M.me, Fh, hr2, Bh, _, rfl, ?_⟩
      show sp [.ref y, n] H0 _ _
      rw [en]
      refine Hs _ _ _ fun H1 S1 => ⟨_, rfl, ?_⟩
      have S1' := S0.trans S1
      refine ite2 (fun h4 => mkO_1 (raise_mono S1' (q2 _ (by rw [h4]; rfl)))) (fun h4 => ?_)
      obtain ⟨sp2, M2, Hs2⟩ := G.has (hy.same S1') hin hd
      obtain ⟨fdh2, Fh2, Bh2⟩ := M2.ok
      refine ⟨_, rfl, y, _, dy, _, fs, 2, fdh2, _, sp2, rfl, S1' _ _ hi, lf, G.cl _ (Nat.lt_of_lt_of_le d.ci_lt (by decide)), M2.me, Fh2, hr2, Bh2, _, rfl, ?_⟩
      show sp2 [.ref y, m] H1 _ _
      rw [em]
      refine Hs2 _ _ _ fun H2 S2 => ⟨_, rfl, ?_⟩
      have S2' := S1'.trans S2
      refine ite2 (fun h5 => mkO_1 (raise_mono S2' (q2 _ (by rw [h5, Bool.or_true]; rfl)))) (fun h5 => ?_)
      have z := q1 (by rw [Bool.eq_false_iff.mpr h4, Bool.eq_false_iff.mpr h5]; rfl) H2 S2'
      rw [← en, ← em]
      have ha := S2' _ _ ha
      refine ⟨_, rfl, _, rfl, a, _, dx, _, rfl, ha, G.cMarked.cl, G.cMarked.no _ (by decide +kernel), (by show 0 < 1000; decide), _, rfl, _, rfl, a, _, dx, _, rfl, upd_same, G.cMarked.cl, G.cMarked.no _ (by decide +kernel), (by show 1 < 1000; decide), _, rfl, _, rfl, a, _, dx, _, rfl, upd_same, G.cMarked.cl, G.cMarked.no _ (by decide +kernel), (by show 2 < 1000; decide), ?_⟩
      show Q .non _
      rw [upd_upd, upd_upd]
      exact z

/-- a marked field -/
def MkAt (K : Frag) (H : Hp) (a : Addr) (n m : V) (d : PD) : Prop := ∃ dx y, H a = some (.ins (ca K 5) dx (fMarked n m (.ref y))) ∧ FieldAt K H y d
def spEqMarked (K : Frag) : Sp := fun vs H Q _ => ∃ (a : Addr) (u n m : V) (d : PD), vs = [.ref a, u] ∧ MkAt K H a n m d ∧ d.In ∧ d.due = none ∧ scal n n = true ∧ scal m m = true ∧
  ((∃ b, u = .ref b ∧ MkAt K H b n m d ∧ Q (.bl true) H) ∨ (∃ b xs, u = .ref b ∧ H b = some (.tup xs) ∧ Q (.bl false) H))

abbrev s_Marked_eq : Stmt := inClass (top 30) 1
theorem sc_Marked_eq : FnScope ["self", "other"] ["self", "other"] (defScope s_Marked_eq) := ⟨rfl, rfl, rfl, by decide +kernel, rfl, by decide +kernel, by decide +kernel⟩

theorem ok_Marked_eq (F : FunD K "__eq__" "Marked.__eq__" (defArgs s_Marked_eq) (defBody s_Marked_eq) (defScope s_Marked_eq) [] [] f fd) (G : G5 P w K mg base) : FnOk P w K mg base CX0 2 f fd ["self", "other"] (spEqMarked K) := by
  refine F.ok (CX := CX0) sc_Marked_eq (fun vs H Q E h => ?_) (fun cdv A outer s H vs Q E hr h => ?_)
  · obtain ⟨a, u, n, m, d, rfl, _⟩ := h
    rfl
  · refine ⟨_, PSs.nox (pss_one (ps_ret (pe_and (pe_cmpR op_isA (pe_callTy call_tyA (by rfl) G.type (by decide +kernel) (pa_cons (pv 0) pa_nil)) (pe_callTy call_tyA (by rfl) G.type (by decide +kernel) (pa_cons (pv 1) pa_nil)) (nomark _)) (pe_and (pe_cmpR op_eq (pe_fld (pv 0) rfl) (pe_fld (pv 1) rfl) (nomark _)) (pe_and (pe_cmpR op_eq (pe_fld (pv 0) rfl) (pe_fld (pv 1) rfl) (nomark _)) (pe_one (pe_cmpR (op_eqO (CX := CX0) pass0) (pe_fld (pv 0) rfl) (pe_fld (pv 1) rfl) (nomark _)))))))), ?_⟩
    obtain ⟨a, u, n, m, d, rfl, ⟨dx, y, ha, hy⟩, hin, hd, k0, k1, h⟩ := h
    rcases h with ⟨b, rfl, ⟨dy, y2, hb, hy2⟩, q⟩ | ⟨b, xs, rfl, hb, q⟩
    · refine ⟨_, rfl, _, rfl, .inl ⟨a, _, dx, _, rfl, ha, _, rfl, _, rfl, .inl ⟨b, _, dy, _, rfl, hb, _, rfl, .inl ⟨_, rfl, .inl rfl, _, rfl, ?_⟩⟩⟩⟩
      refine ite2 (fun _ => ?_) (fun h => absurd (decide_eq_true rfl) h)
      refine ⟨_, rfl, a, _, dx, _, _, rfl, ha, G.cMarked.cl, G.cMarked.no _ (by decide +kernel), lMarked_none, _, rfl, b, _, dy, _, _, rfl, hb, G.cMarked.cl, G.cMarked.no _ (by decide +kernel), lMarked_none, k0, _, rfl, ?_⟩
      refine ite2 (fun _ => ?_) (fun h => absurd (decide_eq_true rfl) h)
      refine ⟨_, rfl, a, _, dx, _, _, rfl, ha, G.cMarked.cl, G.cMarked.no _ (by decide +kernel), lMarked_mark, _, rfl, b, _, dy, _, _, rfl, hb, G.cMarked.cl, G.cMarked.no _ (by decide +kernel), lMarked_mark, k1, _, rfl, ?_⟩
      refine ite2 (fun _ => ?_) (fun h => absurd (decide_eq_true rfl) h)
      obtain ⟨ey, fs, hi, _⟩ := hy.ins
      obtain ⟨ey2, fs2, hi2, _⟩ := hy2.ins
      have h6 := Nat.lt_of_lt_of_le d.ci_lt (by decide : 5 ≤ 6)
      obtain ⟨sp, M, Hs⟩ := G.eqs hy hin hd
      obtain ⟨fde, Fe, Be⟩ := M.ok
      refine ⟨_, rfl, a, _, dx, _, _, rfl, ha, G.cMarked.cl, G.cMarked.no _ (by decide +kernel), lMarked_field, _, rfl, b, _, dy, _, _, rfl, hb, G.cMarked.cl, G.cMarked.no _ (by decide +kernel), lMarked_field, y, ca K d.ci, ey, fs, .ref (ca K d.ci), rfl, hi, (G.kc _ h6).eq, G.ty h6 hi2, ?_, 1, fde, _, sp, (G.kc _ h6).ke, Fe, hr, Be, Hs _ _ _ (.inl ⟨y2, rfl, hy2, true, rfl, q⟩)⟩
      unfold notFirst
      rw [beq_self_eq_true]
      rfl
    · exact ⟨_, rfl, _, rfl, .inl ⟨a, _, dx, _, rfl, ha, _, rfl, _, rfl, .inr ⟨_, .tup hb, _, rfl, .inr ⟨_, rfl, _, rfl, iteF q⟩⟩⟩⟩


end
end L2.K76

set_option Elab.async false
set_option linter.all false
set_option maxRecDepth 100000
set_option maxHeartbeats 4000000
/-! The methods of the field classes. -/
namespace L2.K76
open PySem PySem.W PySem.Spec PySem.Calls PyProof.Rows L2.Jk
def withinB (l m : V) (n : Int) : Bool := decide (intV l ≤ n) && (decide (m = .non) || decide (n ≤ intV m))
def wordB (s l m : V) : V → Bool
  | .str z => madeB z (strV s) && withinB l m z.length
  | _ => false
def numeralB (t : Str) : Bool := if (decide (V.str t = .str "") || !madeB t DG) = true then false else decide (V.str t = .str "0") || !decide (V.str ⟨#[t.cps.getD 0 0]⟩ = .str "0")
def numTx (t : Str) : Str := ("0" : Str) ++ cutS t none (some ((t.length : Int) % 64))
def numOf (t : Str) : Int := (PySem.intText? (numTx t)).getD 0
def numOk (t : Str) : Bool := (PySem.intText? (numTx t)).isSome && (decide (t.length < 64) && (decide ((numTx t).length ≤ 640) && decide (("0" : Str).length + (cutS t none (some ((t.length : Int) % 64))).length ≤ 640)))
def great (w : V) : Int := numOf (repS "9" (intV w))
def greatOk (w : V) : Bool := numOk (repS "9" (intV w)) && repOk "9" (intV w)
theorem wM_gr : ∀ k ∈ List.range 60, 1 ≤ k → greatOk (.int (k : Nat)) = true ∧ PadOk (k : Nat) = true := by decide +kernel
theorem wM_great (w : V) (h : w ∈ wM) : greatOk w = true ∧ w = .int (intV w) ∧ PadOk (intV w) = true ∧ 0 ≤ intV w ∧ intV w < 100 := by
  obtain ⟨i, rfl, h1, h2⟩ := h
  obtain ⟨k, rfl⟩ : ∃ k : Nat, i = (k : Int) := ⟨i.toNat, by omega⟩
  obtain ⟨g1, g2⟩ := wM_gr k (List.mem_range.mpr (by omega)) (by omega)
  exact ⟨g1, rfl, g2, by show (0 : Int) ≤ (k : Int); omega, by show (k : Int) < 100; omega⟩
theorem rg64 : ∀ k ∈ List.range 64, Builtin.Range.small (k : Nat) (k : Nat) 64 = true ∧ Builtin.Range.rangeSize (k : Nat) (k : Nat) 64 = 0 := by decide +kernel
def spWithin (K : Frag) : Sp := fun vs H Q _ => ∃ (a C dx : Addr) (fs : List (Str × V)) (l m : V) (n : Int), vs = [.ref a, .int n] ∧ H a = some (.ins C dx fs) ∧ Cls K C ∧ NoAttr K C "least" ∧ NoAttr K C "most" ∧ fs.lookup ("least" : Str) = some l ∧ fs.lookup ("most" : Str) = some m ∧
  l = .int (intV l) ∧ (m = .non ∨ m = .int (intV m)) ∧ Q (.bl (withinB l m n)) H
def spWordOf (K : Frag) : Sp := fun vs H Q _ => ∃ (a C dx : Addr) (fs : List (Str × V)) (s l m v : V), vs = [.ref a, v] ∧ H a = some (.ins C dx fs) ∧ Cls K C ∧ NoAttr K C "signs" ∧ NoAttr K C "least" ∧ NoAttr K C "most" ∧ fs.lookup ("signs" : Str) = some s ∧ fs.lookup ("least" : Str) = some l ∧ fs.lookup ("most" : Str) = some m ∧
  s = .str (strV s) ∧ l = .int (intV l) ∧ (m = .non ∨ m = .int (intV m)) ∧ Thg H v ∧ lenV v ≤ 900 ∧ Q (.bl (wordB s l m v)) H
def spNumeral : Sp := fun vs H Q _ => ∃ t : Str, vs = [.str t] ∧ t.length ≤ 900 ∧ Q (.bl (numeralB t)) H
def spNumOf : Sp := fun vs H Q _ => ∃ t : Str, vs = [.str t] ∧ numOk t = true ∧ Q (.int (numOf t)) H
def spGreat : Sp := fun vs H Q _ => ∃ w : V, vs = [w] ∧ w ∈ wM ∧ Q (.int (great w)) H
section
variable {P : Program} {w : World} {K : Frag} {mg : Str → Option Value} {base : Heap} {f : Addr} {fd : FuncData}

abbrev s_is_within : Stmt := top 22
theorem sc_is_within : FnScope ["field", "amount"] ["field", "amount"] (defScope s_is_within) := ⟨rfl, rfl, rfl, by decide +kernel, rfl, by decide +kernel, by decide +kernel⟩

theorem ok_is_within (F : FunD K "is_within" "is_within" (defArgs s_is_within) (defBody s_is_within) (defScope s_is_within) [] [] f fd) (G : G0 P w K mg base) : FnOk P w K mg base CX0 1 f fd ["field", "amount"] (spWithin K) := by
  refine F.ok (CX := CX0) sc_is_within (fun vs H Q E h => ?_) (fun cdv A outer s H vs Q E hr h => ?_)
  · obtain ⟨a, C, dx, fs, l, m, n, rfl, _⟩ := h
    rfl
  · refine ⟨_, PSs.nox (pss_one (ps_ret (pe_and (pe_cmpR op_le (pe_fld (pv 0) rfl) (pv 1) (nomark _)) (pe_one (pe_or (pe_cmpR op_isN (pe_fld (pv 0) rfl) pe_non (nomark _)) (pe_one (pe_cmpR op_le (pv 1) (pe_fld (pv 0) rfl) (nomark _)))))))), ?_⟩
    obtain ⟨a, C, dx, fs, l, m, n, rfl, ha, hC, n1, n2, l1, l2, el, em, q⟩ := h
    refine ⟨_, rfl, a, C, dx, fs, _, rfl, ha, hC, n1, l1, _, rfl, intV l, n, el, rfl, _, rfl, ?_⟩
    refine ite2 (fun h1 => ?_) (fun h1 => ?_)
    · refine ⟨_, rfl, a, C, dx, fs, _, rfl, ha, hC, n2, l2, rfl, _, rfl, ?_⟩
      have e1 : withinB l m n = (decide (m = .non) || decide (n ≤ intV m)) := by unfold withinB; rw [h1]; rfl
      rw [e1] at q
      refine ite2 (fun h2 => ?_) (fun h2 => ?_)
      · rw [h2] at q
        exact q
      · rcases em with em | em
        · exact absurd (decide_eq_true em) h2
        refine ⟨_, rfl, _, rfl, a, C, dx, fs, _, rfl, ha, hC, n2, l2, n, intV m, rfl, em, ?_⟩
        rw [Bool.eq_false_iff.mpr h2] at q
        exact q
    · have e1 : withinB l m n = false := by unfold withinB; rw [Bool.eq_false_iff.mpr h1]; rfl
      rw [e1] at q
      exact q

abbrev s_number_of : Stmt := top 17
theorem sc_number_of : FnScope ["digits", "limit", "start", "number", "at"] ["digits"] (defScope s_number_of) := ⟨rfl, rfl, rfl, by decide +kernel, rfl, by decide +kernel, by decide +kernel⟩

theorem ok_number_of (F : FunD K "number_of" "number_of" (defArgs s_number_of) (defBody s_number_of) (defScope s_number_of) [] [] f fd) (G : G0 P w K mg base) : FnOk P w K mg base CX0 1 f fd ["digits"] spNumOf := by
  refine F.ok (CX := CX0) sc_number_of (fun vs H Q E h => ?_) (fun cdv A outer s H vs Q E hr h => ?_)
  · obtain ⟨t, rfl, _⟩ := h
    rfl
  · refine ⟨_, PSs.nox (pss_cons (ps_set (i := 1) sc_number_of.nd rfl (Or.inl rfl) (pe_op op_pow pe_int pe_int))
    (pss_cons (ps_set (i := 2) sc_number_of.nd rfl (Or.inl rfl) (pe_op op_mod (pe_callB call_len_str (by rfl) G.len (by decide +kernel) (pa_cons (pv 0) pa_nil)) pe_int))
    (pss_cons (ps_set (i := 3) sc_number_of.nd rfl (Or.inl rfl) (pe_callTy call_int_str (by rfl) G.int (by decide +kernel) (pa_cons (pe_op op_add_str pe_str (pe_slice sl_str (pv 0) po_none (po_some (pv 2)))) pa_nil)))
    (pss_cons (ps_for PassesOwn.never rfl (pi_range3 (by rfl) G.range (pa_cons (pv 2) (pa_cons (pe_callB call_len_str (by rfl) G.len (by decide +kernel) (pa_cons (pv 0) pa_nil)) (pa_cons pe_int pa_nil)))) (pg_name (i := 4) sc_number_of.nd rfl (Or.inl rfl)) pss_never)
    (pss_one (ps_ret (pv 3))))))), ?_⟩
    obtain ⟨t, rfl, ok, q⟩ := h
    obtain ⟨o1, ok⟩ := Bool.and_eq_true_iff.mp ok
    obtain ⟨o2, ok⟩ := Bool.and_eq_true_iff.mp ok
    obtain ⟨o3, o4⟩ := Bool.and_eq_true_iff.mp ok
    replace o4 := of_decide_eq_true o4
    replace o2 := of_decide_eq_true o2
    replace o3 := of_decide_eq_true o3
    obtain ⟨n, en⟩ := Option.isSome_iff_exists.mp o1
    have zl := small_line t (Nat.le_trans (Nat.le_of_lt o2) (by decide))
    refine ⟨_, _, rfl, rfl, ⟨by decide, by decide, by decide⟩, _, rfl, t, rfl, zl, _, _, rfl, rfl, (by show (0 : Int) < 64; decide), ?_⟩
    refine ⟨_, rfl, _, rfl, _, rfl, t, rfl, zl, ?_⟩
    refine ⟨_, _, rfl, rfl, Nat.le_trans o4 (by rw [sizeLine_eq]; decide), numTx t, n, rfl, en, o3, ?_⟩
    have en2 : numOf t = n := by unfold numOf; rw [en]; rfl
    rw [en2] at q
    have em : (t.length : Int) % 64 = (t.length : Int) := Int.emod_eq_of_lt (by omega) (by omega)
    refine ⟨_, rfl, _, rfl, t, rfl, zl, _, _, 64, 0, rfl, ?_, ?_⟩
    · rw [em]
      obtain ⟨g1, g2⟩ := rg64 t.length (List.mem_range.mpr o2)
      exact ⟨by decide, by decide, g1, g2⟩
    · refine for_rangeC (n := 0) (fun _ σ H' => σ = [some (.str t), some (.int (10 ^ (64 : Int).toNat)), some (.int ((t.length : Int) % 64)), some (.int n), none] ∧ H' = H) ⟨rfl, rfl⟩ (fun i σ H' hi => absurd hi (Nat.not_lt_zero _)) ?_
      rintro σ H' ⟨rfl, rfl⟩
      exact ⟨_, rfl, q⟩

structure P1 (P : Program) (w : World) (K : Frag) (mg : Str → Option Value) (base : Heap) : Prop extends G5 P w K mg base where
  is_within : FnAt P w K mg base CX0 1 "is_within" ["field", "amount"] (spWithin K)
  number_of : FnAt P w K mg base CX0 1 "number_of" ["digits"] spNumOf
  is_numberT : FnAt P w K mg base CX0 1 "is_number" ["thing"] spNumT

abbrev s_greatest_of : Stmt := top 18
theorem sc_greatest_of : FnScope ["width"] ["width"] (defScope s_greatest_of) := ⟨rfl, rfl, rfl, by decide +kernel, rfl, by decide +kernel, by decide +kernel⟩

theorem ok_greatest_of (F : FunD K "greatest_of" "greatest_of" (defArgs s_greatest_of) (defBody s_greatest_of) (defScope s_greatest_of) [] [] f fd) (G : P1 P w K mg base) : FnOk P w K mg base CX0 2 f fd ["width"] spGreat := by
  refine F.ok (CX := CX0) sc_greatest_of (fun vs H Q E h => ?_) (fun cdv A outer s H vs Q E hr h => ?_)
  · obtain ⟨v, rfl, _⟩ := h
    rfl
  · refine ⟨_, PSs.nox (pss_one (ps_ret (pe_fn G.number_of hr pass0 (by rfl) (pa_cons (pe_op op_mulStr pe_str (pv 0)) pa_nil)))), ?_⟩
    obtain ⟨v, rfl, hv, q⟩ := h
    obtain ⟨g, ev, _, _, _⟩ := wM_great v hv
    obtain ⟨g1, g2⟩ := Bool.and_eq_true_iff.mp g
    exact ⟨_, rfl, "9", intV v, rfl, ev, g2, _, rfl, g1, q⟩

abbrev s_is_word_of : Stmt := top 23
theorem sc_is_word_of : FnScope ["field", "thing"] ["field", "thing"] (defScope s_is_word_of) := ⟨rfl, rfl, rfl, by decide +kernel, rfl, by decide +kernel, by decide +kernel⟩

theorem ok_is_word_of (F : FunD K "is_word_of" "is_word_of" (defArgs s_is_word_of) (defBody s_is_word_of) (defScope s_is_word_of) [] [] f fd) (G : P1 P w K mg base) : FnOk P w K mg base CX0 2 f fd ["field", "thing"] (spWordOf K) := by
  refine F.ok (CX := CX0) sc_is_word_of (fun vs H Q E h => ?_) (fun cdv A outer s H vs Q E hr h => ?_)
  · obtain ⟨a, C, dx, fs, s, l, m, v, rfl, _⟩ := h
    rfl
  · refine ⟨_, PSs.nox (pss_one (ps_ret (pe_and (pe_callB call_ie (by rfl) G.isinstance (by decide +kernel) (pa_cons (pv 1) (pa_cons (pe_bty (n := "str") (by rfl) G.str (by decide +kernel)) pa_nil))) (pe_and (pe_fn G.is_made_of hr pass0 (by rfl) (pa_cons (pv 1) (pa_cons (pe_fld (pv 0) rfl) pa_nil))) (pe_one (pe_fn G.is_within hr pass0 (by rfl) (pa_cons (pv 0) (pa_cons (pe_callB call_len_str (by rfl) G.len (by decide +kernel) (pa_cons (pv 1) pa_nil)) pa_nil)))))))), ?_⟩
    obtain ⟨a, C, dx, fs, s, l, m, v, rfl, ha, hC, n1, n2, n3, l1, l2, l3, es, el, em, hf, hz, q⟩ := h
    obtain ⟨T, ty, ks, ki, kb⟩ := thg_ty (K := K) hf
    refine ⟨_, rfl, _, _, _, _, _, rfl, .ty _, ty, kit_ty ks, _, rfl, ?_⟩
    cases v with
    | str z =>
      have hz' : z.length ≤ 900 := hz
      refine iteT ⟨_, rfl, _, rfl, a, C, dx, fs, _, rfl, ha, hC, n1, l1, z, strV s, by rw [← es]; rfl, Nat.le_trans hz' (by decide), _, rfl, ?_⟩
      have r : wordB s l m (.str z) = (madeB z (strV s) && withinB l m z.length) := rfl
      rw [r] at q
      refine ite2 (fun h1 => ?_) (fun h1 => ?_)
      · rw [h1] at q
        exact ⟨_, rfl, _, rfl, z, rfl, small_line z (Nat.le_trans hz' (by decide)), a, C, dx, fs, l, m, _, rfl, ha, hC, n2, n3, l2, l3, el, em, q⟩
      · rw [Bool.eq_false_iff.mpr h1] at q
        exact q
    | _ => exact iteF q

structure P2 (P : Program) (w : World) (K : Frag) (mg : Str → Option Value) (base : Heap) : Prop extends P1 P w K mg base where
  greatest_of : FnAt P w K mg base CX0 2 "greatest_of" ["width"] spGreat
  is_word_of : FnAt P w K mg base CX0 2 "is_word_of" ["field", "thing"] (spWordOf K)
def init1 (t : Str) : Str := cutS t none (some (-1))
def last1 (t : Str) : Str := cutS t (some (-1)) none
/-- what the methods answer -/
def PD.hasV (v : V) : PD → Bool
  | .word s l m => wordB s l m v
  | .number l m => numB v && withinB l m (intV v)
  | .fixed w => numB v && (decide (0 ≤ intV v) && decide (intV v ≤ great w))
  | .listed x => (match v with | .str _ => inV v x.els | _ => false)
  | .ended s _ l m => wordB s l m v
def PD.hasT (t : Str) : PD → Bool
  | .word s l m => wordB s l m (.str t)
  | .number l m => numeralB t && withinB l m (numOf t)
  | .fixed w => decide (V.int t.length = w) && madeB t DG
  | .listed x => inV (.str t) x.els
  | .ended s e l m => decide (V.str (last1 t) = e) && wordB s l m (.str (init1 t))
def PD.textF (v : V) : PD → Str
  | .word .. => strV v
  | .number .. => dg (intV v)
  | .fixed w => Txt.zfill (dg (intV v)) (intV w)
  | .listed _ => strV v
  | .ended _ e _ _ => strV v ++ strV e
def PD.valF (t : Str) : PD → V
  | .word .. => .str t
  | .number .. => .int (numOf t)
  | .fixed _ => .int (numOf t)
  | .listed _ => .str t
  | .ended .. => .str (init1 t)
/-- a text that may be asked for -/
def txOk (t : Str) : Bool := decide (t.length ≤ 900) && (decide ((init1 t).length ≤ 900) && (!numeralB t || numOk t))
/-- a value that may be written -/
def vaOk : V → Bool
  | .int i => decide (0 ≤ i) && decide (i < 400)
  | .str z => decide (z.length ≤ 900)
  | _ => true

def spHVWord (K : Frag) : Sp := fun vs H Q _ => ∃ (a : Addr) (v : V) (s l m : V), vs = [.ref a, v] ∧ FieldAt K H a (.word s l m) ∧ PD.In (.word s l m) ∧ PD.due (.word s l m) = none ∧ Thg H v ∧ lenV v ≤ 900 ∧ Q (.bl (PD.hasV v (.word s l m))) H
def spTFWord (K : Frag) : Sp := fun vs H Q _ => ∃ (a : Addr) (v : V) (s l m : V), vs = [.ref a, v] ∧ FieldAt K H a (.word s l m) ∧ PD.In (.word s l m) ∧ PD.due (.word s l m) = none ∧ vaOk v = true ∧ PD.hasV v (.word s l m) = true ∧ ∀ H', Same H H' → Q (.str (PD.textF v (.word s l m))) H'
def spHTWord (K : Frag) : Sp := fun vs H Q _ => ∃ (a : Addr) (t : Str) (s l m : V), vs = [.ref a, .str t] ∧ FieldAt K H a (.word s l m) ∧ PD.In (.word s l m) ∧ PD.due (.word s l m) = none ∧ txOk t = true ∧ Q (.bl (PD.hasT t (.word s l m))) H
def spVFWord (K : Frag) : Sp := fun vs H Q _ => ∃ (a : Addr) (t : Str) (s l m : V), vs = [.ref a, .str t] ∧ FieldAt K H a (.word s l m) ∧ PD.In (.word s l m) ∧ PD.due (.word s l m) = none ∧ txOk t = true ∧ PD.hasT t (.word s l m) = true ∧ numOk t = true ∧ Q (PD.valF t (.word s l m)) H
def spHVNumber (K : Frag) : Sp := fun vs H Q _ => ∃ (a : Addr) (v : V) (l m : V), vs = [.ref a, v] ∧ FieldAt K H a (.number l m) ∧ PD.In (.number l m) ∧ PD.due (.number l m) = none ∧ Thg H v ∧ lenV v ≤ 900 ∧ Q (.bl (PD.hasV v (.number l m))) H
def spTFNumber (K : Frag) : Sp := fun vs H Q _ => ∃ (a : Addr) (v : V) (l m : V), vs = [.ref a, v] ∧ FieldAt K H a (.number l m) ∧ PD.In (.number l m) ∧ PD.due (.number l m) = none ∧ vaOk v = true ∧ PD.hasV v (.number l m) = true ∧ ∀ H', Same H H' → Q (.str (PD.textF v (.number l m))) H'
def spHTNumber (K : Frag) : Sp := fun vs H Q _ => ∃ (a : Addr) (t : Str) (l m : V), vs = [.ref a, .str t] ∧ FieldAt K H a (.number l m) ∧ PD.In (.number l m) ∧ PD.due (.number l m) = none ∧ txOk t = true ∧ Q (.bl (PD.hasT t (.number l m))) H
def spVFNumber (K : Frag) : Sp := fun vs H Q _ => ∃ (a : Addr) (t : Str) (l m : V), vs = [.ref a, .str t] ∧ FieldAt K H a (.number l m) ∧ PD.In (.number l m) ∧ PD.due (.number l m) = none ∧ txOk t = true ∧ PD.hasT t (.number l m) = true ∧ numOk t = true ∧ Q (PD.valF t (.number l m)) H
def spHVFixed (K : Frag) : Sp := fun vs H Q _ => ∃ (a : Addr) (v : V) (z : V), vs = [.ref a, v] ∧ FieldAt K H a (.fixed z) ∧ PD.In (.fixed z) ∧ PD.due (.fixed z) = none ∧ Thg H v ∧ lenV v ≤ 900 ∧ Q (.bl (PD.hasV v (.fixed z))) H
def spTFFixed (K : Frag) : Sp := fun vs H Q _ => ∃ (a : Addr) (v : V) (z : V), vs = [.ref a, v] ∧ FieldAt K H a (.fixed z) ∧ PD.In (.fixed z) ∧ PD.due (.fixed z) = none ∧ vaOk v = true ∧ PD.hasV v (.fixed z) = true ∧ ∀ H', Same H H' → Q (.str (PD.textF v (.fixed z))) H'
def spHTFixed (K : Frag) : Sp := fun vs H Q _ => ∃ (a : Addr) (t : Str) (z : V), vs = [.ref a, .str t] ∧ FieldAt K H a (.fixed z) ∧ PD.In (.fixed z) ∧ PD.due (.fixed z) = none ∧ txOk t = true ∧ Q (.bl (PD.hasT t (.fixed z))) H
def spVFFixed (K : Frag) : Sp := fun vs H Q _ => ∃ (a : Addr) (t : Str) (z : V), vs = [.ref a, .str t] ∧ FieldAt K H a (.fixed z) ∧ PD.In (.fixed z) ∧ PD.due (.fixed z) = none ∧ txOk t = true ∧ PD.hasT t (.fixed z) = true ∧ numOk t = true ∧ Q (PD.valF t (.fixed z)) H
def spHVListed (K : Frag) : Sp := fun vs H Q _ => ∃ (a : Addr) (v : V) (x : LX), vs = [.ref a, v] ∧ FieldAt K H a (.listed x) ∧ PD.In (.listed x) ∧ PD.due (.listed x) = none ∧ Thg H v ∧ lenV v ≤ 900 ∧ Q (.bl (PD.hasV v (.listed x))) H
def spTFListed (K : Frag) : Sp := fun vs H Q _ => ∃ (a : Addr) (v : V) (x : LX), vs = [.ref a, v] ∧ FieldAt K H a (.listed x) ∧ PD.In (.listed x) ∧ PD.due (.listed x) = none ∧ vaOk v = true ∧ PD.hasV v (.listed x) = true ∧ ∀ H', Same H H' → Q (.str (PD.textF v (.listed x))) H'
def spHTListed (K : Frag) : Sp := fun vs H Q _ => ∃ (a : Addr) (t : Str) (x : LX), vs = [.ref a, .str t] ∧ FieldAt K H a (.listed x) ∧ PD.In (.listed x) ∧ PD.due (.listed x) = none ∧ txOk t = true ∧ Q (.bl (PD.hasT t (.listed x))) H
def spVFListed (K : Frag) : Sp := fun vs H Q _ => ∃ (a : Addr) (t : Str) (x : LX), vs = [.ref a, .str t] ∧ FieldAt K H a (.listed x) ∧ PD.In (.listed x) ∧ PD.due (.listed x) = none ∧ txOk t = true ∧ PD.hasT t (.listed x) = true ∧ numOk t = true ∧ Q (PD.valF t (.listed x)) H
def spHVEnded (K : Frag) : Sp := fun vs H Q _ => ∃ (a : Addr) (v : V) (s e l m : V), vs = [.ref a, v] ∧ FieldAt K H a (.ended s e l m) ∧ PD.In (.ended s e l m) ∧ PD.due (.ended s e l m) = none ∧ Thg H v ∧ lenV v ≤ 900 ∧ Q (.bl (PD.hasV v (.ended s e l m))) H
def spTFEnded (K : Frag) : Sp := fun vs H Q _ => ∃ (a : Addr) (v : V) (s e l m : V), vs = [.ref a, v] ∧ FieldAt K H a (.ended s e l m) ∧ PD.In (.ended s e l m) ∧ PD.due (.ended s e l m) = none ∧ vaOk v = true ∧ PD.hasV v (.ended s e l m) = true ∧ ∀ H', Same H H' → Q (.str (PD.textF v (.ended s e l m))) H'
def spHTEnded (K : Frag) : Sp := fun vs H Q _ => ∃ (a : Addr) (t : Str) (s e l m : V), vs = [.ref a, .str t] ∧ FieldAt K H a (.ended s e l m) ∧ PD.In (.ended s e l m) ∧ PD.due (.ended s e l m) = none ∧ txOk t = true ∧ Q (.bl (PD.hasT t (.ended s e l m))) H
def spVFEnded (K : Frag) : Sp := fun vs H Q _ => ∃ (a : Addr) (t : Str) (s e l m : V), vs = [.ref a, .str t] ∧ FieldAt K H a (.ended s e l m) ∧ PD.In (.ended s e l m) ∧ PD.due (.ended s e l m) = none ∧ txOk t = true ∧ PD.hasT t (.ended s e l m) = true ∧ numOk t = true ∧ Q (PD.valF t (.ended s e l m)) H
abbrev s_Word_has_value : Stmt := inClass (top 25) 2
theorem sc_Word_has_value : FnScope ["self", "thing"] ["self", "thing"] (defScope s_Word_has_value) := ⟨rfl, rfl, rfl, by decide +kernel, rfl, by decide +kernel, by decide +kernel⟩

theorem ok_Word_has_value (F : FunD K "has_value" "Word.has_value" (defArgs s_Word_has_value) (defBody s_Word_has_value) (defScope s_Word_has_value) [] [] f fd) (G : P2 P w K mg base) : FnOk P w K mg base CX0 3 f fd ["self", "thing"] (spHVWord K) := by
  refine F.ok (CX := CX0) sc_Word_has_value (fun vs H Q E h => ?_) (fun cdv A outer s H vs Q E hr h => ?_)
  · obtain ⟨a, v, s, l, m, rfl, _⟩ := h
    rfl
  · refine ⟨_, PSs.nox (pss_one (ps_ret (pe_fn G.is_word_of hr pass0 (by rfl) (pa_cons (pv 0) (pa_cons (pv 1) pa_nil))))), ?_⟩
    obtain ⟨a, v, s, l, m, rfl, hF, hin, hd, hf, hz, q⟩ := h
    obtain ⟨dx, ha⟩ := hF
    obtain ⟨hs, hl, hm⟩ := hin
    obtain ⟨es, el, em⟩ := word_all s hs l hl m hm hd
    exact ⟨_, rfl, _, rfl, a, _, dx, _, s, l, m, _, rfl, ha, G.cWord.cl, G.cWord.no _ (by decide +kernel), G.cWord.no _ (by decide +kernel), G.cWord.no _ (by decide +kernel), lWord_signs, lWord_least, lWord_most, es, el, em, hf, hz, q⟩

abbrev s_Ended_has_value : Stmt := inClass (top 29) 2
theorem sc_Ended_has_value : FnScope ["self", "thing"] ["self", "thing"] (defScope s_Ended_has_value) := ⟨rfl, rfl, rfl, by decide +kernel, rfl, by decide +kernel, by decide +kernel⟩

theorem ok_Ended_has_value (F : FunD K "has_value" "Ended.has_value" (defArgs s_Ended_has_value) (defBody s_Ended_has_value) (defScope s_Ended_has_value) [] [] f fd) (G : P2 P w K mg base) : FnOk P w K mg base CX0 3 f fd ["self", "thing"] (spHVEnded K) := by
  refine F.ok (CX := CX0) sc_Ended_has_value (fun vs H Q E h => ?_) (fun cdv A outer s H vs Q E hr h => ?_)
  · obtain ⟨a, v, s, e, l, m, rfl, _⟩ := h
    rfl
  · refine ⟨_, PSs.nox (pss_one (ps_ret (pe_fn G.is_word_of hr pass0 (by rfl) (pa_cons (pv 0) (pa_cons (pv 1) pa_nil))))), ?_⟩
    obtain ⟨a, v, s, e, l, m, rfl, hF, hin, hd, hf, hz, q⟩ := h
    obtain ⟨dx, ha⟩ := hF
    obtain ⟨hs, he, hl, hm⟩ := hin
    obtain ⟨es, ee, el, em, hel⟩ := end_all s hs e he l hl m hm hd
    exact ⟨_, rfl, _, rfl, a, _, dx, _, s, l, m, _, rfl, ha, G.cEnded.cl, G.cEnded.no _ (by decide +kernel), G.cEnded.no _ (by decide +kernel), G.cEnded.no _ (by decide +kernel), lEnded_signs, lEnded_least, lEnded_most, es, el, em, hf, hz, q⟩

abbrev s_Word_text_for : Stmt := inClass (top 25) 3
theorem sc_Word_text_for : FnScope ["self", "value"] ["self", "value"] (defScope s_Word_text_for) := ⟨rfl, rfl, rfl, by decide +kernel, rfl, by decide +kernel, by decide +kernel⟩

theorem ok_Word_text_for (F : FunD K "text_for" "Word.text_for" (defArgs s_Word_text_for) (defBody s_Word_text_for) (defScope s_Word_text_for) [] [] f fd) (G : P2 P w K mg base) : FnOk P w K mg base CX0 1 f fd ["self", "value"] (spTFWord K) := by
  refine F.ok (CX := CX0) sc_Word_text_for (fun vs H Q E h => ?_) (fun cdv A outer s H vs Q E hr h => ?_)
  · obtain ⟨a, v, s, l, m, rfl, _⟩ := h
    rfl
  · refine ⟨_, PSs.nox (pss_one (ps_ret (pv 1))), ?_⟩
    obtain ⟨a, v, s, l, m, rfl, hF, hin, hd, hv, hh, q⟩ := h
    have q0 := q _ (Same.refl _)
    cases v with
    | str z => exact ⟨_, rfl, q0⟩
    | _ => cases hh

abbrev s_Listed_text_for : Stmt := inClass (top 28) 3
theorem sc_Listed_text_for : FnScope ["self", "value"] ["self", "value"] (defScope s_Listed_text_for) := ⟨rfl, rfl, rfl, by decide +kernel, rfl, by decide +kernel, by decide +kernel⟩

theorem ok_Listed_text_for (F : FunD K "text_for" "Listed.text_for" (defArgs s_Listed_text_for) (defBody s_Listed_text_for) (defScope s_Listed_text_for) [] [] f fd) (G : P2 P w K mg base) : FnOk P w K mg base CX0 1 f fd ["self", "value"] (spTFListed K) := by
  refine F.ok (CX := CX0) sc_Listed_text_for (fun vs H Q E h => ?_) (fun cdv A outer s H vs Q E hr h => ?_)
  · obtain ⟨a, v, x, rfl, _⟩ := h
    rfl
  · refine ⟨_, PSs.nox (pss_one (ps_ret (pv 1))), ?_⟩
    obtain ⟨a, v, x, rfl, hF, hin, hd, hv, hh, q⟩ := h
    have q0 := q _ (Same.refl _)
    cases v with
    | str z => exact ⟨_, rfl, q0⟩
    | _ => cases hh

abbrev s_Listed_has_value : Stmt := inClass (top 28) 2
theorem sc_Listed_has_value : FnScope ["self", "thing"] ["self", "thing"] (defScope s_Listed_has_value) := ⟨rfl, rfl, rfl, by decide +kernel, rfl, by decide +kernel, by decide +kernel⟩

theorem ok_Listed_has_value (F : FunD K "has_value" "Listed.has_value" (defArgs s_Listed_has_value) (defBody s_Listed_has_value) (defScope s_Listed_has_value) [] [] f fd) (G : P2 P w K mg base) : FnOk P w K mg base CX0 1 f fd ["self", "thing"] (spHVListed K) := by
  refine F.ok (CX := CX0) sc_Listed_has_value (fun vs H Q E h => ?_) (fun cdv A outer s H vs Q E hr h => ?_)
  · obtain ⟨a, v, x, rfl, _⟩ := h
    rfl
  · refine ⟨_, PSs.nox (pss_one (ps_ret (pe_and (pe_callB call_ie (by rfl) G.isinstance (by decide +kernel) (pa_cons (pv 1) (pa_cons (pe_bty (n := "str") (by rfl) G.str (by decide +kernel)) pa_nil))) (pe_one (pe_cmpR op_in_seq (pv 1) (pe_fld (pv 0) rfl) (by rfl)))))), ?_⟩
    obtain ⟨a, v, x, rfl, hF, hin, hd, hf, hz, q⟩ := h
    obtain ⟨dx, tx, ha, htx⟩ := hF
    obtain ⟨hfl, _⟩ := lM_shaped x hin hd
    obtain ⟨T, ty, ks, ki, kb⟩ := thg_ty (K := K) hf
    refine ⟨_, rfl, _, _, _, _, _, rfl, .ty _, ty, kit_ty ks, _, rfl, ?_⟩
    cases v with
    | str z => exact iteT ⟨_, rfl, _, rfl, a, _, dx, _, _, rfl, ha, G.cListed.cl, G.cListed.no _ (by decide +kernel), lListed_texts, tx, x.els, rfl, .inr (htx.sq), rfl, hfl, q⟩
    | _ => exact iteF q

abbrev s_Ended_text_for : Stmt := inClass (top 29) 3
theorem sc_Ended_text_for : FnScope ["self", "value"] ["self", "value"] (defScope s_Ended_text_for) := ⟨rfl, rfl, rfl, by decide +kernel, rfl, by decide +kernel, by decide +kernel⟩

theorem ok_Ended_text_for (F : FunD K "text_for" "Ended.text_for" (defArgs s_Ended_text_for) (defBody s_Ended_text_for) (defScope s_Ended_text_for) [] [] f fd) (G : P2 P w K mg base) : FnOk P w K mg base CX0 1 f fd ["self", "value"] (spTFEnded K) := by
  refine F.ok (CX := CX0) sc_Ended_text_for (fun vs H Q E h => ?_) (fun cdv A outer s H vs Q E hr h => ?_)
  · obtain ⟨a, v, s, e, l, m, rfl, _⟩ := h
    rfl
  · refine ⟨_, PSs.nox (pss_one (ps_ret (pe_op op_add_str (pv 1) (pe_fld (pv 0) rfl)))), ?_⟩
    obtain ⟨a, v, s, e, l, m, rfl, hF, hin, hd, hv, hh, q⟩ := h
    obtain ⟨dx, ha⟩ := hF
    obtain ⟨hs, he, hl, hm⟩ := hin
    obtain ⟨es, ee, el, em, hel⟩ := end_all s hs e he l hl m hm hd
    have q0 := q _ (Same.refl _)
    cases v with
    | str z =>
      have hz : z.length ≤ 900 := of_decide_eq_true hv
      exact ⟨_, rfl, _, rfl, a, _, dx, _, _, rfl, ha, G.cEnded.cl, G.cEnded.no _ (by decide +kernel), lEnded_sign, z, strV e, rfl, ee, by rw [sizeLine_eq]; omega, q0⟩
    | _ => cases hh

abbrev s_Number_has_value : Stmt := inClass (top 26) 2
theorem sc_Number_has_value : FnScope ["self", "thing"] ["self", "thing"] (defScope s_Number_has_value) := ⟨rfl, rfl, rfl, by decide +kernel, rfl, by decide +kernel, by decide +kernel⟩

theorem ok_Number_has_value (F : FunD K "has_value" "Number.has_value" (defArgs s_Number_has_value) (defBody s_Number_has_value) (defScope s_Number_has_value) [] [] f fd) (G : P2 P w K mg base) : FnOk P w K mg base CX0 2 f fd ["self", "thing"] (spHVNumber K) := by
  refine F.ok (CX := CX0) sc_Number_has_value (fun vs H Q E h => ?_) (fun cdv A outer s H vs Q E hr h => ?_)
  · obtain ⟨a, v, l, m, rfl, _⟩ := h
    rfl
  · refine ⟨_, PSs.nox (pss_one (ps_ret (pe_and (pe_fn G.is_numberT hr pass0 (by rfl) (pa_cons (pv 1) pa_nil)) (pe_one (pe_fn G.is_within hr pass0 (by rfl) (pa_cons (pv 0) (pa_cons (pv 1) pa_nil))))))), ?_⟩
    obtain ⟨a, v, l, m, rfl, hF, hin, hd, hf, hz, q⟩ := h
    obtain ⟨dx, ha⟩ := hF
    obtain ⟨hl, hm⟩ := hin
    obtain ⟨el, em, _⟩ := num_due l hl m hm hd
    refine ⟨_, rfl, v, rfl, hf, _, rfl, ?_⟩
    cases v with
    | int i => exact iteT ⟨_, rfl, _, rfl, a, _, dx, _, l, m, _, rfl, ha, G.cNumber.cl, G.cNumber.no _ (by decide +kernel), G.cNumber.no _ (by decide +kernel), lNumber_least, lNumber_most, el, em, q⟩
    | _ => exact iteF q

abbrev s_Number_text_for : Stmt := inClass (top 26) 3
theorem sc_Number_text_for : FnScope ["self", "value"] ["self", "value"] (defScope s_Number_text_for) := ⟨rfl, rfl, rfl, by decide +kernel, rfl, by decide +kernel, by decide +kernel⟩

theorem ok_Number_text_for (F : FunD K "text_for" "Number.text_for" (defArgs s_Number_text_for) (defBody s_Number_text_for) (defScope s_Number_text_for) [] [] f fd) (G : P2 P w K mg base) : FnOk P w K mg base CX0 2 f fd ["self", "value"] (spTFNumber K) := by
  refine F.ok (CX := CX0) sc_Number_text_for (fun vs H Q E h => ?_) (fun cdv A outer s H vs Q E hr h => ?_)
  · obtain ⟨a, v, l, m, rfl, _⟩ := h
    rfl
  · refine ⟨_, PSs.nox (pss_one (ps_ret (pe_fn G.digits_of hr pass0 (by rfl) (pa_cons (pv 1) pa_nil)))), ?_⟩
    obtain ⟨a, v, l, m, rfl, hF, hin, hd, hv, hh, q⟩ := h
    cases v with
    | int i =>
      obtain ⟨v1, v2⟩ := Bool.and_eq_true_iff.mp hv
      exact ⟨_, rfl, i, rfl, of_decide_eq_true v1, of_decide_eq_true v2, fun H' S => q H' S⟩
    | _ => cases hh

abbrev s_Fixed_has_value : Stmt := inClass (top 27) 2
theorem sc_Fixed_has_value : FnScope ["self", "thing"] ["self", "thing"] (defScope s_Fixed_has_value) := ⟨rfl, rfl, rfl, by decide +kernel, rfl, by decide +kernel, by decide +kernel⟩

theorem ok_Fixed_has_value (F : FunD K "has_value" "Fixed.has_value" (defArgs s_Fixed_has_value) (defBody s_Fixed_has_value) (defScope s_Fixed_has_value) [] [] f fd) (G : P2 P w K mg base) : FnOk P w K mg base CX0 3 f fd ["self", "thing"] (spHVFixed K) := by
  refine F.ok (CX := CX0) sc_Fixed_has_value (fun vs H Q E h => ?_) (fun cdv A outer s H vs Q E hr h => ?_)
  · obtain ⟨a, v, z, rfl, _⟩ := h
    rfl
  · refine ⟨_, PSs.nox (pss_one (ps_ret (pe_and (pe_fn G.is_numberT (hr.mono (by decide)) pass0 (by rfl) (pa_cons (pv 1) pa_nil)) (pe_one (pe_chain op_le op_le pe_int (pv 1) (pe_fn G.greatest_of hr pass0 (by rfl) (pa_cons (pe_fld (pv 0) rfl) pa_nil))))))), ?_⟩
    obtain ⟨a, v, z, rfl, hF, hin, hd, hf, hz, q⟩ := h
    obtain ⟨dx, ha⟩ := hF
    obtain ⟨_, ew, pw, w0, w1⟩ := wM_great z hin
    refine ⟨_, rfl, v, rfl, hf, _, rfl, ?_⟩
    cases v with
    | int i =>
      have r : PD.hasV (.int i) (.fixed z) = (decide (0 ≤ i) && decide (i ≤ great z)) := rfl
      rw [r] at q
      refine iteT ⟨_, rfl, _, _, rfl, rfl, _, rfl, ?_⟩
      refine ite2 (fun h1 => ?_) (fun h1 => ?_)
      · rw [h1] at q
        exact ⟨_, rfl, a, _, dx, _, _, rfl, ha, G.cFixed.cl, G.cFixed.no _ (by decide +kernel), lFixed_width, z, rfl, hin, _, _, rfl, rfl, q⟩
      · rw [Bool.eq_false_iff.mpr h1] at q
        exact q
    | _ => exact iteF q

abbrev s_Fixed_text_for : Stmt := inClass (top 27) 3
theorem sc_Fixed_text_for : FnScope ["self", "value"] ["self", "value"] (defScope s_Fixed_text_for) := ⟨rfl, rfl, rfl, by decide +kernel, rfl, by decide +kernel, by decide +kernel⟩

theorem ok_Fixed_text_for (F : FunD K "text_for" "Fixed.text_for" (defArgs s_Fixed_text_for) (defBody s_Fixed_text_for) (defScope s_Fixed_text_for) [] [] f fd) (G : P2 P w K mg base) : FnOk P w K mg base CX0 2 f fd ["self", "value"] (spTFFixed K) := by
  refine F.ok (CX := CX0) sc_Fixed_text_for (fun vs H Q E h => ?_) (fun cdv A outer s H vs Q E hr h => ?_)
  · obtain ⟨a, v, z, rfl, _⟩ := h
    rfl
  · refine ⟨_, PSs.nox (pss_one (ps_ret (pe_bm PySem.F.plainAttrs_str PySem.F.slot_str_zfill PySem.F.type_str_zfill mt_zfill (pe_fn G.digits_of hr pass0 (by rfl) (pa_cons (pv 1) pa_nil)) (pa_cons (pe_fld (pv 0) rfl) pa_nil)))), ?_⟩
    obtain ⟨a, v, z, rfl, hF, hin, hd, hv, hh, q⟩ := h
    obtain ⟨dx, ha⟩ := hF
    obtain ⟨_, ew, pw, w0, w1⟩ := wM_great z hin
    cases v with
    | int i =>
      obtain ⟨v1, v2⟩ := Bool.and_eq_true_iff.mp hv
      exact ⟨_, rfl, i, rfl, of_decide_eq_true v1, of_decide_eq_true v2, fun H' S => ⟨rfl, _, rfl, a, _, dx, _, _, rfl, S _ _ ha, G.cFixed.cl, G.cFixed.no _ (by decide +kernel), lFixed_width, _, intV z, rfl, by rw [ew]; rfl, pw, q H' S⟩⟩
    | _ => cases hh

def idx (z : Str) : List Str → Nat
  | [] => 0
  | y :: ys => if y = z then 0 else idx z ys + 1
theorem idx_at {z : Str} : ∀ {ys : List Str}, z ∈ ys → ys[idx z ys]? = some z ∧ ∀ m, m < idx z ys → ys[m]? ≠ some z
  | [], h => by cases h
  | y :: ys, h => by
    unfold idx
    by_cases e : y = z
    · rw [if_pos e]
      exact ⟨by rw [e]; rfl, fun m hm => absurd hm (Nat.not_lt_zero _)⟩
    · rw [if_neg e]
      have h2 : z ∈ ys := by
        rcases List.mem_cons.mp h with k | k
        · exact absurd k.symm e
        · exact k
      obtain ⟨i1, i2⟩ := idx_at h2
      refine ⟨i1, fun m hm => ?_⟩
      cases m with
      | zero => exact fun k => e (Option.some.inj k)
      | succ m => exact i2 m (Nat.lt_of_succ_lt_succ hm)
/-- puts_before -/
def PD.bef (v u : V) : PD → Bool
  | .word .. => decide ((strV v).cps.toList < (strV u).cps.toList)
  | .number .. => decide (intV v < intV u)
  | .fixed _ => decide (intV v < intV u)
  | .listed x => decide ((idx (strV v) (x.els.map strV) : Int) < (idx (strV u) (x.els.map strV) : Int))
  | .ended .. => decide ((strV v).cps.toList < (strV u).cps.toList)
theorem in_els {x : LX} (ha : x.els.all areB = true) {z : Str} (h : inV (.str z) x.els = true) : z ∈ x.els.map strV := by
  obtain ⟨y, hy, e⟩ := List.any_eq_true.mp h
  have hy2 := List.all_eq_true.mp ha y hy
  cases y with
  | str t =>
    have e2 : t = z := by simpa [eqV] using e
    exact List.mem_map.mpr ⟨_, hy, e2⟩
  | _ => cases hy2

def spPBWord (K : Frag) : Sp := fun vs H Q _ => ∃ (a : Addr) (v u : V) (s l m : V), vs = [.ref a, v, u] ∧ FieldAt K H a (.word s l m) ∧ PD.In (.word s l m) ∧ PD.due (.word s l m) = none ∧ PD.hasV v (.word s l m) = true ∧ PD.hasV u (.word s l m) = true ∧ Q (.bl (PD.bef v u (.word s l m))) H
def spPBNumber (K : Frag) : Sp := fun vs H Q _ => ∃ (a : Addr) (v u : V) (l m : V), vs = [.ref a, v, u] ∧ FieldAt K H a (.number l m) ∧ PD.In (.number l m) ∧ PD.due (.number l m) = none ∧ PD.hasV v (.number l m) = true ∧ PD.hasV u (.number l m) = true ∧ Q (.bl (PD.bef v u (.number l m))) H
def spPBFixed (K : Frag) : Sp := fun vs H Q _ => ∃ (a : Addr) (v u : V) (z : V), vs = [.ref a, v, u] ∧ FieldAt K H a (.fixed z) ∧ PD.In (.fixed z) ∧ PD.due (.fixed z) = none ∧ PD.hasV v (.fixed z) = true ∧ PD.hasV u (.fixed z) = true ∧ Q (.bl (PD.bef v u (.fixed z))) H
def spPBListed (K : Frag) : Sp := fun vs H Q _ => ∃ (a : Addr) (v u : V) (x : LX), vs = [.ref a, v, u] ∧ FieldAt K H a (.listed x) ∧ PD.In (.listed x) ∧ PD.due (.listed x) = none ∧ PD.hasV v (.listed x) = true ∧ PD.hasV u (.listed x) = true ∧ Q (.bl (PD.bef v u (.listed x))) H
def spPBEnded (K : Frag) : Sp := fun vs H Q _ => ∃ (a : Addr) (v u : V) (s e l m : V), vs = [.ref a, v, u] ∧ FieldAt K H a (.ended s e l m) ∧ PD.In (.ended s e l m) ∧ PD.due (.ended s e l m) = none ∧ PD.hasV v (.ended s e l m) = true ∧ PD.hasV u (.ended s e l m) = true ∧ Q (.bl (PD.bef v u (.ended s e l m))) H
structure P3 (P : Program) (w : World) (K : Frag) (mg : Str → Option Value) (base : Heap) : Prop extends P2 P w K mg base where
  hvWord : HM P w K mg base 3 (ca K 0) "has_value" ["self", "thing"] (spHVWord K)
  hvNumber : HM P w K mg base 3 (ca K 1) "has_value" ["self", "thing"] (spHVNumber K)
  hvFixed : HM P w K mg base 3 (ca K 2) "has_value" ["self", "thing"] (spHVFixed K)
  hvListed : HM P w K mg base 3 (ca K 3) "has_value" ["self", "thing"] (spHVListed K)
  hvEnded : HM P w K mg base 3 (ca K 4) "has_value" ["self", "thing"] (spHVEnded K)
  tfWord : HM P w K mg base 3 (ca K 0) "text_for" ["self", "value"] (spTFWord K)
  tfNumber : HM P w K mg base 3 (ca K 1) "text_for" ["self", "value"] (spTFNumber K)
  tfFixed : HM P w K mg base 3 (ca K 2) "text_for" ["self", "value"] (spTFFixed K)
  tfListed : HM P w K mg base 3 (ca K 3) "text_for" ["self", "value"] (spTFListed K)
  tfEnded : HM P w K mg base 3 (ca K 4) "text_for" ["self", "value"] (spTFEnded K)
theorem P3.hv_ (G : P3 P w K mg base) {H : Hp} {y : Addr} : ∀ {d : PD}, FieldAt K H y d → d.In → d.due = none → ∃ sp, HM P w K mg base 3 (ca K d.ci) "has_value" ["self", "thing"] sp ∧
    ∀ (v : V) (Q : VK) (E : XK), Thg H v → lenV v ≤ 900 → Q (.bl (d.hasV v)) H → sp [.ref y, v] H Q E
  | .word s l m, h, i, u0 => ⟨_, G.hvWord, fun v Q E hf hz q => ⟨y, v, s, l, m, rfl, h, i, u0, hf, hz, q⟩⟩
  | .number l m, h, i, u0 => ⟨_, G.hvNumber, fun v Q E hf hz q => ⟨y, v, l, m, rfl, h, i, u0, hf, hz, q⟩⟩
  | .fixed z, h, i, u0 => ⟨_, G.hvFixed, fun v Q E hf hz q => ⟨y, v, z, rfl, h, i, u0, hf, hz, q⟩⟩
  | .listed x, h, i, u0 => ⟨_, G.hvListed, fun v Q E hf hz q => ⟨y, v, x, rfl, h, i, u0, hf, hz, q⟩⟩
  | .ended s e l m, h, i, u0 => ⟨_, G.hvEnded, fun v Q E hf hz q => ⟨y, v, s, e, l, m, rfl, h, i, u0, hf, hz, q⟩⟩

theorem P3.tf_ (G : P3 P w K mg base) {H : Hp} {y : Addr} : ∀ {d : PD}, FieldAt K H y d → d.In → d.due = none → ∃ sp, HM P w K mg base 3 (ca K d.ci) "text_for" ["self", "value"] sp ∧
    ∀ (v : V) (Q : VK) (E : XK), vaOk v = true → d.hasV v = true → (∀ H', Same H H' → Q (.str (d.textF v)) H') → sp [.ref y, v] H Q E
  | .word s l m, h, i, u0 => ⟨_, G.tfWord, fun v Q E hf hz q => ⟨y, v, s, l, m, rfl, h, i, u0, hf, hz, q⟩⟩
  | .number l m, h, i, u0 => ⟨_, G.tfNumber, fun v Q E hf hz q => ⟨y, v, l, m, rfl, h, i, u0, hf, hz, q⟩⟩
  | .fixed z, h, i, u0 => ⟨_, G.tfFixed, fun v Q E hf hz q => ⟨y, v, z, rfl, h, i, u0, hf, hz, q⟩⟩
  | .listed x, h, i, u0 => ⟨_, G.tfListed, fun v Q E hf hz q => ⟨y, v, x, rfl, h, i, u0, hf, hz, q⟩⟩
  | .ended s e l m, h, i, u0 => ⟨_, G.tfEnded, fun v Q E hf hz q => ⟨y, v, s, e, l, m, rfl, h, i, u0, hf, hz, q⟩⟩

/-- a field, marked or not -/
inductive FD where
  | pl (d : PD)
  | mk (n m : V) (d : PD)
def FdAt (K : Frag) (H : Hp) (a : Addr) : FD → Prop
  | .pl d => FieldAt K H a d ∧ d.In ∧ d.due = none
  | .mk n m d => MkAt K H a n m d ∧ d.In ∧ d.due = none ∧ (∃ c, n = .str ⟨#[c]⟩) ∧ ∃ c, m = .str ⟨#[c]⟩
theorem FdAt.same {K : Frag} {H H' : Hp} {a : Addr} (S : Same H H') : ∀ {d : FD}, FdAt K H a d → FdAt K H' a d
  | .pl _, ⟨h, i⟩ => ⟨h.same S, i⟩
  | .mk _ _ _, ⟨⟨dx, y, h, k⟩, i⟩ => ⟨⟨dx, y, S _ _ h, k.same S⟩, i⟩
def tail1 (t : Str) : Str := cutS t (some 1) none
def head1 (t : Str) : Str := cutS t none (some 1)
def FD.hasV (v : V) : FD → Bool
  | .pl d => d.hasV v
  | .mk _ _ d => decide (v = .non) || d.hasV v
def FD.textF (v : V) : FD → Str
  | .pl d => d.textF v
  | .mk n m d => if decide (v = .non) = true then strV n else strV m ++ d.textF v
def FD.hasT (t : Str) : FD → Bool
  | .pl d => d.hasT t
  | .mk n m d => decide (V.str t = n) || (decide (V.str (head1 t) = m) && d.hasT (tail1 t))
def FD.valF (t : Str) : FD → V
  | .pl d => d.valF t
  | .mk n _ d => if decide (V.str t = n) = true then .non else d.valF (tail1 t)
def FD.txOk (t : Str) : FD → Bool
  | .pl _ => K76.txOk t
  | .mk .. => K76.txOk t && K76.txOk (tail1 t)
def FD.nuOk (t : Str) : FD → Bool
  | .pl _ => numOk t
  | .mk n _ _ => decide (V.str t = n) || numOk (tail1 t)

/-- no attribute of a field has a method's name -/
structure P4 (P : Program) (w : World) (K : Frag) (mg : Str → Option Value) (base : Heap) : Prop extends P3 P w K mg base where
theorem FieldAt.no {H : Hp} {y : Addr} {g : Str} (hg : g = "has_value" ∨ g = "text_for" ∨ g = "has_text" ∨ g = "value_for" ∨ g = "puts_before") : ∀ {d : PD}, FieldAt K H y d → ∀ dx fs C, H y = some (.ins C dx fs) → fs.lookup g = none
  | .word s l m, ⟨dx, h⟩, dx2, fs2, C2, h2 => by
    rw [h] at h2
    cases h2
    unfold fWord
    rcases hg with rfl | rfl | rfl | rfl | rfl <;> (rw [lookup_putF, if_neg (by decide +kernel)]; rw [lookup_putF, if_neg (by decide +kernel)]; rw [lookup_putF, if_neg (by decide +kernel)]; rfl)
  | .number l m, ⟨dx, h⟩, dx2, fs2, C2, h2 => by
    rw [h] at h2
    cases h2
    unfold fNumber
    rcases hg with rfl | rfl | rfl | rfl | rfl <;> (rw [lookup_putF, if_neg (by decide +kernel)]; rw [lookup_putF, if_neg (by decide +kernel)]; rfl)
  | .fixed z, ⟨dx, h⟩, dx2, fs2, C2, h2 => by
    rw [h] at h2
    cases h2
    unfold fFixed
    rcases hg with rfl | rfl | rfl | rfl | rfl <;> (rw [lookup_putF, if_neg (by decide +kernel)]; rfl)
  | .listed _, ⟨dx, t, h, _⟩, dx2, fs2, C2, h2 => by
    rw [h] at h2
    cases h2
    unfold fListed
    rcases hg with rfl | rfl | rfl | rfl | rfl <;> (rw [lookup_putF, if_neg (by decide +kernel)]; rfl)
  | .ended s e l m, ⟨dx, h⟩, dx2, fs2, C2, h2 => by
    rw [h] at h2
    cases h2
    unfold fEnded
    rcases hg with rfl | rfl | rfl | rfl | rfl <;> (rw [lookup_putF, if_neg (by decide +kernel)]; rw [lookup_putF, if_neg (by decide +kernel)]; rw [lookup_putF, if_neg (by decide +kernel)]; rw [lookup_putF, if_neg (by decide +kernel)]; rfl)

def spMHV (K : Frag) : Sp := fun vs H Q _ => ∃ (a : Addr) (n m : V) (d : PD) (v : V), vs = [.ref a, v] ∧ FdAt K H a (.mk n m d) ∧ Thg H v ∧ lenV v ≤ 900 ∧ Q (.bl (FD.hasV v (.mk n m d))) H
abbrev s_Marked_has_value : Stmt := inClass (top 30) 2
theorem sc_Marked_has_value : FnScope ["self", "thing"] ["self", "thing"] (defScope s_Marked_has_value) := ⟨rfl, rfl, rfl, by decide +kernel, rfl, by decide +kernel, by decide +kernel⟩

theorem ok_Marked_has_value (F : FunD K "has_value" "Marked.has_value" (defArgs s_Marked_has_value) (defBody s_Marked_has_value) (defScope s_Marked_has_value) [] [] f fd) (G : P4 P w K mg base) : FnOk P w K mg base CX0 4 f fd ["self", "thing"] (spMHV K) := by
  refine F.ok (CX := CX0) sc_Marked_has_value (fun vs H Q E h => ?_) (fun cdv A outer s H vs Q E hr h => ?_)
  · obtain ⟨a, n, m, d, v, rfl, _⟩ := h
    rfl
  · refine ⟨_, PSs.nox (pss_one (ps_ret (pe_or (pe_cmpR op_isN (pv 1) pe_non (nomark _)) (pe_one (pe_methD (CX := CX0) (pe_fld (pv 0) rfl) pass0 (pa_cons (pv 1) pa_nil)))))), ?_⟩
    obtain ⟨a, n, m, d, v, rfl, ⟨⟨dx, y, ha, hy⟩, hin, hd, ⟨cn, en⟩, cm, em⟩, hf, hz, q⟩ := h
    obtain ⟨ey, fs, hi, _⟩ := hy.ins
    have h6 := Nat.lt_of_lt_of_le d.ci_lt (by decide : 5 ≤ 6)
    obtain ⟨sp, M, Hs⟩ := G.hv_ hy hin hd
    obtain ⟨fde, Fe, Be⟩ := M.ok
    refine ⟨_, rfl, rfl, _, rfl, ?_⟩
    have r : FD.hasV v (.mk n m d) = (decide (v = .non) || d.hasV v) := rfl
    rw [r] at q
    refine ite2 (fun h1 => ?_) (fun h1 => ?_)
    · rw [h1] at q
      exact q
    · rw [Bool.eq_false_iff.mpr h1] at q
      exact ⟨_, rfl, a, _, dx, _, _, rfl, ha, G.cMarked.cl, G.cMarked.no _ (by decide +kernel), lMarked_field, y, _, ey, _, fs, 3, fde, _, sp, rfl, hi, hy.no (by decide +kernel) _ _ _ hi, G.cl _ h6, M.me, Fe, hr, Be, _, rfl, Hs _ _ _ hf hz q⟩

def spMTF (K : Frag) : Sp := fun vs H Q _ => ∃ (a : Addr) (n m : V) (d : PD) (v : V), vs = [.ref a, v] ∧ FdAt K H a (.mk n m d) ∧ vaOk v = true ∧ FD.hasV v (.mk n m d) = true ∧ (d.textF v).length ≤ 900 ∧ ∀ H', Same H H' → Q (.str (FD.textF v (.mk n m d))) H'
abbrev s_Marked_text_for : Stmt := inClass (top 30) 3
theorem sc_Marked_text_for : FnScope ["self", "value"] ["self", "value"] (defScope s_Marked_text_for) := ⟨rfl, rfl, rfl, by decide +kernel, rfl, by decide +kernel, by decide +kernel⟩

theorem ok_Marked_text_for (F : FunD K "text_for" "Marked.text_for" (defArgs s_Marked_text_for) (defBody s_Marked_text_for) (defScope s_Marked_text_for) [] [] f fd) (G : P4 P w K mg base) : FnOk P w K mg base CX0 4 f fd ["self", "value"] (spMTF K) := by
  refine F.ok (CX := CX0) sc_Marked_text_for (fun vs H Q E h => ?_) (fun cdv A outer s H vs Q E hr h => ?_)
  · obtain ⟨a, n, m, d, v, rfl, _⟩ := h
    rfl
  · refine ⟨_, PSs.nox (pss_cons (ps_if (pt_cmpR op_isN (pv 1) pe_non (nomark _))
      (pss_one (ps_ret (pe_fld (pv 0) rfl)))
      pss_nil)
    (pss_one (ps_ret (pe_op op_add_str (pe_fld (pv 0) rfl) (pe_methD (CX := CX0) (pe_fld (pv 0) rfl) pass0 (pa_cons (pv 1) pa_nil)))))), ?_⟩
    obtain ⟨a, n, m, d, v, rfl, ⟨⟨dx, y, ha, hy⟩, hin, hd, ⟨cn, en⟩, cm, em⟩, hv, hh, hlen, q⟩ := h
    obtain ⟨ey, fs, hi, _⟩ := hy.ins
    have h6 := Nat.lt_of_lt_of_le d.ci_lt (by decide : 5 ≤ 6)
    obtain ⟨sp, M, Hs⟩ := G.tf_ hy hin hd
    obtain ⟨fde, Fe, Be⟩ := M.ok
    have r : FD.textF v (.mk n m d) = if decide (v = .non) = true then strV n else strV m ++ d.textF v := rfl
    rw [r] at q
    refine ⟨_, rfl, rfl, _, rfl, ?_⟩
    refine ite2 (fun h1 => ?_) (fun h1 => ?_)
    · rw [if_pos h1] at q
      have q0 := q _ (Same.refl _)
      refine ⟨_, rfl, a, _, dx, _, _, rfl, ha, G.cMarked.cl, G.cMarked.no _ (by decide +kernel), lMarked_none, ?_⟩
      rw [en] at q0 ⊢
      exact q0
    · rw [if_neg h1] at q
      have hh' : d.hasV v = true := by
        have z : (decide (v = .non) || d.hasV v) = true := hh
        rw [Bool.eq_false_iff.mpr h1] at z
        exact z
      refine ⟨_, rfl, a, _, dx, _, _, rfl, ha, G.cMarked.cl, G.cMarked.no _ (by decide +kernel), lMarked_mark, _, rfl, a, _, dx, _, _, rfl, ha, G.cMarked.cl, G.cMarked.no _ (by decide +kernel), lMarked_field, y, _, ey, _, fs, 3, fde, _, sp, rfl, hi, hy.no (by decide +kernel) _ _ _ hi, G.cl _ h6, M.me, Fe, hr, Be, _, rfl, Hs _ _ _ hv hh' (fun H' S => ⟨⟨#[cm]⟩, _, em, rfl, by rw [sizeLine_eq]; show 1 + (d.textF v).length ≤ 16777216; omega, ?_⟩)⟩
      have z := q H' S
      rw [em] at z
      exact z

def FD.bef (v u : V) : FD → Bool
  | .pl d => d.bef v u
  | .mk _ _ d => if decide (u = .non) = true then false else decide (v = .non) || d.bef v u
def spMPB (K : Frag) : Sp := fun vs H Q _ => ∃ (a : Addr) (n m : V) (d : PD) (v u : V), vs = [.ref a, v, u] ∧ FdAt K H a (.mk n m d) ∧ FD.hasV v (.mk n m d) = true ∧ FD.hasV u (.mk n m d) = true ∧ Q (.bl (FD.bef v u (.mk n m d))) H

end
end L2.K76

set_option Elab.async false
set_option linter.all false
set_option maxRecDepth 100000
set_option maxHeartbeats 4000000
/-! zip of three sequences, lists or tuples. -/
namespace L2.Jk.Z3
open PySem
open PySem.Sem (wp)
/-- a list (true) or a tuple -/
def Sq : Bool → Heap → Addr → Array Value → Prop
  | true, h, a, xs => h.IsList a xs
  | false, h, a, xs => h.IsTuple a xs
def It : Bool → Heap → Addr → Addr → Nat → Prop
  | true, h, a, l, k => h.IsListIter a l k
  | false, h, a, l, k => h.IsTupleIter a l k
def itN : Bool → Str
  | true => "list_iterator"
  | false => "tuple_iterator"
theorem Sq.ext {b : Bool} {h h' : Heap} {a c : Addr} {xs : Array Value} (x : Sq b h a xs) (e : Heap.ExtBut c h h') (n : a ≠ c) : Sq b h' a xs := by
  cases b
  · exact Heap.IsTuple.extBut x e n
  · exact Heap.IsList.extBut x e n
theorem Sq.at {b : Bool} {h h' : Heap} {a : Addr} {xs : Array Value} (x : Sq b h a xs) (k : ∀ o, h.get? a = some o → h'.get? a = some o) : Sq b h' a xs := by
  cases b <;> (obtain ⟨o, ho, r⟩ := x; exact ⟨o, k o ho, r⟩)
theorem It.at {b : Bool} {h h' : Heap} {a l : Addr} {i : Nat} (x : It b h a l i) (k : ∀ o, h.get? a = some o → h'.get? a = some o) : It b h' a l i := by
  cases b <;> (obtain ⟨o, ho, r⟩ := x; exact ⟨o, k o ho, r⟩)
theorem It.ext {b : Bool} {h h' : Heap} {a c l : Addr} {i : Nat} (x : It b h a l i) (e : Heap.ExtBut c h h') (n : a ≠ c) : It b h' a l i := x.at fun o q => e a o n q
theorem It.obj {b : Bool} {h : Heap} {a l : Addr} {i : Nat} (x : It b h a l i) : ∃ o, h.get? a = some o ∧ ∀ v, o.data ≠ .cell v := by
  cases b <;> (obtain ⟨o, ho, _, d⟩ := x; exact ⟨o, ho, fun v q => by rw [d] at q; cases q⟩)
theorem It.lt {b : Bool} {h : Heap} {a l : Addr} {i : Nat} (x : It b h a l i) : a < h.objs.size := by
  obtain ⟨o, e, _⟩ := x.obj
  exact Heap.lt_size e
theorem Sq.lt {b : Bool} {h : Heap} {a : Addr} {xs : Array Value} (x : Sq b h a xs) : a < h.objs.size := by
  cases b <;> (obtain ⟨o, e, _⟩ := x; exact Heap.lt_size e)
abbrev IsTrip (h : Heap) (T : Addr) (a b c : Value) : Prop := h.get? T = some { cls := .type "tuple", data := .seq #[a, b, c] }
structure Ap (z TI TO i1 i2 i3 l1 l2 l3 : Addr) : Prop where
  ti : TI ≠ z ∧ TI ≠ TO ∧ TI ≠ i1 ∧ TI ≠ i2 ∧ TI ≠ i3
  to : TO ≠ z ∧ TO ≠ i1 ∧ TO ≠ i2 ∧ TO ≠ i3
  iz : i1 ≠ z ∧ i2 ≠ z ∧ i3 ≠ z
  ii : i1 ≠ i2 ∧ i1 ≠ i3 ∧ i2 ≠ i3
  a1 : l1 ≠ z ∧ l1 ≠ TO ∧ l1 ≠ i1 ∧ l1 ≠ i2 ∧ l1 ≠ i3
  a2 : l2 ≠ z ∧ l2 ≠ TO ∧ l2 ≠ i1 ∧ l2 ≠ i2 ∧ l2 ≠ i3
  a3 : l3 ≠ z ∧ l3 ≠ TO ∧ l3 ≠ i1 ∧ l3 ≠ i2 ∧ l3 ≠ i3
section
variable {prog : Program} {w : World} {A : Around} {E : Value → Shared → Prop} {s : Shared}
theorem next_item {b : Bool} {it l : Addr} {i : Nat} {xs : Array Value} {x : Value} {Q : Value → Shared → Prop} (hit : It b s.heap it l i) (hl : Sq b s.heap l xs) (hx : xs[i]? = some x)
    (hQ : ∀ h', It b h' it l (i + 1) → Heap.SameBut it s.heap h' → Q x { s with heap := h' }) : wpAny (model prog w) A (Builtin.SmallTypes.nextOf (.ref it)) Q E s := by
  cases b
  · exact RZ.nextOf_tuple_item hit hl hx hQ
  · exact wpAny_nextOf_list_item hit hl hx hQ
theorem next_end {b : Bool} {it l : Addr} {i : Nat} {xs : Array Value} {Q : Value → Shared → Prop} (hh : A.handled = none) (hit : It b s.heap it l i) (hl : Sq b s.heap l xs) (hx : xs[i]? = none)
    (hE : ∀ h' e, Heap.ExtBut it s.heap h' → (∃ o, h'.get? e = some o ∧ o.cls = .type "StopIteration") → E (.ref e) { s with heap := h' }) : wpAny (model prog w) A (Builtin.SmallTypes.nextOf (.ref it)) Q E s := by
  cases b
  · exact RZ.nextOf_tuple_end hh hit hl hx hE
  · exact wpAny_nextOf_list_end hh hit hl hx hE
theorem updateSeq_trip {T : Addr} {a b c x : Value} {k : Nat} {Q : Unit → Shared → Prop} (hT : IsTrip s.heap T a b c)
    (h : ∀ h', h'.get? T = some { cls := .type "tuple", data := .seq ((#[a, b, c] : Array Value).setIfInBounds k x) } → Heap.SameBut T s.heap h' → Q () { s with heap := h' }) :
    wpAny (model prog w) A (updateSeq T (·.setIfInBounds k x)) Q E s := by
  refine wpAny_updateSeq hT rfl (h _ ?_ (Heap.SameBut.update ..))
  rw [Heap.get?_update_self _ hT rfl]
  simp [Obj.mapSeq]
variable {z TI TO i1 i2 i3 l1 l2 l3 : Addr} {k : Nat} {b1 b2 b3 : Bool} {xs ys zs : Array Value} {a b c : Value}
/-- what stands still -/
def Kp (z TO i1 i2 i3 : Addr) (h h' : Heap) : Prop := ∀ c o, c ≠ z → c ≠ TO → c ≠ i1 → c ≠ i2 → c ≠ i3 → h.get? c = some o → h'.get? c = some o
theorem zip_item {x y u : Value} {Q : Value → Shared → Prop} (D : Ap z TI TO i1 i2 i3 l1 l2 l3)
    (hz : IsZip s.heap z TI TO .none) (hTI : IsTrip s.heap TI (.ref i1) (.ref i2) (.ref i3)) (hTO : IsTrip s.heap TO a b c)
    (h1 : It b1 s.heap i1 l1 k) (h2 : It b2 s.heap i2 l2 k) (h3 : It b3 s.heap i3 l3 k) (q1 : Sq b1 s.heap l1 xs) (q2 : Sq b2 s.heap l2 ys) (q3 : Sq b3 s.heap l3 zs)
    (hx : xs[k]? = some x) (hy : ys[k]? = some y) (hu : zs[k]? = some u)
    (hQ : ∀ h', IsZip h' z TI TO (rawInt s.heap.objs.size) → IsTrip h' TO x y u → It b1 h' i1 l1 (k + 1) → It b2 h' i2 l2 (k + 1) → It b3 h' i3 l3 (k + 1) → IsTrip h' s.heap.objs.size x y u → h'.objs.size = s.heap.objs.size + 1 →
      Kp z TO i1 i2 i3 s.heap h' → Q (.ref s.heap.objs.size) { s with heap := h' }) :
    wpAny (model prog w) A (Builtin.«zip.__next__» ⟨[.ref z], []⟩) (fun fin s' => ∃ v, fin = .done (.ret v) ∧ Q v s') E s := by
  obtain ⟨⟨ti1, ti2, ti3, ti4, ti5⟩, ⟨to1, to2, to3, to4⟩, ⟨iz1, iz2, iz3⟩, ⟨ii1, ii2, ii3⟩, ⟨x1, x2, x3, x4, x5⟩, ⟨y1, y2, y3, y4, y5⟩, ⟨w1, w2, w3, w4, w5⟩⟩ := D
  show wpAny _ _ (field (.ref z) 2 >>= _) _ _ _
  refine wpAny_bind (wpAny_field hz rfl (x := .bool false) rfl ?_)
  show wpAny _ _ (field (.ref z) 3 >>= _) _ _ _
  refine wpAny_bind (wpAny_field hz rfl (x := .ref TI) rfl ?_)
  refine wpAny_bind (wpAny_seqItems hTI rfl ?_)
  show wpAny _ _ (Builtin.SmallTypes.ownedTupleIsFree (.ref z) >>= _) _ _ _
  refine wpAny_bind ?_
  unfold Builtin.SmallTypes.ownedTupleIsFree
  refine wpAny_bind (wpAny_field hz rfl (x := .none) rfl (wpAny_pure ?_))
  simp only [if_true]
  refine wpAny_bind (wpAny_rule ?_)
  refine wpAny_bind (wpAny_field hz rfl (x := .ref TO) rfl ?_)
  refine wpAny_bind (wpAny_setField_rec hz (by simp) fun h₁ hz₁ hs₁ => ?_)
  replace hz₁ : IsZip h₁ z TI TO .ellipsis := hz₁
  refine wpAny_bind ?_
  simp only [List.zipIdx_cons, List.zipIdx_nil, List.forIn_cons, List.forIn_nil]
  have e1 := hs₁.extBut
  have hTO₁ : IsTrip h₁ TO a b c := e1 _ _ to1 hTO

  refine wpAny_bind (wpAny_bind (wpAny_onRaise ?_))
  show wpAny _ _ (Builtin.SmallTypes.nextOf (.ref i1) >>= _) _ _ _
  refine wpAny_bind (next_item (h1.ext e1 iz1) (q1.ext e1 x1) hx fun h₂ n1 hs₂ => wpAny_pure ?_)
  have e2 := hs₂.extBut
  have hTO₂ : IsTrip h₂ TO a b c := e2 _ _ to2 hTO₁
  refine wpAny_bind (wpAny_seqItems hTO₂ rfl ?_)
  refine wpAny_bind (updateSeq_trip hTO₂ fun h₃ hTO₃ hs₃ => ?_)
  have e3 := hs₃.extBut
  replace hTO₃ : IsTrip h₃ TO x b c := hTO₃
  refine wpAny_bind (wpAny_letGo (wpAny_pure ?_))

  refine wpAny_bind (wpAny_bind (wpAny_onRaise ?_))
  show wpAny _ _ (Builtin.SmallTypes.nextOf (.ref i2) >>= _) _ _ _
  refine wpAny_bind (next_item (((h2.ext e1 iz2).ext e2 ii1.symm).ext e3 to3.symm) (((q2.ext e1 y1).ext e2 y3).ext e3 y2) hy fun h₄ n2 hs₄ => wpAny_pure ?_)
  have e4 := hs₄.extBut
  have hTO₄ : IsTrip h₄ TO x b c := e4 _ _ to3 hTO₃
  refine wpAny_bind (wpAny_seqItems hTO₄ rfl ?_)
  refine wpAny_bind (updateSeq_trip hTO₄ fun h₅ hTO₅ hs₅ => ?_)
  have e5 := hs₅.extBut
  replace hTO₅ : IsTrip h₅ TO x y c := hTO₅
  refine wpAny_bind (wpAny_letGo (wpAny_pure ?_))

  refine wpAny_bind (wpAny_bind (wpAny_onRaise ?_))
  show wpAny _ _ (Builtin.SmallTypes.nextOf (.ref i3) >>= _) _ _ _
  refine wpAny_bind (next_item (((((h3.ext e1 iz3).ext e2 ii2.symm).ext e3 to4.symm).ext e4 ii3.symm).ext e5 to4.symm) (((((q3.ext e1 w1).ext e2 w3).ext e3 w2).ext e4 w4).ext e5 w2) hu fun h₆ n3 hs₆ => wpAny_pure ?_)
  have e6 := hs₆.extBut
  have hTO₆ : IsTrip h₆ TO x y c := e6 _ _ to4 hTO₅
  refine wpAny_bind (wpAny_seqItems hTO₆ rfl ?_)
  refine wpAny_bind (updateSeq_trip hTO₆ fun h₇ hTO₇ hs₇ => ?_)
  have e7 := hs₇.extBut
  replace hTO₇ : IsTrip h₇ TO x y u := hTO₇
  refine wpAny_bind (wpAny_letGo (wpAny_pure (wpAny_pure ?_)))

  refine wpAny_bind (wpAny_seqItems hTO₇ rfl ?_)
  refine wpAny_bind (wpAny_newTuple ?_)
  have hsz : h₇.objs.size = s.heap.objs.size := by rw [hs₇.1, hs₆.1, hs₅.1, hs₄.1, hs₃.1, hs₂.1, hs₁.1]
  have hz₇ : IsZip h₇ z TI TO .ellipsis := e7 _ _ to1.symm (e6 _ _ iz3.symm (e5 _ _ to1.symm (e4 _ _ iz2.symm (e3 _ _ to1.symm (e2 _ _ iz1.symm hz₁)))))
  have hk₇ : Kp z TO i1 i2 i3 s.heap h₇ := fun c o c1 c2 c3 c4 c5 e =>
    e7 _ _ c2 (e6 _ _ c5 (e5 _ _ c2 (e4 _ _ c4 (e3 _ _ c2 (e2 _ _ c3 (e1 _ _ c1 e))))))
  have m1 : It b1 h₇ i1 l1 (k + 1) := ((((n1.ext e3 to2.symm).ext e4 ii1).ext e5 to2.symm).ext e6 ii2).ext e7 to2.symm
  have m2 : It b2 h₇ i2 l2 (k + 1) := ((n2.ext e5 to3.symm).ext e6 ii3).ext e7 to3.symm
  have m3 : It b3 h₇ i3 l3 (k + 1) := n3.ext e7 to4.symm
  have hzlt : z < h₇.objs.size := Heap.lt_size hz₇
  show wpAny _ _ (Builtin.SmallTypes.ownedTupleHandOut (.ref z) (.ref h₇.objs.size) >>= _) _ _ _
  refine wpAny_bind ?_
  unfold Builtin.SmallTypes.ownedTupleHandOut
  have hz₈ : IsZip (h₇.push { cls := .type "tuple", data := .seq #[x, y, u] }) z TI TO .ellipsis := Heap.get?_push_of_some _ hz₇
  refine wpAny_bind (wpAny_setField_rec hz₈ (by simp) fun h₉ hz₉ hs₉ => ?_)
  replace hz₉ : IsZip h₉ z TI TO (rawInt h₇.objs.size) := hz₉
  refine wpAny_setField_rec hz₉ (by simp) fun ha hza hsa => ?_
  replace hza : IsZip ha z TI TO (rawInt h₇.objs.size) := hza
  have up : ∀ c o, c ≠ z → h₇.get? c = some o → ha.get? c = some o := fun c o c1 e => hsa.extBut _ _ c1 (hs₉.extBut _ _ c1 (Heap.get?_push_of_some _ e))
  have hTa : IsTrip ha h₇.objs.size x y u := hsa.extBut _ _ (Nat.ne_of_gt hzlt) (hs₉.extBut _ _ (Nat.ne_of_gt hzlt) (Heap.get?_push_size _ rfl))
  have hza8 : ha.objs.size = h₇.objs.size + 1 := by rw [hsa.1, hs₉.1, Heap.size_push]
  rw [hsz] at hza hTa hza8
  refine wpAny_pure ⟨_, rfl, ?_⟩
  show Q (.ref h₇.objs.size) _
  rw [hsz]
  exact hQ ha hza (up _ _ to1 hTO₇) (m1.at fun o e => up _ o iz1 e) (m2.at fun o e => up _ o iz2 e) (m3.at fun o e => up _ o iz3 e) hTa hza8 fun c o c1 c2 c3 c4 c5 e => up c o c1 (hk₇ c o c1 c2 c3 c4 c5 e)

/-- where one of the three is at its end -/
theorem zip_end {Q : Fin → Shared → Prop} (hh : A.handled = none) (D : Ap z TI TO i1 i2 i3 l1 l2 l3)
    (hz : IsZip s.heap z TI TO .none) (hTI : IsTrip s.heap TI (.ref i1) (.ref i2) (.ref i3)) (hTO : IsTrip s.heap TO a b c)
    (h1 : It b1 s.heap i1 l1 k) (h2 : It b2 s.heap i2 l2 k) (h3 : It b3 s.heap i3 l3 k) (q1 : Sq b1 s.heap l1 xs) (q2 : Sq b2 s.heap l2 ys) (q3 : Sq b3 s.heap l3 zs)
    (hend : xs[k]? = none ∨ ys[k]? = none ∨ zs[k]? = none)
    (hE : ∀ h' e, Kp z TO i1 i2 i3 s.heap h' → (∃ o, h'.get? e = some o ∧ o.cls = .type "StopIteration") → E (.ref e) { s with heap := h' }) :
    wpAny (model prog w) A (Builtin.«zip.__next__» ⟨[.ref z], []⟩) Q E s := by
  obtain ⟨⟨ti1, ti2, ti3, ti4, ti5⟩, ⟨to1, to2, to3, to4⟩, ⟨iz1, iz2, iz3⟩, ⟨ii1, ii2, ii3⟩, ⟨x1, x2, x3, x4, x5⟩, ⟨y1, y2, y3, y4, y5⟩, ⟨w1, w2, w3, w4, w5⟩⟩ := D
  show wpAny _ _ (field (.ref z) 2 >>= _) _ _ _
  refine wpAny_bind (wpAny_field hz rfl (x := .bool false) rfl ?_)
  show wpAny _ _ (field (.ref z) 3 >>= _) _ _ _
  refine wpAny_bind (wpAny_field hz rfl (x := .ref TI) rfl ?_)
  refine wpAny_bind (wpAny_seqItems hTI rfl ?_)
  show wpAny _ _ (Builtin.SmallTypes.ownedTupleIsFree (.ref z) >>= _) _ _ _
  refine wpAny_bind ?_
  unfold Builtin.SmallTypes.ownedTupleIsFree
  refine wpAny_bind (wpAny_field hz rfl (x := .none) rfl (wpAny_pure ?_))
  simp only [if_true]
  refine wpAny_bind (wpAny_rule ?_)
  refine wpAny_bind (wpAny_field hz rfl (x := .ref TO) rfl ?_)
  refine wpAny_bind (wpAny_setField_rec hz (by simp) fun h₁ hz₁ hs₁ => ?_)
  replace hz₁ : IsZip h₁ z TI TO .ellipsis := hz₁
  refine wpAny_bind ?_
  simp only [List.zipIdx_cons, List.zipIdx_nil, List.forIn_cons, List.forIn_nil]
  have e1 := hs₁.extBut
  have hTO₁ : IsTrip h₁ TO a b c := e1 _ _ to1 hTO
  refine wpAny_bind (wpAny_bind (wpAny_onRaise ?_))
  show wpAny _ _ (Builtin.SmallTypes.nextOf (.ref i1) >>= _) _ _ _
  cases hx : xs[k]? with
  | none =>
    refine wpAny_bind (next_end hh (h1.ext e1 iz1) (q1.ext e1 x1) hx fun h₂ e e2 he => ?_)
    obtain ⟨oe, hoe, hce⟩ := he
    have hz₂ : IsZip h₂ z TI TO .ellipsis := e2 _ _ iz1.symm hz₁
    have hez : e ≠ z := fun x => by subst x; rw [hz₂] at hoe; cases hoe; simp at hce
    refine wpAny_setField_rec hz₂ (by simp) fun h₃ _ hs₃ => hE h₃ e (fun c o c1 _ c3 _ _ x => hs₃.extBut _ _ c1 (e2 _ _ c3 (e1 _ _ c1 x))) ⟨oe, hs₃.extBut _ _ hez hoe, hce⟩
  | some x =>
    refine wpAny_bind (next_item (h1.ext e1 iz1) (q1.ext e1 x1) hx fun h₂ n1 hs₂ => wpAny_pure ?_)
    have e2 := hs₂.extBut
    have hTO₂ : IsTrip h₂ TO a b c := e2 _ _ to2 hTO₁
    refine wpAny_bind (wpAny_seqItems hTO₂ rfl ?_)
    refine wpAny_bind (updateSeq_trip hTO₂ fun h₃ hTO₃ hs₃ => ?_)
    have e3 := hs₃.extBut
    replace hTO₃ : IsTrip h₃ TO x b c := hTO₃
    refine wpAny_bind (wpAny_letGo (wpAny_pure ?_))
    refine wpAny_bind (wpAny_bind (wpAny_onRaise ?_))
    show wpAny _ _ (Builtin.SmallTypes.nextOf (.ref i2) >>= _) _ _ _
    have hz₃ : IsZip h₃ z TI TO .ellipsis := e3 _ _ to1.symm (e2 _ _ iz1.symm hz₁)
    have g2 := ((h2.ext e1 iz2).ext e2 ii1.symm).ext e3 to3.symm
    have r2 := ((q2.ext e1 y1).ext e2 y3).ext e3 y2
    cases hy : ys[k]? with
    | none =>
      refine wpAny_bind (next_end hh g2 r2 hy fun h₄ e e4 he => ?_)
      obtain ⟨oe, hoe, hce⟩ := he
      have hz₄ : IsZip h₄ z TI TO .ellipsis := e4 _ _ iz2.symm hz₃
      have hez : e ≠ z := fun x => by subst x; rw [hz₄] at hoe; cases hoe; simp at hce
      refine wpAny_setField_rec hz₄ (by simp) fun h₅ _ hs₅ => hE h₅ e (fun c o c1 c2 c3 c4 _ x => hs₅.extBut _ _ c1 (e4 _ _ c4 (e3 _ _ c2 (e2 _ _ c3 (e1 _ _ c1 x))))) ⟨oe, hs₅.extBut _ _ hez hoe, hce⟩
    | some y =>
      have hu : zs[k]? = none := by
        rcases hend with h | h | h
        · rw [hx] at h; cases h
        · rw [hy] at h; cases h
        · exact h
      refine wpAny_bind (next_item g2 r2 hy fun h₄ n2 hs₄ => wpAny_pure ?_)
      have e4 := hs₄.extBut
      have hTO₄ : IsTrip h₄ TO x b c := e4 _ _ to3 hTO₃
      refine wpAny_bind (wpAny_seqItems hTO₄ rfl ?_)
      refine wpAny_bind (updateSeq_trip hTO₄ fun h₅ hTO₅ hs₅ => ?_)
      have e5 := hs₅.extBut
      replace hTO₅ : IsTrip h₅ TO x y c := hTO₅
      refine wpAny_bind (wpAny_letGo (wpAny_pure ?_))
      refine wpAny_bind (wpAny_bind (wpAny_onRaise ?_))
      show wpAny _ _ (Builtin.SmallTypes.nextOf (.ref i3) >>= _) _ _ _
      refine wpAny_bind (next_end hh (((((h3.ext e1 iz3).ext e2 ii2.symm).ext e3 to4.symm).ext e4 ii3.symm).ext e5 to4.symm) (((((q3.ext e1 w1).ext e2 w3).ext e3 w2).ext e4 w4).ext e5 w2) hu fun h₆ e e6 he => ?_)
      obtain ⟨oe, hoe, hce⟩ := he
      have hz₆ : IsZip h₆ z TI TO .ellipsis := e6 _ _ iz3.symm (e5 _ _ to1.symm (e4 _ _ iz2.symm hz₃))
      have hez : e ≠ z := fun x => by subst x; rw [hz₆] at hoe; cases hoe; simp at hce
      refine wpAny_setField_rec hz₆ (by simp) fun h₇ _ hs₇ => hE h₇ e (fun c o c1 c2 c3 c4 c5 x => hs₇.extBut _ _ c1 (e6 _ _ c5 (e5 _ _ c2 (e4 _ _ c4 (e3 _ _ c2 (e2 _ _ c3 (e1 _ _ c1 x))))))) ⟨oe, hs₇.extBut _ _ hez hoe, hce⟩

theorem pyNext_item {x y u : Value} {Q : Option Value → Shared → Prop} (D : Ap z TI TO i1 i2 i3 l1 l2 l3)
    (hz : IsZip s.heap z TI TO .none) (hTI : IsTrip s.heap TI (.ref i1) (.ref i2) (.ref i3)) (hTO : IsTrip s.heap TO a b c)
    (h1 : It b1 s.heap i1 l1 k) (h2 : It b2 s.heap i2 l2 k) (h3 : It b3 s.heap i3 l3 k) (q1 : Sq b1 s.heap l1 xs) (q2 : Sq b2 s.heap l2 ys) (q3 : Sq b3 s.heap l3 zs)
    (hx : xs[k]? = some x) (hy : ys[k]? = some y) (hu : zs[k]? = some u)
    (hQ : ∀ h', IsZip h' z TI TO (rawInt s.heap.objs.size) → IsTrip h' TO x y u → It b1 h' i1 l1 (k + 1) → It b2 h' i2 l2 (k + 1) → It b3 h' i3 l3 (k + 1) → IsTrip h' s.heap.objs.size x y u → h'.objs.size = s.heap.objs.size + 1 →
      Kp z TO i1 i2 i3 s.heap h' → Q (some (.ref s.heap.objs.size)) { s with heap := h' }) :
    wpAny (model prog w) A (pyNext (.ref z)) Q E s := by
  have hT : s.TypeIs (.ref z) "zip" := ⟨_, hz, rfl⟩
  unfold pyNext
  exact wpAny_bind (wpAny_attempt (wpAny_callSpecial?_slot (name := Str.ofString "__next__") hT F.slot_zip_next
    (wpAny_call_entry F.slot_zip_next hT F.entry_zip_next
      (zip_item D hz hTI hTO h1 h2 h3 q1 q2 q3 hx hy hu fun h' a1 a2 a3 a4 a5 a6 a7 a8 => wpAny_pure (hQ h' a1 a2 a3 a4 a5 a6 a7 a8)) (F.args_zip_next_1 _))))
theorem pyNext_end {Q : Option Value → Shared → Prop} (hh : A.handled = none) (D : Ap z TI TO i1 i2 i3 l1 l2 l3)
    (hz : IsZip s.heap z TI TO .none) (hTI : IsTrip s.heap TI (.ref i1) (.ref i2) (.ref i3)) (hTO : IsTrip s.heap TO a b c)
    (h1 : It b1 s.heap i1 l1 k) (h2 : It b2 s.heap i2 l2 k) (h3 : It b3 s.heap i3 l3 k) (q1 : Sq b1 s.heap l1 xs) (q2 : Sq b2 s.heap l2 ys) (q3 : Sq b3 s.heap l3 zs)
    (hend : xs[k]? = none ∨ ys[k]? = none ∨ zs[k]? = none)
    (hQ : ∀ h', Kp z TO i1 i2 i3 s.heap h' → Q none { s with heap := h' }) : wpAny (model prog w) A (pyNext (.ref z)) Q E s := by
  have hT : s.TypeIs (.ref z) "zip" := ⟨_, hz, rfl⟩
  unfold pyNext
  refine wpAny_bind (wpAny_attempt (wpAny_callSpecial?_slot (name := Str.ofString "__next__") hT F.slot_zip_next
    (wpAny_call_entry F.slot_zip_next hT F.entry_zip_next (zip_end hh D hz hTI hTO h1 h2 h3 q1 q2 q3 hend fun h' e hk he => ?_) (F.args_zip_next_1 _))))
  obtain ⟨o, ho, hc⟩ := he
  refine wpAny_bind (wpAny_isInstance (T := "StopIteration") (b := true) ⟨o, ho, hc⟩ isSubtype_stop ?_)
  exact wpAny_pure (hQ _ hk)
end
end L2.Jk.Z3

set_option Elab.async false
set_option linter.all false
set_option maxRecDepth 100000
set_option maxHeartbeats 4000000
/-! zip(a, b, c): made, walked. -/
namespace L2.Jk.Z3
open PySem PySem.W PySem.Spec PySem.Calls PyProof.Rows L2 L2.Jk
theorem typeCall_zip_3 (a b c : Value) : checkTypeCall "zip" ⟨[a, b, c], []⟩ = pure () := by kernel_rfl
theorem newCall_zip_3 (a b c : Value) : checkBuiltinCall "zip.__new__" ⟨[.type "zip", a, b, c], []⟩ = pure () := by kernel_rfl
theorem args_object_init_4 (a b c d : Value) : argsOk "object.__init__" ⟨[a, b, c, d], []⟩ := by
  unfold argsOk; rw [signature?_of (id := "object.__init__") (n := ['_', '_', 't', 'i', 'n', 'i', '_', '_']) (o := ['t', 'c', 'e', 'j', 'b', 'o']) (by kernel_rfl) PySem.F.owner_object]; kernel_rfl
def itO (b : Bool) (l : Addr) : Obj := match b with
  | true => { cls := .type "list_iterator", data := .fields #[.ref l, .int 0 0] }
  | false => { cls := .type "tuple_iterator", data := .fields #[.ref l, .int 0 0] }
theorem it_new {b : Bool} {h : Heap} {a l : Addr} (e : h.get? a = some (itO b l)) : It b h a l 0 := by
  cases b <;> exact ⟨_, e, rfl, rfl⟩
section
variable {prog : Program} {w : World} {A : Around} {E : Value → Shared → Prop} {s : Shared}
theorem pyIter_sq {b : Bool} {l : Addr} {xs : Array Value} {Q : Value → Shared → Prop} (hl : Sq b s.heap l xs) (hQ : Q (.ref s.heap.objs.size) { s with heap := s.heap.push (itO b l) }) : wpAny (model prog w) A (pyIter (.ref l)) Q E s := by
  cases b
  · exact wpAny_pyIter_tuple hl hQ
  · exact wpAny_pyIter_list hl hQ
abbrev g1 (h : Heap) (b1 : Bool) (l1 : Addr) : Heap := h.push (itO b1 l1)
abbrev g2 (h : Heap) (b1 b2 : Bool) (l1 l2 : Addr) : Heap := (g1 h b1 l1).push (itO b2 l2)
abbrev g3 (h : Heap) (b1 b2 b3 : Bool) (l1 l2 l3 : Addr) : Heap := (g2 h b1 b2 l1 l2).push (itO b3 l3)
abbrev g4 (h : Heap) (b1 b2 b3 : Bool) (l1 l2 l3 : Addr) : Heap := (g3 h b1 b2 b3 l1 l2 l3).push { cls := .type "tuple", data := .seq #[.ref h.objs.size, .ref (g1 h b1 l1).objs.size, .ref (g2 h b1 b2 l1 l2).objs.size] }
abbrev g5 (h : Heap) (b1 b2 b3 : Bool) (l1 l2 l3 : Addr) : Heap := (g4 h b1 b2 b3 l1 l2 l3).push { cls := .type "tuple", data := .seq #[.none, .none, .none] }
abbrev g6 (h : Heap) (b1 b2 b3 : Bool) (l1 l2 l3 : Addr) : Heap := (g5 h b1 b2 b3 l1 l2 l3).push { cls := .type "zip", data := .fields #[.none, .bool false, .bool false, .ref (g3 h b1 b2 b3 l1 l2 l3).objs.size, .ref (g4 h b1 b2 b3 l1 l2 l3).objs.size] }
theorem Sq.push {b : Bool} {h : Heap} {a : Addr} {xs : Array Value} (x : Sq b h a xs) (o : Obj) : Sq b (h.push o) a xs := x.at fun _ e => Heap.get?_push_of_some _ e
theorem meets_zip3_new (b1 b2 b3 : Bool) (l1 l2 l3 : Addr) (xs ys zs : Array Value) :
    Meets (Builtin.«zip.__new__» ⟨[.type "zip", .ref l1, .ref l2, .ref l3], []⟩) (fun _ R s => Sq b1 s.heap l1 xs ∧ Sq b2 s.heap l2 ys ∧ Sq b3 s.heap l3 zs ∧
      R (.ok (.ret (.ref (g5 s.heap b1 b2 b3 l1 l2 l3).objs.size))) { s with heap := g6 s.heap b1 b2 b3 l1 l2 l3 }) :=
  .of_wp fun prog w A R s h => by
    obtain ⟨hp, g, d, tk, os⟩ := s; obtain ⟨hl1, hl2, hl3, h⟩ := h
    have hsub := sub_zip
    have hL1 : Sq b1 (Shared.heap ⟨hp, g, d, tk, os⟩) l1 xs := hl1
    have hL2 : Sq b2 (Shared.heap ⟨hp.push (itO b1 l1), g, d, tk, os⟩) l2 ys := Sq.push hl2 _
    have hL3 : Sq b3 (Shared.heap ⟨(hp.push (itO b1 l1)).push (itO b2 l2), g, d, tk, os⟩) l3 zs := Sq.push (Sq.push hl3 _) _
    wp_walk using pyIter_sq hL1, pyIter_sq hL2, pyIter_sq hL3
    exact ⟨_, rfl, h⟩
theorem call_zip3 {b1 b2 b3 : Bool} {l1 l2 l3 : Addr} {xs ys zs : Array Value} {Q : Value → Shared → Prop} (hl1 : Sq b1 s.heap l1 xs) (hl2 : Sq b2 s.heap l2 ys) (hl3 : Sq b3 s.heap l3 zs)
    (h : ∀ h', IsZip h' (s.heap.objs.size + 5) (s.heap.objs.size + 3) (s.heap.objs.size + 4) .none → IsTrip h' (s.heap.objs.size + 3) (.ref s.heap.objs.size) (.ref (s.heap.objs.size + 1)) (.ref (s.heap.objs.size + 2)) →
      IsTrip h' (s.heap.objs.size + 4) .none .none .none → It b1 h' s.heap.objs.size l1 0 → It b2 h' (s.heap.objs.size + 1) l2 0 → It b3 h' (s.heap.objs.size + 2) l3 0 → h'.objs.size = s.heap.objs.size + 6 →
      (∀ c o, s.heap.get? c = some o → h'.get? c = some o) → Q (.ref (s.heap.objs.size + 5)) { s with heap := h' }) :
    wpAny (model prog w) A (call (.type "zip") [.ref l1, .ref l2, .ref l3]) Q E s := by
  refine callType_new PySem.F.called_zip (by decide) (typeCall_zip_3 _ _ _) (newCall_zip_3 _ _ _) (fun obj => args_object_init_4 obj _ _ _) PySem.F.entry_zip_new
    (meets_zip3_new b1 b2 b3 l1 l2 l3 xs ys zs) ⟨hl1, hl2, hl3, ?_⟩
  have z1 : (g1 s.heap b1 l1).objs.size = s.heap.objs.size + 1 := Heap.size_push ..
  have z2 : (g2 s.heap b1 b2 l1 l2).objs.size = s.heap.objs.size + 2 := by rw [Heap.size_push, z1]
  have z3 : (g3 s.heap b1 b2 b3 l1 l2 l3).objs.size = s.heap.objs.size + 3 := by rw [Heap.size_push, z2]
  have z4 : (g4 s.heap b1 b2 b3 l1 l2 l3).objs.size = s.heap.objs.size + 4 := by rw [Heap.size_push, z3]
  have z5 : (g5 s.heap b1 b2 b3 l1 l2 l3).objs.size = s.heap.objs.size + 5 := by rw [Heap.size_push, z4]
  have z6 : (g6 s.heap b1 b2 b3 l1 l2 l3).objs.size = s.heap.objs.size + 6 := by rw [Heap.size_push, z5]
  have p {h : Heap} {a : Addr} {o : Obj} (q : Obj) : h.get? a = some o → (h.push q).get? a = some o := Heap.get?_push_of_some _
  have e6 : (g6 s.heap b1 b2 b3 l1 l2 l3).get? (g5 s.heap b1 b2 b3 l1 l2 l3).objs.size = some _ := Heap.get?_push_size _ rfl
  have e5 : (g6 s.heap b1 b2 b3 l1 l2 l3).get? (g4 s.heap b1 b2 b3 l1 l2 l3).objs.size = some _ := p _ (Heap.get?_push_size _ rfl)
  have e4 : (g6 s.heap b1 b2 b3 l1 l2 l3).get? (g3 s.heap b1 b2 b3 l1 l2 l3).objs.size = some _ := p _ (p _ (Heap.get?_push_size _ rfl))
  have nf : ∀ b l, (itO b l).isFreed = false := fun b l => by cases b <;> rfl
  have e3 : (g6 s.heap b1 b2 b3 l1 l2 l3).get? (g2 s.heap b1 b2 l1 l2).objs.size = some (itO b3 l3) := p _ (p _ (p _ (Heap.get?_push_size _ (nf _ _))))
  have e2 : (g6 s.heap b1 b2 b3 l1 l2 l3).get? (g1 s.heap b1 l1).objs.size = some (itO b2 l2) := p _ (p _ (p _ (p _ (Heap.get?_push_size _ (nf _ _)))))
  have e1 : (g6 s.heap b1 b2 b3 l1 l2 l3).get? s.heap.objs.size = some (itO b1 l1) := p _ (p _ (p _ (p _ (p _ (Heap.get?_push_size _ (nf _ _))))))
  show _ ∧ _
  rw [z3, z4, z5] at e6
  rw [z1, z2, z3] at e4
  rw [z4] at e5
  rw [z2] at e3
  rw [z1] at e2
  rw [z5]
  exact ⟨⟨_, e6, rfl⟩, h _ e6 e4 e5 (it_new e1) (it_new e2) (it_new e3) z6 fun c o x => p _ (p _ (p _ (p _ (p _ (p _ x)))))⟩
end
theorem ap_new (I l1 l2 l3 : Nat) (h1 : l1 < I) (h2 : l2 < I) (h3 : l3 < I) : Ap (I + 5) (I + 3) (I + 4) I (I + 1) (I + 2) l1 l2 l3 := by
  have ne : ∀ {a b : Nat}, (a < b ∨ b < a) → a ≠ b := fun h e => by omega
  exact ⟨⟨ne (by omega), ne (by omega), ne (by omega), ne (by omega), ne (by omega)⟩, ⟨ne (by omega), ne (by omega), ne (by omega), ne (by omega)⟩, ⟨ne (by omega), ne (by omega), ne (by omega)⟩, ⟨ne (by omega), ne (by omega), ne (by omega)⟩,
    ⟨ne (by omega), ne (by omega), ne (by omega), ne (by omega), ne (by omega)⟩, ⟨ne (by omega), ne (by omega), ne (by omega), ne (by omega), ne (by omega)⟩, ⟨ne (by omega), ne (by omega), ne (by omega), ne (by omega), ne (by omega)⟩⟩

/-! ### over the hand layer's heap -/
def SqB : Bool → Frag → Hp → Addr → List V → Prop
  | true, K, H, a, xs => SqL K H a xs
  | false, K, H, a, xs => SqT K H a xs
theorem seqT_same {K : Frag} {H H' : Hp} {a : Addr} {xs : List V} (S : Same H H') (h : SqT K H a xs) : SqT K H' a xs := by
  rcases h with (h | ⟨o, h⟩) | h
  · exact .inl (.inl (S _ _ h))
  · exact .inl (.inr ⟨o, S _ _ h⟩)
  · exact .inr h
theorem SqB.same {b : Bool} {K : Frag} {H H' : Hp} {a : Addr} {xs : List V} (S : Same H H') (h : SqB b K H a xs) : SqB b K H' a xs := by
  cases b
  · exact seqT_same S h
  · exact Same.seq S h
section
variable {X : Cx} {pins : List (Addr × Obj)} {σ : St} {H : Hp} {s : Shared}
theorem inv_seq {b : Bool} {a : Addr} {xs : List V} (I : Inv X pins σ H s) (h : SqB b X.K H a xs) : ∃ its : List Value, Vals xs its ∧ Sq b s.heap a its.toArray := by
  cases b
  · obtain ⟨its, rv, p, _⟩ := I.tuple h
    exact ⟨its, rv, p⟩
  · obtain ⟨its, rv, p, _⟩ := I.list h
    exact ⟨its, rv, p.isList⟩
theorem inv_inj {b : Bool} {a : Addr} {xs ys : List V} (I : Inv X pins σ H s) (h : SqB b X.K H a xs) (h2 : SqB b X.K H a ys) : xs = ys := by
  cases b
  · exact I.tuple_inj h h2
  · exact I.list_inj h h2
end
def Itz3 (K : Frag) (b1 b2 b3 : Bool) (a1 a2 a3 : Addr) : L2.It :=
  ⟨fun i H => ∃ (xs ys zs : List V) (x y u : V), SqB b1 K H a1 xs ∧ SqB b2 K H a2 ys ∧ SqB b3 K H a3 zs ∧ xs[i]? = some x ∧ ys[i]? = some y ∧ zs[i]? = some u,
    fun i H v H' => ∃ T x y u, v = .ref T ∧ H T = none ∧ H' = upd H T (.tup [x, y, u]) ∧ (∀ xs, SqB b1 K H a1 xs → xs[i]? = some x) ∧ (∀ ys, SqB b2 K H a2 ys → ys[i]? = some y) ∧ ∀ zs, SqB b3 K H a3 zs → zs[i]? = some u,
    fun i H => ∃ xs ys zs : List V, SqB b1 K H a1 xs ∧ SqB b2 K H a2 ys ∧ SqB b3 K H a3 zs ∧ (xs.length ≤ i ∨ ys.length ≤ i ∨ zs.length ≤ i)⟩
theorem turn_zip3 {P : Program} {w : World} {K : Frag} {elts : List Expr} {kk : Nat} {tpos : Pos} {b1 b2 b3 : Bool} {a1 a2 a3 z TI TO i1 i2 i3 : Addr} (D : Ap z TI TO i1 i2 i3 a1 a2 a3) :
    Turn P w K (.Tuple elts kk tpos) (Itz3 K b1 b2 b3 a1 a2 a3) [z, TI, TO, i1, i2, i3] z (fun i h => IsZip h z TI TO .none ∧ IsTrip h TI (.ref i1) (.ref i2) (.ref i3) ∧ (∃ x y u, IsTrip h TO x y u) ∧ It b1 h i1 a1 i ∧ It b2 h i2 a2 i ∧ It b3 h i3 a3 i) where
  mem := by simp
  obj := fun i h st c hc => by
    obtain ⟨hz, hTI, ⟨x, y, u, hTO⟩, h1, h2, h3⟩ := st
    have e' : c = z ∨ c = TI ∨ c = TO ∨ c = i1 ∨ c = i2 ∨ c = i3 := by simpa using hc
    rcases e' with q | q | q | q | q | q
    · rw [q]; exact ⟨_, hz, fun v q => nomatch q⟩
    · rw [q]; exact ⟨_, hTI, fun v q => nomatch q⟩
    · rw [q]; exact ⟨_, hTO, fun v q => nomatch q⟩
    · rw [q]; exact h1.obj
    · rw [q]; exact h2.obj
    · rw [q]; exact h3.obj
  keep := fun i h h' st k => by
    obtain ⟨hz, hTI, ⟨x, y, u, hTO⟩, h1, h2, h3⟩ := st
    exact ⟨k z (by simp) _ hz, k TI (by simp) _ hTI, ⟨x, y, u, k TO (by simp) _ hTO⟩, h1.at fun o q => k i1 (by simp) o q, h2.at fun o q => k i2 (by simp) o q, h3.at fun o q => k i3 (by simp) o q⟩
  item := by
    intro X hP hw hK hc i pins s σ H E I hf st hg
    subst hP hw hK
    obtain ⟨hz, hTI, ⟨x0, y0, u0, hTO⟩, h1, h2, h3⟩ := st
    obtain ⟨xs, ys, zs, x, y, u, hqx, hqy, hqz, hx, hy, hu⟩ := hg
    obtain ⟨its, rv, p⟩ := inv_seq I hqx
    obtain ⟨its2, rv2, p2⟩ := inv_seq I hqy
    obtain ⟨its3, rv3, p3⟩ := inv_seq I hqz
    obtain ⟨v1, hv1, r1⟩ := rv.get hx
    obtain ⟨v2, hv2, r2⟩ := rv2.get hy
    obtain ⟨v3, hv3, r3⟩ := rv3.get hu
    have hzl : z < s.heap.objs.size := Heap.lt_size hz
    refine pyNext_item D hz hTI hTO h1 h2 h3 p p2 p3 (x := v1) (y := v2) (u := v3) (by simpa using hv1) (by simpa using hv2) (by simpa using hv3) fun h' z' TO' h1' h2' h3' hT hsz hk => ?_
    refine ⟨_, rfl, wpAny_letOwnedTupleGo_zip (s := { s with heap := h' }) z' fun h'' z'' sb => ?_⟩
    have hT2 : h''.get? s.heap.objs.size = some { cls := .type "tuple", data := .seq #[v1, v2, v3] } := (sb.2 _ (Nat.ne_of_gt hzl)).trans hT
    have new : ObjOk X.prog X.w (upd H s.heap.objs.size (.tup [x, y, u])) h'' s.heap.objs.size (.tup [x, y, u]) :=
      ⟨by show 3 ≤ sizeLine; decide, [v1, v2, v3], .cons r1 (.cons r2 (.cons r3 .nil)), ⟨_, hT2, rfl, _, rfl⟩⟩
    have I1 : Inv X pins σ (upd H s.heap.objs.size (.tup [x, y, u])) { s with heap := h'' } :=
      I.turnedNew (t' := s.toks) (ch := [z, TI, TO, i1, i2, i3]) (fun c o hb q => (sb.2 c (fun q' => hb (by simp [q']))).trans (hk c o (fun q' => hb (by simp [q'])) (fun q' => hb (by simp [q'])) (fun q' => hb (by simp [q'])) (fun q' => hb (by simp [q'])) (fun q' => hb (by simp [q'])) q)) hf (Nat.le_refl _) new
    obtain ⟨⟨ti1, ti2, ti3, ti4, ti5⟩, ⟨to1, to2, to3, to4⟩, ⟨iz1, iz2, iz3⟩, _⟩ := D
    refine ⟨.ref s.heap.objs.size, _, I1, rfl, ⟨_, x, y, u, rfl, I.hok.fresh (Nat.le_refl _), rfl, fun l hl => by rw [inv_inj I hl hqx]; exact hx, fun l hl => by rw [inv_inj I hl hqy]; exact hy, fun l hl => by rw [inv_inj I hl hqz]; exact hu⟩, ⟨z'', ?_, ⟨v1, v2, v3, ?_⟩, ?_, ?_, ?_⟩, fun c hcm => ?_⟩
    · exact (sb.2 _ ti1).trans (hk _ _ ti1 ti2 ti3 ti4 ti5 hTI)
    · exact (sb.2 _ to1).trans TO'
    · exact h1'.at fun o q => (sb.2 _ iz1).trans q
    · exact h2'.at fun o q => (sb.2 _ iz2).trans q
    · exact h3'.at fun o q => (sb.2 _ iz3).trans q
    · have hlt : c < s.heap.objs.size := by
        have e' : c = z ∨ c = TI ∨ c = TO ∨ c = i1 ∨ c = i2 ∨ c = i3 := by simpa using hcm
        rcases e' with q | q | q | q | q | q
        · rw [q]; exact hzl
        · rw [q]; exact Heap.lt_size hTI
        · rw [q]; exact Heap.lt_size hTO
        · rw [q]; exact h1.lt
        · rw [q]; exact h2.lt
        · rw [q]; exact h3.lt
      rw [upd_ne (Nat.ne_of_lt hlt)]
      exact (hf c hcm).1
  done := by
    intro X hP hw hK hc i pins s σ H E I hf st hg
    subst hP hw hK
    obtain ⟨hz, hTI, ⟨x0, y0, u0, hTO⟩, h1, h2, h3⟩ := st
    obtain ⟨xs, ys, zs, hqx, hqy, hqz, hend⟩ := hg
    obtain ⟨its, rv, p⟩ := inv_seq I hqx
    obtain ⟨its2, rv2, p2⟩ := inv_seq I hqy
    obtain ⟨its3, rv3, p3⟩ := inv_seq I hqz
    have l1 := rv.length
    have l2 := rv2.length
    have l3 := rv3.length
    have he : its.toArray[i]? = none ∨ its2.toArray[i]? = none ∨ its3.toArray[i]? = none := by
      rcases hend with q | q | q
      · exact .inl (by simp; omega)
      · exact .inr (.inl (by simp; omega))
      · exact .inr (.inr (by simp; omega))
    exact pyNext_end (I.ok.hd hc) D hz hTI hTO h1 h2 h3 p p2 p3 he fun h' hk => ⟨rfl, I.turnedL (t' := s.toks) (ch := [z, TI, TO, i1, i2, i3]) (fun c o hb q =>
      hk c o (fun q' => hb (by simp [q'])) (fun q' => hb (by simp [q'])) (fun q' => hb (by simp [q'])) (fun q' => hb (by simp [q'])) (fun q' => hb (by simp [q'])) q) hf⟩
  self := fun A i s Q E st h => wpAny_pyIter_zip st.1 h
def iZip3 (K : Frag) (ta : TA) : TI := fun σ H R => ta σ H fun vs H1 => ∃ a1 a2 a3 b1 b2 b3 xs ys zs, vs = [.ref a1, .ref a2, .ref a3] ∧ SqB b1 K H1 a1 xs ∧ SqB b2 K H1 a2 ys ∧ SqB b3 K H1 a3 zs ∧ R (Itz3 K b1 b2 b3 a1 a2 a3) H1
theorem pi_zip3 {X : Cx} {e e2 e3 : Expr} {ta : TA} {p pos tpos : Pos} {elts : List Expr} {kk : Nat} (hg : Gl X "zip") (hm : X.mg "zip" = none) (ha : PA X [e, e2, e3] ta)
    (hs : starEach [e, e2, e3] X.env = (false, eval e X.env) :: starEach [e2, e3] X.env := by rfl) (hpl : (backTo pos (starEach [e2, e3] X.env)).any (·.1) = false := by rfl) :
    PI X (.Tuple elts kk tpos) (.Call (.Name "zip" p) [e, e2, e3] [] pos) (iZip3 X.K ta) := by
  refine ⟨fun pins s σ H R I h => ?_⟩
  refine Call_ (ld_blt I hg hm PyProof.Rows.boot_zip (PyProof.Rows.callWith_type1 (thn (ha.run pos pins s σ H _ I h) fun us s1 ⟨vs, H1, I1, r1, q1⟩ => ?_) hs hpl))
  obtain ⟨a1, a2, a3, b1, b2, b3, xs, ys, zs, ex, hqx, hqy, hqz, q⟩ := q1
  subst ex
  cases r1 with
  | cons r rr =>
    cases rr with
    | cons r' rr =>
      cases rr with
      | cons r'' rr =>
        cases rr
        cases r
        cases r'
        cases r''
        have fresh6 : ∀ c, c ∈ [s1.heap.objs.size + 5, s1.heap.objs.size + 3, s1.heap.objs.size + 4, s1.heap.objs.size, s1.heap.objs.size + 1, s1.heap.objs.size + 2] → FpOk X pins H1 c := fun c hcm => by
          have e' : c = s1.heap.objs.size + 5 ∨ c = s1.heap.objs.size + 3 ∨ c = s1.heap.objs.size + 4 ∨ c = s1.heap.objs.size ∨ c = s1.heap.objs.size + 1 ∨ c = s1.heap.objs.size + 2 := by simpa using hcm
          have hle : s1.heap.objs.size ≤ c := by
            rcases e' with z | z | z | z | z | z
            · rw [z]; exact Nat.le_add_right _ _
            · rw [z]; exact Nat.le_add_right _ _
            · rw [z]; exact Nat.le_add_right _ _
            · rw [z]; exact Nat.le_refl _
            · rw [z]; exact Nat.le_add_right _ _
            · rw [z]; exact Nat.le_add_right _ _
          exact I1.fpOk hle (I1.hok.fresh hle)
        obtain ⟨its, rv, p1⟩ := inv_seq I1 hqx
        obtain ⟨its2, rv2, p2⟩ := inv_seq I1 hqy
        obtain ⟨its3, rv3, p3⟩ := inv_seq I1 hqz
        refine call_zip3 p1 p2 p3 fun h' hz hTI hTO h1 h2 h3 hsz hk => wpAny_pyIter_zip hz ?_
        have I2 : Inv X pins σ H1 { s1 with heap := h' } := I1.kept (t' := s1.toks) hk
        exact ⟨s1.heap.objs.size + 5, [s1.heap.objs.size + 5, s1.heap.objs.size + 3, s1.heap.objs.size + 4, s1.heap.objs.size, s1.heap.objs.size + 1, s1.heap.objs.size + 2], _, _, H1, rfl, I2,
          turn_zip3 (ap_new s1.heap.objs.size a1 a2 a3 p1.lt p2.lt p3.lt), ⟨hz, hTI, ⟨_, _, _, hTO⟩, h1, h2, h3⟩, fresh6, q⟩
/-- a comprehension over it -/
theorem lc_zip3 {K : Frag} {b1 b2 b3 : Bool} {a1 a2 a3 : Addr} {xs ys zs : List V} {g : TG} {tt : TT} {te : TE} {vs : List Nat} {σ : St} {H1 : Hp} {D : Addr} {Qd : Hp → Prop} (hl : xs.length = ys.length) (hl2 : xs.length = zs.length) (Pv : Nat → Hp → Prop)
    (h0 : Pv 0 (upd H1 D (.lst []))) (hq : ∀ i H, Pv i H → SqB b1 K H a1 xs ∧ SqB b2 K H a2 ys ∧ SqB b3 K H a3 zs)
    (hs : ∀ (i : Nat) (x y u : V) (T : Addr) (H : Hp), xs[i]? = some x → ys[i]? = some y → zs[i]? = some u → Pv i H → H T = none → g (.ref T) (wipe σ vs) (upd H T (.tup [x, y, u])) fun σ2 H2 => wipe σ2 vs = wipe σ vs ∧ tt σ2 H2 fun b H3 =>
      if b = true then te σ2 H3 fun y H4 => ∃ acc, H4 D = some (.lst acc) ∧ acc.length < sizeLine ∧ Pv (i + 1) (upd H4 D (.lst (acc ++ [y]))) else Pv (i + 1) H3) (hd : ∀ H, Pv xs.length H → Qd H) :
    ∃ W : Nat → Nat → Hp → Prop, (∃ m, W 0 m (upd H1 D (.lst []))) ∧ ∀ i m H, W i m H →
      ((Itz3 K b1 b2 b3 a1 a2 a3).stop i H ∧ Qd H) ∨ ((Itz3 K b1 b2 b3 a1 a2 a3).go i H ∧ ∃ Nx : Hp → Prop, (∀ H', Nx H' → ∃ m', m' < m ∧ W (i + 1) m' H') ∧ ∀ y H', (Itz3 K b1 b2 b3 a1 a2 a3).yld i H y H' → g y (wipe σ vs) H' fun σ2 H2 => wipe σ2 vs = wipe σ vs ∧ tt σ2 H2 fun b H3 =>
        if b = true then te σ2 H3 fun y H4 => ∃ acc, H4 D = some (.lst acc) ∧ acc.length < sizeLine ∧ Nx (upd H4 D (.lst (acc ++ [y]))) else Nx H3) := by
  refine ⟨fun i m H => m = xs.length - i ∧ i ≤ xs.length ∧ Pv i H, ⟨xs.length, by simp, Nat.zero_le _, h0⟩, ?_⟩
  rintro i m H ⟨rfl, hi, p⟩
  obtain ⟨s1, s2, s3⟩ := hq i H p
  by_cases hlt : i < xs.length
  · have g1 := List.getElem?_eq_getElem hlt
    have g2 := List.getElem?_eq_getElem (show i < ys.length by omega)
    have g3 := List.getElem?_eq_getElem (show i < zs.length by omega)
    refine .inr ⟨⟨xs, ys, zs, _, _, _, s1, s2, s3, g1, g2, g3⟩, Pv (i + 1), fun H' p' => ⟨xs.length - (i + 1), by omega, rfl, hlt, p'⟩, fun y H' z => ?_⟩
    obtain ⟨T, x, y, u, ev, hT, eH, k1, k2, k3⟩ := z
    subst ev eH
    exact hs i x y u T H (k1 _ s1) (k2 _ s2) (k3 _ s3) p hT
  · have e : i = xs.length := by omega
    subst e
    exact .inl ⟨⟨xs, ys, zs, s1, s2, s3, .inl (Nat.le_refl _)⟩, hd H p⟩
end L2.Jk.Z3

set_option Elab.async false
set_option linter.all false
set_option maxRecDepth 100000
set_option maxHeartbeats 4000000
/-! Layouts: made, their rows checked, the texts of rows. -/
namespace L2.K76
open PySem PySem.W PySem.Spec PySem.Calls PyProof.Rows L2.Jk
abbrev LA (K : Frag) : Addr := He.ga K "Layout"
structure P5 (P : Program) (w : World) (K : Frag) (mg : Str → Option Value) (base : Heap) : Prop extends P4 P w K mg base where
  hvMarked : HM P w K mg base 4 (ca K 5) "has_value" ["self", "thing"] (spMHV K)
  tfMarked : HM P w K mg base 4 (ca K 5) "text_for" ["self", "value"] (spMTF K)
def FD.ci : FD → Nat
  | .pl d => d.ci
  | .mk .. => 5
theorem FD.ci_lt : ∀ d : FD, d.ci < 6
  | .pl d => Nat.lt_of_lt_of_le d.ci_lt (by decide)
  | .mk .. => by show 5 < 6; decide
def FD.tfOk (v : V) : FD → Bool
  | .pl _ => true
  | .mk _ _ d => decide ((d.textF v).length ≤ 900)
section
variable {P : Program} {w : World} {K : Frag} {mg : Str → Option Value} {base : Heap} {f : Addr} {fd : FuncData}
theorem FdAt.ins {H : Hp} {y : Addr} {g : Str} (hg : g = "has_value" ∨ g = "text_for" ∨ g = "has_text" ∨ g = "value_for" ∨ g = "puts_before") : ∀ {d : FD}, FdAt K H y d → ∃ dx fs, H y = some (.ins (ca K d.ci) dx fs) ∧ fs.lookup g = none
  | .pl d, ⟨h, _⟩ => by
    obtain ⟨dx, fs, hi, _⟩ := h.ins
    exact ⟨dx, fs, hi, h.no hg _ _ _ hi⟩
  | .mk n m d, ⟨⟨dx, y2, h, _⟩, _⟩ => by
    refine ⟨dx, _, h, ?_⟩
    unfold fMarked
    rcases hg with rfl | rfl | rfl | rfl | rfl <;> (rw [lookup_putF, if_neg (by decide +kernel)]; rw [lookup_putF, if_neg (by decide +kernel)]; rw [lookup_putF, if_neg (by decide +kernel)]; rfl)
theorem HM.mono {j k : Nat} {C : Addr} {m : Str} {ps : List Str} {sp : Sp} (h : HM P w K mg base j C m ps sp) (hjk : j ≤ k) : HM P w K mg base k C m ps sp := by
  obtain ⟨fd, F, b⟩ := h.ok
  exact ⟨h.me, fd, F.mono hjk, b⟩
theorem P5.hv5 (G : P5 P w K mg base) {H : Hp} {y : Addr} : ∀ {d : FD}, FdAt K H y d → ∃ sp, HM P w K mg base 4 (ca K d.ci) "has_value" ["self", "thing"] sp ∧
    ∀ (v : V) (Q : VK) (E : XK), Thg H v → lenV v ≤ 900 → Q (.bl (d.hasV v)) H → sp [.ref y, v] H Q E
  | .pl d, ⟨h, i, u⟩ => by
    obtain ⟨sp, M, Hs⟩ := G.hv_ h i u
    exact ⟨sp, M.mono (by decide), fun v Q E hf hz q => Hs v Q E hf hz q⟩
  | .mk n m d, h => ⟨_, G.hvMarked, fun v Q E hf hz q => ⟨y, n, m, d, v, rfl, h, hf, hz, q⟩⟩
theorem P5.tf5 (G : P5 P w K mg base) {H : Hp} {y : Addr} : ∀ {d : FD}, FdAt K H y d → ∃ sp, HM P w K mg base 4 (ca K d.ci) "text_for" ["self", "value"] sp ∧
    ∀ (v : V) (Q : VK) (E : XK), vaOk v = true → d.hasV v = true → d.tfOk v = true → (∀ H', Same H H' → Q (.str (d.textF v)) H') → sp [.ref y, v] H Q E
  | .pl d, ⟨h, i, u⟩ => by
    obtain ⟨sp, M, Hs⟩ := G.tf_ h i u
    exact ⟨sp, M.mono (by decide), fun v Q E hf hz _ q => Hs v Q E hf hz q⟩
  | .mk n m d, h => ⟨_, G.tfMarked, fun v Q E hf hz ho q => ⟨y, n, m, d, v, rfl, h, hf, hz, of_decide_eq_true ho, q⟩⟩
/-! ### sequences -/
inductive SeqIs (K : Frag) (H : Hp) : V → Option (List V) → Prop
  | flat {v : V} (h : flatV v = true) : SeqIs K H v none
  | dict {p : Addr} {kvs : List (Key × V)} (h : H p = some (.dK kvs)) : SeqIs K H (.ref p) none
  | lst {p : Addr} {xs : List V} (h : H p = some (.lst xs)) : SeqIs K H (.ref p) (some xs)
  | tup {p : Addr} {xs : List V} (h : H p = some (.tup xs)) : SeqIs K H (.ref p) (some xs)
theorem SeqIs.same {K : Frag} {H H' : Hp} {v : V} {o : Option (List V)} (S : Same H H') : SeqIs K H v o → SeqIs K H' v o
  | .flat h => .flat h
  | .dict h => .dict (S _ _ h)
  | .lst h => .lst (S _ _ h)
  | .tup h => .tup (S _ _ h)
theorem SeqIs.sqb {K : Frag} {H : Hp} {v : V} {xs : List V} (h : SeqIs K H v (some xs)) : ∃ p b, v = .ref p ∧ Z3.SqB b K H p xs ∧ (SqL K H p xs ∨ SqT K H p xs) := by
  cases h with
  | lst h => exact ⟨_, true, rfl, SqL.of h, .inl (SqL.of h)⟩
  | tup h => exact ⟨_, false, rfl, SqT.of h, .inr (SqT.of h)⟩
def spSeq (K : Frag) : Sp := fun vs H Q _ => ∃ (v : V) (o : Option (List V)), vs = [v] ∧ SeqIs K H v o ∧ ∀ H', Same H H' → Q (.bl o.isSome) H'

abbrev s_is_sequence : Stmt := top 32
theorem sc_is_sequence : FnScope ["thing"] ["thing"] (defScope s_is_sequence) := ⟨rfl, rfl, rfl, by decide +kernel, rfl, by decide +kernel, by decide +kernel⟩

theorem ok_is_sequence (F : FunD K "is_sequence" "is_sequence" (defArgs s_is_sequence) (defBody s_is_sequence) (defScope s_is_sequence) [] [] f fd) (G : P5 P w K mg base) : FnOk P w K mg base CX0 1 f fd ["thing"] (spSeq K) := by
  refine F.ok (CX := CX0) sc_is_sequence (fun vs H Q E h => ?_) (fun cdv A outer s H vs Q E hr h => ?_)
  · obtain ⟨v, o, rfl, _⟩ := h
    rfl
  · refine ⟨_, PSs.nox (pss_one (ps_ret (pe_callB call_ieT (by rfl) G.isinstance (by decide +kernel) (pa_cons (pv 0) (pa_cons (pe_tupS (pa_cons (pe_bty (n := "list") (by rfl) G.list (by decide +kernel)) (pa_cons (pe_bty (n := "tuple") (by rfl) G.tuple (by decide +kernel)) pa_nil))) pa_nil))))), ?_⟩
    obtain ⟨v, o, rfl, h, q⟩ := h
    refine ⟨_, rfl, by show 2 ≤ 1000; decide, fun p0 H0 hp0 S0 e0 => ?_⟩
    have h := h.same S0
    have hn : ∀ S : String, kitB S "list" = some false → kitB S "tuple" = some false → kitAny K (.type S) [.type "list", .type "tuple"] = some false := fun S a b =>
      kitAny_cons (b := false) (kit_ty a) (fun _ => kitAny_cons (b := false) (kit_ty b) (fun _ => kitAny_nil) (fun z => nomatch z)) (fun z => nomatch z)
    cases h with
    | flat hf =>
      refine ⟨_, p0, _, _, _, false, rfl, e0, .cons (.ty _) (.cons (.ty _) Paired.nil), flat_ty hf, ?_, q _ S0⟩
      cases v with
      | non => exact hn "NoneType" (by decide +kernel) (by decide +kernel)
      | bl b => exact hn "bool" (by decide +kernel) (by decide +kernel)
      | int i => exact hn "int" (by decide +kernel) (by decide +kernel)
      | str z => exact hn "str" (by decide +kernel) (by decide +kernel)
      | _ => cases hf
    | dict hd => exact ⟨_, p0, _, _, _, false, rfl, e0, .cons (.ty _) (.cons (.ty _) Paired.nil), .x (.base (.dK hd)), hn "dict" (by decide +kernel) (by decide +kernel), q _ S0⟩
    | lst hl => exact ⟨_, p0, _, _, _, true, rfl, e0, .cons (.ty _) (.cons (.ty _) Paired.nil), .x (.base (.lst hl)), (kit_LT K).1, q _ S0⟩
    | tup hl => exact ⟨_, p0, _, _, _, true, rfl, e0, .cons (.ty _) (.cons (.ty _) Paired.nil), .x (.base (.tup hl)), (kit_LT K).2.1, q _ S0⟩

end
end L2.K76

set_option Elab.async false
set_option linter.all false
set_option maxRecDepth 100000
set_option maxHeartbeats 4000000
/-! Layouts: made, their rows checked, the texts of rows. -/
namespace L2.K76
open PySem PySem.W PySem.Spec PySem.Calls PyProof.Rows L2.Jk
def fLayout (x y : V) : List (Str × V) := putF "joints" y (putF "fields" x [])
theorem lLayout_fields {x y : V} : (fLayout x y).lookup ("fields" : Str) = some x := by unfold fLayout; rw [lookup_putF, if_neg (by decide +kernel)]; rw [lookup_putF, if_pos rfl]
theorem lLayout_joints {x y : V} : (fLayout x y).lookup ("joints" : Str) = some y := by unfold fLayout; rw [lookup_putF, if_pos rfl]
/-- the fields that stand at values -/
def FsAt (K : Frag) (H : Hp) (ys : List V) (ds : List FD) : Prop := ys.length = ds.length ∧ ∀ (i : Nat) (v : V) (d : FD), ys[i]? = some v → ds[i]? = some d → ∃ y, v = .ref y ∧ FdAt K H y d
theorem FsAt.same {K : Frag} {H H' : Hp} {ys : List V} {ds : List FD} (S : Same H H') (h : FsAt K H ys ds) : FsAt K H' ys ds := ⟨h.1, fun i v d a b => by
  obtain ⟨y, e, k⟩ := h.2 i v d a b
  exact ⟨y, e, k.same S⟩⟩
theorem FsAt.get {K : Frag} {H : Hp} {ys : List V} {ds : List FD} (h : FsAt K H ys ds) {i : Nat} {v : V} (e : ys[i]? = some v) : ∃ y d, v = .ref y ∧ ds[i]? = some d ∧ FdAt K H y d := by
  have hi := (List.getElem?_eq_some_iff.mp e).1
  have e2 := List.getElem?_eq_getElem (show i < ds.length by rw [← h.1]; exact hi)
  obtain ⟨y, ev, k⟩ := h.2 i v _ e e2
  exact ⟨y, _, ev, e2, k⟩
def JN : List Str := ["", "!", "~"]
structure LyOk (ds : List FD) (js : List Str) : Prop where
  few : ds.length ≤ 30
  some : ds ≠ []
  len : js.length + 1 = ds.length
  jn : ∀ j ∈ js, j ∈ JN
structure LayAt (K : Frag) (H : Hp) (L : Addr) (ds : List FD) (js : List Str) : Prop where
  ex : ∃ dx t1 t2 ys, H L = some (.ins (LA K) dx (fLayout (.ref t1) (.ref t2))) ∧ SqT K H t1 ys ∧ FsAt K H ys ds ∧ SqT K H t2 (js.map V.str)
  ok : LyOk ds js
theorem LayAt.same {K : Frag} {H H' : Hp} {L : Addr} {ds : List FD} {js : List Str} (S : Same H H') (h : LayAt K H L ds js) : LayAt K H' L ds js := by
  obtain ⟨⟨dx, t1, t2, ys, a, b, c, d⟩, o⟩ := h
  exact ⟨⟨dx, t1, t2, ys, S _ _ a, Z3.seqT_same S b, c.same S, Z3.seqT_same S d⟩, o⟩
def JK : List Str := JN
theorem call_ieTK {X : Cx} {K : Frag} (h : X.K = K) : CallR X (.builtin "isinstance") (rIeT K) := by
  subst h
  exact call_ieT
structure P6 (P : Program) (w : World) (K : Frag) (mg : Str → Option Value) (base : Heap) : Prop extends P5 P w K mg base where
  is_sequence : FnAt P w K mg base CX0 1 "is_sequence" ["thing"] (spSeq K)
  low : ∃ t, mg "LOW" = some (.str "!" t)
  high : ∃ t, mg "HIGH" = some (.str "~" t)
  cLayout : C0 K mg "Layout" ["fields", "joints"]
  nr : ErrAt P w K mg base "NoRow" (NR K) ["place"] "refused norow"
  max : mg "max" = none
  zip : mg "zip" = none
section
variable {P : Program} {w : World} {K : Frag} {mg : Str → Option Value} {base : Heap} {f : Addr} {fd : FuncData}
theorem kit6 (G : G4 P w K mg base) : ∀ i, i < 6 → kitAny K (.ref (ca K i)) [.ref (ca K 0), .ref (ca K 1), .ref (ca K 2), .ref (ca K 3), .ref (ca K 4), .ref (ca K 5)] = some true
  | 0, h => by
    have k := fun j (hj : j < 6) => G.kit 0 j h hj
    exact kitAny_cons (b := true) (k 0 (by decide)) (fun z => nomatch z) (fun _ => rfl)
  | 1, h => by
    have k := fun j (hj : j < 6) => G.kit 1 j h hj
    exact kitAny_cons (b := false) (k 0 (by decide)) (fun _ => kitAny_cons (b := true) (k 1 (by decide)) (fun z => nomatch z) (fun _ => rfl)) (fun z => nomatch z)
  | 2, h => by
    have k := fun j (hj : j < 6) => G.kit 2 j h hj
    exact kitAny_cons (b := false) (k 0 (by decide)) (fun _ => kitAny_cons (b := false) (k 1 (by decide)) (fun _ => kitAny_cons (b := true) (k 2 (by decide)) (fun z => nomatch z) (fun _ => rfl)) (fun z => nomatch z)) (fun z => nomatch z)
  | 3, h => by
    have k := fun j (hj : j < 6) => G.kit 3 j h hj
    exact kitAny_cons (b := false) (k 0 (by decide)) (fun _ => kitAny_cons (b := false) (k 1 (by decide)) (fun _ => kitAny_cons (b := false) (k 2 (by decide)) (fun _ => kitAny_cons (b := true) (k 3 (by decide)) (fun z => nomatch z) (fun _ => rfl)) (fun z => nomatch z)) (fun z => nomatch z)) (fun z => nomatch z)
  | 4, h => by
    have k := fun j (hj : j < 6) => G.kit 4 j h hj
    exact kitAny_cons (b := false) (k 0 (by decide)) (fun _ => kitAny_cons (b := false) (k 1 (by decide)) (fun _ => kitAny_cons (b := false) (k 2 (by decide)) (fun _ => kitAny_cons (b := false) (k 3 (by decide)) (fun _ => kitAny_cons (b := true) (k 4 (by decide)) (fun z => nomatch z) (fun _ => rfl)) (fun z => nomatch z)) (fun z => nomatch z)) (fun z => nomatch z)) (fun z => nomatch z)
  | 5, h => by
    have k := fun j (hj : j < 6) => G.kit 5 j h hj
    exact kitAny_cons (b := false) (k 0 (by decide)) (fun _ => kitAny_cons (b := false) (k 1 (by decide)) (fun _ => kitAny_cons (b := false) (k 2 (by decide)) (fun _ => kitAny_cons (b := false) (k 3 (by decide)) (fun _ => kitAny_cons (b := false) (k 4 (by decide)) (fun _ => kitAny_cons (b := true) (k 5 (by decide)) (fun z => nomatch z) (fun _ => rfl)) (fun z => nomatch z)) (fun z => nomatch z)) (fun z => nomatch z)) (fun z => nomatch z)) (fun z => nomatch z)
  | n + 6, h => absurd h (by omega)

def spCkF (K : Frag) : Sp := fun vs H Q _ => ∃ (p : Addr) (ys : List V) (ds : List FD), vs = [.ref p] ∧ H p = some (.lst ys) ∧ FsAt K H ys ds ∧ ys.length ≤ 1000 ∧ ys ≠ [] ∧ ∀ H', Same H H' → Q .non H'

abbrev s_check_fields : Stmt := top 33
theorem sc_check_fields : FnScope ["fields", "field"] ["fields"] (defScope s_check_fields) := ⟨rfl, rfl, rfl, by decide +kernel, rfl, by decide +kernel, by decide +kernel⟩

theorem ok_check_fields (F : FunD K "check_fields" "check_fields" (defArgs s_check_fields) (defBody s_check_fields) (defScope s_check_fields) [] [] f fd) (G : P6 P w K mg base) : FnOk P w K mg base CX0 2 f fd ["fields"] (spCkF K) := by
  refine F.ok (CX := CX0) sc_check_fields (fun vs H Q E h => ?_) (fun cdv A outer s H vs Q E hr h => ?_)
  · obtain ⟨p, ys, ds, rfl, _⟩ := h
    rfl
  · refine ⟨_, PSs.nox (pss_cons (ps_if (PW.pt (pw_or (pt_not (pt_val (pe_fn G.is_sequence (hr.mono (by decide)) pass0 (by rfl) (pa_cons (pv 0) pa_nil)))) (pw_or1 (pt_cmpR op_eq (pe_callB call_len_seq (by rfl) G.len (by decide +kernel) (pa_cons (pv 0) pa_nil)) pe_int (nomark _)))))
      (pss_one ps_never)
      pss_nil)
    (pss_one (ps_if (pt_not (pt_val (pe_callB (cr_all rfl) (by rfl) G.all (by decide +kernel) (pa_cons (pe_lc (own := [("field", 1)]) (g := gName 1) (tt := tYes) rfl sc_check_fields.nd (pi_list (pv 0)) (blkOk_by (N := ["fields", "field"]) (sc := defScope s_check_fields) (by decide +kernel)) (fun _ _ _ _ _ => pg_name (i := 1) sc_check_fields.nd rfl (Or.inl rfl)) (fun _ _ _ _ _ => pts_nil) (fun _ _ _ _ _ => (pe_callB (call_ieTK (K := K) rfl) (by rfl) G.isinstance (by decide +kernel) (pa_cons (pv 1) (pa_cons (pe_tupS (pa_cons (pe_gref (by rfl) G.cWord.mgC) (pa_cons (pe_gref (by rfl) G.cNumber.mgC) (pa_cons (pe_gref (by rfl) G.cFixed.mgC) (pa_cons (pe_gref (by rfl) G.cListed.mgC) (pa_cons (pe_gref (by rfl) G.cEnded.mgC) (pa_cons (pe_gref (by rfl) G.cMarked.mgC) pa_nil))))))) pa_nil))))) pa_nil))))
      (pss_one ps_never)
      pss_nil))), ?_⟩
    obtain ⟨p, ys, ds, rfl, hp, hF, hz, hne, q⟩ := h
    refine ⟨_, rfl, _, _, rfl, .lst hp, fun H0 S0 => ?_⟩
    have hp0 := S0 _ _ hp
    refine ⟨_, rfl, iteF ?_⟩
    refine ⟨_, rfl, p, ys, rfl, .inl (SqL.of hp0), rfl, _, rfl, ?_⟩
    rw [decide_eq_false (show ¬ V.int (ys.length : Nat) = V.int 0 from fun z => hne (List.length_eq_zero_iff.mp (by injection z with z; omega)))]
    refine iteF ?_
    refine ⟨_, rfl, p, rfl, ⟨_, SqL.of hp0⟩, fun D hD => ?_⟩
    refine lc_list (K := K) (a := p) (xs := ys) (LcP H0 D fun n => (ys.take n).map fun _ => V.bl true) (LcP.start hD rfl) (fun i J hi pJ => SqL.of (pJ.1 _ _ hp0)) ?_ ?_
    · intro i v J hv pJ
      obtain ⟨y, d, rfl, _, k⟩ := ((hF.same S0).same pJ.1).get hv
      obtain ⟨dx, fs, hi, _⟩ := k.ins (.inl rfl)
      have hlt := (List.getElem?_eq_some_iff.mp hv).1
      refine ⟨rfl, _, rfl, by show 6 ≤ 1000; decide, fun p1 H1 hp1 S1 e1 => ?_⟩
      exact ⟨_, p1, _, _, _, true, rfl, e1, .cons (.own _) (.cons (.own _) (.cons (.own _) (.cons (.own _) (.cons (.own _) (.cons (.own _) Paired.nil))))), G.ty d.ci_lt (S1 _ _ hi), kit6 G.toG4 _ d.ci_lt, pJ.put S1 (take_succ_map _ hv) (by omega)⟩
    · rintro J ⟨S1, _, eJ, _⟩
      have eJ2 : J D = some (.lst ((ys.map fun _ => true).map V.bl)) := by rw [eJ]; show some (HO.lst ((ys.take ys.length).map fun _ => V.bl true)) = _; rw [List.take_length, List.map_map]; rfl
      refine ⟨D, ys.map fun _ => true, rfl, SqL.of eJ2, _, rfl, ?_⟩
      have ea : (ys.map fun _ => true).all id = true := by rw [List.all_map]; exact List.all_eq_true.mpr fun _ _ => rfl
      rw [ea]
      exact iteF (q _ (S0.trans S1))

def spJn : Sp := fun vs H Q _ => ∃ j : Str, vs = [.str j] ∧ j ∈ JN ∧ ∀ H', Same H H' → Q (.bl true) H'

end
end L2.K76

set_option Elab.async false
set_option linter.all false
set_option maxRecDepth 100000
set_option maxHeartbeats 4000000
/-! Layouts: made, their rows checked, the texts of rows. -/
namespace L2.K76
open PySem PySem.W PySem.Spec PySem.Calls PyProof.Rows L2.Jk
/-- o.m(e, ..) in a context that is not named yet -/
def tMethK (P : Program) (w : World) (K : Frag) (mg : Str → Option Value) (base : Heap) (k : Nat) (CX : CXT) (m : Str) (E : XK) (ta : TE) (t : TA) : TE := fun σ H Q => ta σ H fun x H1 => ∃ (a C dx f : Addr) (fs : List (Str × V)) (fd : FuncData) (ps : List Str) (sp : Sp), x = .ref a ∧ H1 a = some (.ins C dx fs) ∧ fs.lookup m = none ∧
  Cls K C ∧ Meth K C m f ∧ FnOk P w K mg base CX k f fd ps sp ∧ Binds K fd ps [] ∧ t σ H1 fun vs H2 => sp (x :: vs) H2 Q E
section
variable {P : Program} {w : World} {K : Frag} {mg : Str → Option Value} {base : Heap} {k : Nat} {X : Cx} {CX : CXT} {E : XK} {o e : Expr} {es : List Expr} {m : Str} {ta : TE} {t : TA} {apos pos : Pos}
theorem pe_methK {pl : Sem Bool} (eP : X.prog = P) (ew : X.w = w) (eK : X.K = K) (em : X.mg = mg) (eb : X.base = base) (hr : Room k X.A) (he : PE X o ta) (hx : Passes CX X E) (ha : PA X (e :: es) t)
    (hst : starEach (e :: es) X.env = (false, eval e X.env) :: starEach es X.env := by rfl) (hpl : (backTo pos (starEach es X.env)).any (·.1) = false := by rfl)
    (ht : eval (.Call (.Attribute o m apos) (e :: es) [] pos) X.env = (do
      let ov ← eval o X.env
      standAt apos.atName
      let (f, first) ← holding [ov] (getMethod ov m pl)
      callWith pos f first (backTo pos (starEach (e :: es) X.env)) (backToKw pos (keywordEach [] X.env))) := by rfl) :
    PE X (.Call (.Attribute o m apos) (e :: es) [] pos) (tMethK P w K mg base k CX m E ta t) := by
  subst eP ew eK em eb
  refine ⟨fun pins s σ H Q I h => ?_⟩
  refine PySem.W.methodCall_KW (pl := pl) (thn (he.run pins s σ H _ I h) fun u s1 hh => ?_) ht
  obtain ⟨x, H1, I1, rx, a, C, dx, f, fs, fd, ps, sp, ex, ea, l, c, hm, F, hb, q⟩ := hh
  subst ex
  obtain rfl : u = Value.ref a := rx
  refine getmeth_ok I1 ea c hm l ?_
  refine PySem.W.callWith_K (first := [.ref a]) (h₀ := X.base) I.ok.mod.kin hm.kp (thn (ha.run pos pins s1 σ H1 _ I1 q) fun us s2 ⟨vs, H2, I2, r, q2⟩ => ⟨I2.kIn, ?_⟩) hst hpl
  have q2' : sp (V.ref a :: (vs ++ [])) H2 Q E := by rw [List.append_nil]; exact q2
  exact run_fn (us := .ref a :: us) (vs := .ref a :: vs) (dvs := []) (ds := []) F hr hb .nil hx I2 (.cons rfl r) q2'
end
structure P7 (P : Program) (w : World) (K : Frag) (mg : Str → Option Value) (base : Heap) : Prop extends P6 P w K mg base where
  check_fields : FnAt P w K mg base CX0 2 "check_fields" ["fields"] (spCkF K)
  is_joint : FnAt P w K mg base CX0 1 "is_joint" ["thing"] spJn
section
variable {P : Program} {w : World} {K : Frag} {mg : Str → Option Value} {base : Heap} {f : Addr} {fd : FuncData}

abbrev s_is_joint : Stmt := top 34
theorem sc_is_joint : FnScope ["thing"] ["thing"] (defScope s_is_joint) := ⟨rfl, rfl, rfl, by decide +kernel, rfl, by decide +kernel, by decide +kernel⟩

theorem ok_is_joint (F : FunD K "is_joint" "is_joint" (defArgs s_is_joint) (defBody s_is_joint) (defScope s_is_joint) [] [] f fd) (G : P6 P w K mg base) : FnOk P w K mg base CX0 1 f fd ["thing"] spJn := by
  refine F.ok (CX := CX0) sc_is_joint (fun vs H Q E h => ?_) (fun cdv A outer s H vs Q E hr h => ?_)
  · obtain ⟨j, rfl, _⟩ := h
    rfl
  · refine ⟨_, PSs.nox (pss_one (ps_ret (pe_and (pe_callB call_ie (by rfl) G.isinstance (by decide +kernel) (pa_cons (pv 0) (pa_cons (pe_bty (n := "str") (by rfl) G.str (by decide +kernel)) pa_nil))) (pe_one (pe_cmpR op_in_seq (pv 0) (pe_tupS (pa_cons pe_str (pa_cons (pe_sg G.low) (pa_cons (pe_sg G.high) pa_nil)))) (by rfl)))))), ?_⟩
    obtain ⟨j, rfl, hj, q⟩ := h
    refine ⟨_, rfl, _, _, _, _, _, rfl, .ty _, flat_ty (v := .str j) rfl, kit_ty (kit_str (v := .str j) rfl), _, rfl, ?_⟩
    refine iteT ⟨_, rfl, by show 3 ≤ 1000; decide, fun p H1 hp S1 e1 => ⟨p, _, rfl, .inr (SqT.of e1), rfl, rfl, ?_⟩⟩
    have e : inV (.str j) [V.str "", V.str "!", V.str "~"] = true := by
      rcases List.mem_cons.mp hj with rfl | h
      · decide +kernel
      rcases List.mem_cons.mp h with rfl | h
      · decide +kernel
      rcases List.mem_cons.mp h with rfl | h
      · decide +kernel
      cases h
    rw [e]
    exact q _ S1

def spLay (K : Frag) : Sp := fun vs H Q _ => ∃ (L dx p p2 : Addr) (ys : List V) (ds : List FD) (js : List Str), vs = [.ref L, .ref p, .ref p2] ∧ H L = some (.ins (LA K) dx []) ∧ H p = some (.lst ys) ∧ FsAt K H ys ds ∧ H p2 = some (.lst (js.map V.str)) ∧ LyOk ds js ∧
  ∀ H' t1 t2, Same H H' → SqT K H' t1 ys → SqT K H' t2 (js.map V.str) → Q .non (upd H' L (.ins (LA K) dx (fLayout (.ref t1) (.ref t2))))
theorem seqL_same {K : Frag} {H H' : Hp} {a : Addr} {xs : List V} (S : Same H H') (h : H a = some (.lst xs)) : SqL K H' a xs := SqL.of (S _ _ h)

abbrev s_Layout_init : Stmt := inClass (top 35) 0
theorem sc_Layout_init : FnScope ["self", "fields", "joints", "joint"] ["self", "fields", "joints"] (defScope s_Layout_init) := ⟨rfl, rfl, rfl, by decide +kernel, rfl, by decide +kernel, by decide +kernel⟩

theorem ok_Layout_init (F : FunD K "__init__" "Layout.__init__" (defArgs s_Layout_init) (defBody s_Layout_init) (defScope s_Layout_init) [] [] f fd) (G : P7 P w K mg base) : FnOk P w K mg base CX0 3 f fd ["self", "fields", "joints"] (spLay K) := by
  refine F.ok (CX := CX0) sc_Layout_init (fun vs H Q E h => ?_) (fun cdv A outer s H vs Q E hr h => ?_)
  · obtain ⟨L, dx, p, p2, ys, ds, js, rfl, _⟩ := h
    rfl
  · refine ⟨_, PSs.nox (pss_cons (ps_expr (pe_fn G.check_fields (hr.mono (by decide)) pass0 (by rfl) (pa_cons (pv 1) pa_nil)))
    (pss_cons (ps_if (PW.pt (pw_or (pt_not (pt_val (pe_fn G.is_sequence (hr.mono (by decide)) pass0 (by rfl) (pa_cons (pv 2) pa_nil)))) (pw_or1 (pt_cmpR op_ne (pe_callB call_len_seq (by rfl) G.len (by decide +kernel) (pa_cons (pv 2) pa_nil)) (pe_op op_sub (pe_callB call_len_seq (by rfl) G.len (by decide +kernel) (pa_cons (pv 1) pa_nil)) pe_int) (nomark _)))))
      (pss_one ps_never)
      pss_nil)
    (pss_cons (ps_if (pt_not (pt_val (pe_callB (cr_all rfl) (by rfl) G.all (by decide +kernel) (pa_cons (pe_lc (own := [("joint", 3)]) (g := gName 3) (tt := tYes) rfl sc_Layout_init.nd (pi_list (pv 2)) (blkOk_by (N := ["self", "fields", "joints", "joint"]) (sc := defScope s_Layout_init) (by decide +kernel)) (fun _ _ _ _ _ => pg_name (i := 3) sc_Layout_init.nd rfl (Or.inl rfl)) (fun _ _ _ _ _ => pts_nil) (fun _ _ _ _ _ => (pe_fn G.is_joint (hr.mono (by decide)) pass0 (by rfl) (pa_cons (pv 3) pa_nil)))) pa_nil))))
      (pss_one ps_never)
      pss_nil)
    (pss_cons (ps_fld (pv 0) (pe_callTy call_tupleZ (by rfl) G.tuple (by decide +kernel) (pa_cons (pv 1) pa_nil)) rfl)
    (pss_one (ps_fld (pv 0) (pe_callTy call_tupleZ (by rfl) G.tuple (by decide +kernel) (pa_cons (pv 2) pa_nil)) rfl)))))), ?_⟩
    obtain ⟨L, dx, p, p2, ys, ds, js, rfl, hL, hp, hF, hp2, ok, q⟩ := h
    have hlen : ys.length = ds.length := hF.1
    have hfew := ok.few
    have hjl := ok.len
    refine ⟨_, rfl, p, ys, ds, rfl, hp, hF, by omega, fun z => ok.some (List.length_eq_zero_iff.mp (by rw [← hlen, z]; rfl)), fun H0 S0 => ?_⟩
    have hp2' := S0 _ _ hp2
    refine ⟨_, rfl, _, _, rfl, .lst hp2', fun H1 S1 => ⟨_, rfl, iteF ?_⟩⟩
    have T1 : Same H H1 := S0.trans S1
    refine ⟨_, rfl, p2, _, rfl, .inl (SqL.of (T1 _ _ hp2)), _, rfl, p, _, rfl, .inl (SqL.of (T1 _ _ hp)), _, _, rfl, rfl, rfl, _, rfl, ?_⟩
    refine ite2 (fun h => absurd h ?_) (fun _ => ?_)
    · rw [show decide (V.int (((js.map V.str).length : Nat) : Int) = V.int ((ys.length : Int) - 1)) = true from decide_eq_true (congrArg V.int (by rw [List.length_map]; omega))]
      decide
    refine ⟨_, rfl, p2, rfl, ⟨_, SqL.of (T1 _ _ hp2)⟩, fun D hD => ?_⟩
    refine lc_list (K := K) (a := p2) (xs := js.map V.str) (LcP H1 D fun n => (js.take n).map fun _ => V.bl true) (LcP.start hD rfl) (fun i J hi pJ => SqL.of (pJ.1 _ _ (T1 _ _ hp2))) ?_ ?_
    · intro i v J hv pJ
      obtain ⟨j, hj, rfl⟩ : ∃ j, js[i]? = some j ∧ V.str j = v := by rw [List.getElem?_map] at hv; cases e : js[i]? with
        | none => rw [e] at hv; cases hv
        | some j => rw [e] at hv; exact ⟨j, rfl, Option.some.inj hv⟩
      have hlt := (List.getElem?_eq_some_iff.mp hj).1
      exact ⟨rfl, _, rfl, j, rfl, ok.jn j (List.mem_of_getElem? hj), fun H2 S2 => pJ.put S2 (take_succ_map _ hj) (by omega)⟩
    · rintro J ⟨S2, _, eJ, _⟩
      have eJ2 : J D = some (.lst ((js.map fun _ => true).map V.bl)) := by rw [eJ]; show some (HO.lst ((js.take (js.map V.str).length).map fun _ => V.bl true)) = _; rw [List.length_map, List.take_length, List.map_map]; rfl
      refine ⟨D, js.map fun _ => true, rfl, SqL.of eJ2, _, rfl, ?_⟩
      have ea : (js.map fun _ => true).all id = true := by rw [List.all_map]; exact List.all_eq_true.mpr fun _ _ => rfl
      rw [ea]
      have T2 : Same H J := T1.trans S2
      refine iteF ⟨_, rfl, p, ys, rfl, .inl ⟨SqL.of (T2 _ _ hp), fun t1 H3 ht1 S3 tz1 => ?_⟩⟩
      have T3 := T2.trans S3
      refine ⟨_, rfl, L, _, dx, _, rfl, T3 _ _ hL, G.cLayout.cl, G.cLayout.no _ (by decide +kernel), (by show 0 < 1000; decide), ?_⟩
      have nL : p2 ≠ L := fun e => by rw [e, hL] at hp2; cases hp2
      refine ⟨_, rfl, p2, _, rfl, .inl ⟨SqL.of (by show upd H3 L _ p2 = _; rw [upd_ne nL]; exact T3 _ _ hp2), fun t2 H4 ht2 S4 tz2 => ?_⟩⟩
      refine ⟨_, rfl, L, _, dx, _, rfl, S4 _ _ upd_same, G.cLayout.cl, G.cLayout.no _ (by decide +kernel), (by show 1 < 1000; decide), ?_⟩
      obtain ⟨o1, oc1, od1, oe1⟩ := tz1
      obtain ⟨o2, oc2, od2, oe2⟩ := tz2
      have n1 : t1 ≠ L := fun e => by rw [e, T2 _ _ hL] at ht1; cases ht1
      have n2 : t2 ≠ L := fun e => by rw [e, upd_same] at ht2; cases ht2
      have z := q (upd H4 L (.ins (LA K) dx [])) t1 t2 (fun b o e => by
        by_cases hb : b = L
        · subst hb
          rw [upd_same]
          rw [hL] at e
          exact e
        · rw [upd_ne hb]
          refine S4 _ _ ?_
          rw [upd_ne hb]
          exact T3 _ _ e) (.inl (.inr ⟨o1, by
            rw [upd_ne n1]
            refine S4 _ _ ?_
            rw [upd_ne n1]
            exact oe1⟩)) (.inl (.inr ⟨o2, by rw [upd_ne n2]; exact oe2⟩))
      rw [upd_upd] at z
      exact z

structure P8 (P : Program) (w : World) (K : Frag) (mg : Str → Option Value) (base : Heap) : Prop extends P7 P w K mg base where
  kLayout : ClsAt P w K mg base CX0 3 "Layout" (LA K) ["self", "fields", "joints"] (spLay K)
def spJB (K : Frag) : Sp := fun vs H Q _ => ∃ (L : Addr) (ds : List FD) (js : List Str), vs = [.ref L] ∧ LayAt K H L ds js ∧ ∀ p H', Same H H' → SqT K H' p ((js ++ [("" : Str)]).map V.str) → Q (.ref p) H'
/-- the first place that does not fit -/
def badAt (ds : List FD) (xs : List V) (i : Nat) : Bool := match ds[i]?, xs[i]? with
  | some d, some x => !d.hasV x
  | _, _ => true
def rowDue (ds : List FD) : Option (List V) → Option Int
  | none => some (-1)
  | some xs => ((List.range (max xs.length ds.length)).find? (badAt ds xs)).map fun i : Nat => (i : Int)
def RowIn (H : Hp) : Option (List V) → Prop
  | none => True
  | some xs => xs.length ≤ 1000 ∧ ∀ x ∈ xs, Thg H x ∧ lenV x ≤ 900
theorem RowIn.same {H H' : Hp} (S : Same H H') : ∀ {o : Option (List V)}, RowIn H o → RowIn H' o
  | none, _ => trivial
  | some _, ⟨a, b⟩ => ⟨a, fun x hx => ⟨(b x hx).1.same S, (b x hx).2⟩⟩
def spCkR (K : Frag) : Sp := fun vs H Q E => ∃ (L : Addr) (ds : List FD) (js : List Str) (v : V) (o : Option (List V)), vs = [.ref L, v] ∧ LayAt K H L ds js ∧ SeqIs K H v o ∧ RowIn H o ∧
  (rowDue ds o = none → ∀ H', Same H H' → Q .non H') ∧ ∀ z, rowDue ds o = some z → RaiseE (NR K) "place" (.int z) H E
theorem find_at {p : Nat → Bool} {n i : Nat} (hi : i < n) (h1 : p i = true) (h2 : ∀ j, j < i → p j = false) : (List.range n).find? p = some i := by
  rw [List.find?_range_eq_some]
  exact ⟨h1, List.mem_range.mpr hi, fun j hj => by rw [h2 j hj]; rfl⟩

abbrev s_joints_behind : Stmt := top 36
theorem sc_joints_behind : FnScope ["layout"] ["layout"] (defScope s_joints_behind) := ⟨rfl, rfl, rfl, by decide +kernel, rfl, by decide +kernel, by decide +kernel⟩

theorem ok_joints_behind (F : FunD K "joints_behind" "joints_behind" (defArgs s_joints_behind) (defBody s_joints_behind) (defScope s_joints_behind) [] [] f fd) (G : P8 P w K mg base) : FnOk P w K mg base CX0 1 f fd ["layout"] (spJB K) := by
  refine F.ok (CX := CX0) sc_joints_behind (fun vs H Q E h => ?_) (fun cdv A outer s H vs Q E hr h => ?_)
  · obtain ⟨L, ds, js, rfl, _⟩ := h
    rfl
  · refine ⟨_, PSs.nox (pss_one (ps_ret (pe_op op_catA (pe_fld (pv 0) rfl) (pe_tupS (pa_cons pe_str pa_nil))))), ?_⟩
    obtain ⟨L, ds, js, rfl, ⟨⟨dx, t1, t2, ys, hL, h1, hF, h2⟩, ok⟩, q⟩ := h
    have hl := ok.len
    have hf := ok.few
    refine ⟨_, rfl, L, _, dx, _, _, rfl, hL, G.cLayout.cl, G.cLayout.no _ (by decide +kernel), lLayout_joints, by show 1 ≤ 1000; decide, fun p H1 hp S1 e1 => ?_⟩
    refine ⟨t2, p, js.map V.str, [.str ""], rfl, rfl, Z3.seqT_same S1 h2, SqT.of e1, by rw [List.length_map, sizeLine_eq]; show js.length + 1 ≤ 16777216; omega, fun e => ?_, fun _ e => (by cases e), fun _ _ p2 hp2 => ?_⟩
    · refine q _ _ S1 ?_
      rw [List.map_append, e]
      exact SqT.of e1
    · refine q _ _ (S1.trans (same_upd hp2)) ?_
      rw [List.map_append]
      exact SqT.of upd_same

abbrev s_check_row : Stmt := top 37
theorem sc_check_row : FnScope ["layout", "row", "place"] ["layout", "row"] (defScope s_check_row) := ⟨rfl, rfl, rfl, by decide +kernel, rfl, by decide +kernel, by decide +kernel⟩

theorem ok_check_row (F : FunD K "check_row" "check_row" (defArgs s_check_row) (defBody s_check_row) (defScope s_check_row) [] [] f fd) (G : P8 P w K mg base) : FnOk P w K mg base (L2.CX P w) 5 f fd ["layout", "row"] (spCkR K) := by
  refine F.ok (CX := (L2.CX P w)) sc_check_row (fun vs H Q E h => ?_) (fun cdv A outer s H vs Q E hr h => ?_)
  · obtain ⟨L, ds, js, v, o, rfl, _⟩ := h
    rfl
  · have hr2 : Room 2 _ := hr.mono (by decide)
    refine ⟨_, (pss_cons (ps_if (pt_not (pt_val (pe_fn G.is_sequence (hr.mono (by decide)) pass0 (by rfl) (pa_cons (pv 1) pa_nil))))
      (pss_one (ps_raise rfl (takes_of rfl rfl rfl rfl) (pmk_1 G.nr hr2 (by rfl) (pa_cons (pe_un un_neg pe_int) pa_nil))))
      pss_nil)
    (pss_one (ps_for (passes_of rfl) rfl (pi_range1 (by rfl) G.range (pa_cons (pe_callB (call_max2 rfl) (by rfl) G.max (by decide +kernel) (pa_cons (pe_callB call_len_seq (by rfl) G.len (by decide +kernel) (pa_cons (pv 1) pa_nil)) (pa_cons (pe_callB call_len_seq (by rfl) G.len (by decide +kernel) (pa_cons (pe_fld (pv 0) rfl) pa_nil)) pa_nil))) pa_nil)) (pg_name (i := 2) sc_check_row.nd rfl (Or.inl rfl))
      (pss_cons (ps_if (PW.pt (pw_or (pt_cmpR op_ge (pv 2) (pe_callB call_len_seq (by rfl) G.len (by decide +kernel) (pa_cons (pv 1) pa_nil)) (nomark _)) (pw_or1 (pt_cmpR op_ge (pv 2) (pe_callB call_len_seq (by rfl) G.len (by decide +kernel) (pa_cons (pe_fld (pv 0) rfl) pa_nil)) (nomark _)))))
        (pss_one (ps_raise rfl (takes_of rfl rfl rfl rfl) (pmk_1 G.nr hr2 (by rfl) (pa_cons (pv 2) pa_nil))))
        pss_nil)
      (pss_one (ps_if (pt_not (pt_val (pe_methK (P := P) (w := w) (K := K) (mg := mg) (base := base) (k := 4) (CX := CX0) rfl rfl rfl rfl rfl hr (pe_ix ix_tup (pe_fld (pv 0) rfl) (pv 2) (fun _ _ => rfl)) pass0 (pa_cons (pe_ix ix_seq (pv 1) (pv 2) (fun _ _ => rfl)) pa_nil))))
        (pss_one (ps_raise rfl (takes_of rfl rfl rfl rfl) (pmk_1 G.nr hr2 (by rfl) (pa_cons (pv 2) pa_nil))))
        pss_nil)))))), ?_⟩
    obtain ⟨L, ds, js, v, o, rfl, hLy, hS, hR, q1, q2⟩ := h
    refine ⟨_, rfl, v, o, rfl, hS, fun H0 S0 => ⟨_, rfl, ?_⟩⟩
    have hLy0 := hLy.same S0
    have hS0 := hS.same S0
    have hR0 := hR.same S0
    cases o with
    | none => exact iteT ⟨_, rfl, mkO_1 (raise_mono S0 (q2 _ rfl))⟩
    | some xs =>
    refine iteF ?_
    obtain ⟨p, b, rfl, hsq, hor⟩ := hS0.sqb
    obtain ⟨⟨dx, t1, t2, ys, hL, h1, hF, h2⟩, ok⟩ := id hLy0
    obtain ⟨hxl, hxs⟩ := hR0
    have hlen : ys.length = ds.length := hF.1
    have hf := ok.few
    refine ⟨_, rfl, p, xs, rfl, hor, _, rfl, L, _, dx, _, _, rfl, hL, G.cLayout.cl, G.cLayout.no _ (by decide +kernel), lLayout_fields, t1, ys, rfl, .inr h1, _, _, rfl, ?_⟩
    have eM : (if (ys.length : Int) > (xs.length : Int) then (ys.length : Int) else (xs.length : Int)) = ((max xs.length ds.length : Nat) : Int) := by
      split <;> omega
    rw [eM]
    refine ⟨_, rfl, by omega, by omega, ?_⟩
    refine for_range (lo := 0) (n := max xs.length ds.length) (fun i σ H' => (∃ v2, σ = [some (.ref L), some (.ref p), v2]) ∧ Same H0 H' ∧ ∀ j, j < i → badAt ds xs j = false) ⟨⟨_, rfl⟩, Same.refl _, fun j hj => absurd hj (Nat.not_lt_zero _)⟩ ?_ ?_
    · rintro i σ J hi ⟨⟨v2, rfl⟩, S1, hb⟩
      have hLy1 := hLy0.same S1
      obtain ⟨⟨dx, t1, t2, ys, hL, h1, hF, h2⟩, _⟩ := id hLy1
      have hlen : ys.length = ds.length := hF.1
      have hor1 : SqL K J p xs ∨ SqT K J p xs := hor.imp (fun h => S1.seq h) (fun h => Z3.seqT_same S1 h)
      have hR1 := hxs
      have T1 := S0.trans S1
      have bad : badAt ds xs i = true → RaiseE (NR K) "place" (.int ((0 : Int) + (i : Int))) J E := fun hbd => raise_mono T1 (q2 _ (by
        show ((List.range (max xs.length ds.length)).find? (badAt ds xs)).map _ = _
        rw [find_at hi hbd hb, Int.zero_add]
        rfl))
      rw [Int.zero_add] at bad ⊢
      refine ⟨_, rfl, _, rfl, p, xs, rfl, hor1, _, _, rfl, rfl, _, rfl, ?_⟩
      refine ite2 (fun c1 => ?_) (fun c1 => ?_)
      · have c1' : ¬ i < xs.length := by have := of_decide_eq_true c1; omega
        refine iteT ⟨_, rfl, mkO_1 (bad ?_)⟩
        unfold badAt
        rw [List.getElem?_eq_none (show xs.length ≤ i by omega)]
        cases ds[i]? <;> rfl
      · have c1' : i < xs.length := by
          refine Decidable.byContradiction fun z => c1 (decide_eq_true ?_)
          omega
        refine ⟨_, rfl, _, rfl, L, _, dx, _, _, rfl, hL, G.cLayout.cl, G.cLayout.no _ (by decide +kernel), lLayout_fields, t1, ys, rfl, .inr h1, _, _, rfl, rfl, _, rfl, ?_⟩
        refine ite2 (fun c2 => ?_) (fun c2 => ?_)
        · have c2' : ¬ i < ds.length := by have := of_decide_eq_true c2; omega
          refine ⟨_, rfl, mkO_1 (bad ?_)⟩
          unfold badAt
          rw [List.getElem?_eq_none (show ds.length ≤ i by omega)]
        · have c2' : i < ds.length := by
            refine Decidable.byContradiction fun z => c2 (decide_eq_true ?_)
            omega
          obtain ⟨x, hx⟩ : ∃ x, xs[i]? = some x := ⟨_, List.getElem?_eq_getElem c1'⟩
          obtain ⟨y0, hy0⟩ : ∃ x, ys[i]? = some x := ⟨_, List.getElem?_eq_getElem (by omega)⟩
          obtain ⟨y, d, rfl, hd, hk⟩ := hF.get hy0
          have eb : badAt ds xs i = !d.hasV x := by
            unfold badAt
            rw [hd, hx]
          rw [eb] at bad
          obtain ⟨ey, fs, hin, lf⟩ := hk.ins (g := "has_value") (.inl rfl)
          obtain ⟨sp, M, Hs⟩ := G.toP5.hv5 hk
          obtain ⟨fde, Fe, Be⟩ := M.ok
          obtain ⟨ht, hlv⟩ := hxs x (List.mem_of_getElem? hx)
          have aty : atI ys (i : Int) = some (.ref y) := (atI_nat hy0)
          have atx : atI xs (i : Int) = some x := (atI_nat hx)
          refine ⟨_, rfl, L, _, dx, _, _, rfl, hL, G.cLayout.cl, G.cLayout.no _ (by decide +kernel), lLayout_fields, _, rfl, t1, ys, _, _, rfl, rfl, h1, aty, y, _, ey, _, fs, fde, _, sp, rfl, hin, lf, G.cl _ d.ci_lt, M.me, Fe, Be, _, rfl, _, rfl, ?_⟩
          have fin : ∀ v2, sp [.ref y, x] J v2 E0 → sp [.ref y, x] J v2 E0 := fun _ h => h
          rcases hor1 with hl | hl
          · refine .inl ⟨p, xs, _, x, rfl, rfl, hl, atx, Hs x _ _ (ht.same S1) hlv ⟨_, rfl, ?_⟩⟩
            refine ite2 (fun c => ⟨_, rfl, mkO_1 (bad c)⟩) (fun c => ⟨⟨_, rfl⟩, S1, fun j hj => ?_⟩)
            rcases Nat.lt_or_ge j i with h | h
            · exact hb j h
            · rw [show j = i by omega, eb]
              exact Bool.eq_false_iff.mpr c
          · refine .inr (.inl ⟨p, xs, _, x, rfl, rfl, hl, atx, Hs x _ _ (ht.same S1) hlv ⟨_, rfl, ?_⟩⟩)
            refine ite2 (fun c => ⟨_, rfl, mkO_1 (bad c)⟩) (fun c => ⟨⟨_, rfl⟩, S1, fun j hj => ?_⟩)
            rcases Nat.lt_or_ge j i with h | h
            · exact hb j h
            · rw [show j = i by omega, eb]
              exact Bool.eq_false_iff.mpr c
    · rintro σ J ⟨⟨v2, rfl⟩, S1, hb⟩
      refine q1 ?_ _ (S0.trans S1)
      show ((List.range (max xs.length ds.length)).find? (badAt ds xs)).map _ = none
      rw [List.find?_eq_none.mpr (fun j hj => by rw [hb j (List.mem_range.mp hj)]; decide)]
      rfl

structure P9 (P : Program) (w : World) (K : Frag) (mg : Str → Option Value) (base : Heap) : Prop extends P8 P w K mg base where
  joints_behind : FnAt P w K mg base CX0 1 "joints_behind" ["layout"] (spJB K)
  check_row : FnAt P w K mg base (L2.CX P w) 5 "check_row" ["layout", "row"] (spCkR K)
def piece (ds : List FD) (js : List Str) (xs : List V) (i : Nat) : Str := match ds[i]?, xs[i]?, (js ++ [("" : Str)])[i]? with
  | some d, some x, some j => d.textF x ++ j
  | _, _, _ => ""
def pieces (ds : List FD) (js : List Str) (xs : List V) : List Str := (List.range ds.length).map (piece ds js xs)
def rowText (ds : List FD) (js : List Str) (xs : List V) : Str := Txt.join "" (pieces ds js xs)
/-- the texts of a row are not too long -/
def RowT (ds : List FD) (xs : List V) : Prop := ∀ (i : Nat) (d : FD) (x : V), ds[i]? = some d → xs[i]? = some x → vaOk x = true ∧ d.tfOk x = true ∧ (d.textF x).length ≤ 900
def spRT (K : Frag) : Sp := fun vs H Q E => ∃ (L : Addr) (ds : List FD) (js : List Str) (v : V) (o : Option (List V)), vs = [.ref L, v] ∧ LayAt K H L ds js ∧ SeqIs K H v o ∧ RowIn H o ∧
  (rowDue ds o = none → ∀ xs, o = some xs → RowT ds xs ∧ ∀ H', Same H H' → Q (.str (rowText ds js xs)) H') ∧ ∀ z, rowDue ds o = some z → RaiseE (NR K) "place" (.int z) H E
theorem due_none {ds : List FD} {o : Option (List V)} (h : rowDue ds o = none) : ∃ xs, o = some xs ∧ xs.length = ds.length ∧ ∀ (i : Nat) (d : FD) (x : V), ds[i]? = some d → xs[i]? = some x → d.hasV x = true := by
  cases o with
  | none => cases h
  | some xs =>
    have h : ((List.range (max xs.length ds.length)).find? (badAt ds xs)).map (fun i : Nat => (i : Int)) = none := h
    have h0 : (List.range (max xs.length ds.length)).find? (badAt ds xs) = none := by
      cases e : (List.range (max xs.length ds.length)).find? (badAt ds xs) with
      | none => rfl
      | some i => rw [e] at h; cases h
    have all : ∀ i, i < max xs.length ds.length → badAt ds xs i = false := fun i hi => Bool.eq_false_iff.mpr (List.find?_eq_none.mp h0 i (List.mem_range.mpr hi))
    have bad0 : ∀ i, badAt ds xs i = false → i < xs.length ∧ i < ds.length := fun i hb => by
      unfold badAt at hb
      cases e1 : ds[i]? with
      | none => rw [e1] at hb; cases hb
      | some d =>
        cases e2 : xs[i]? with
        | none => rw [e1, e2] at hb; cases hb
        | some x => exact ⟨(List.getElem?_eq_some_iff.mp e2).1, (List.getElem?_eq_some_iff.mp e1).1⟩
    refine ⟨xs, rfl, ?_, fun i d x e1 e2 => ?_⟩
    · rcases Nat.lt_trichotomy xs.length ds.length with k | k | k
      · have := (bad0 xs.length (all _ (by omega))).1
        omega
      · exact k
      · have := (bad0 ds.length (all _ (by omega))).2
        omega
    · have z := all i (by have := (List.getElem?_eq_some_iff.mp e2).1; omega)
      unfold badAt at z
      rw [e1, e2] at z
      cases e : d.hasV x with
      | true => rfl
      | false =>
        have z : (!d.hasV x) = false := z
        rw [e] at z
        cases z
theorem mem_joint {ds : List FD} {js : List Str} (ok : LyOk ds js) {i : Nat} {j : Str} (h : (js ++ [("" : Str)])[i]? = some j) : j.length ≤ 1 := by
  have hm := List.mem_of_getElem? h
  have z : ∀ j ∈ JN, j.length ≤ 1 := by decide +kernel
  rcases List.mem_append.mp hm with k | k
  · exact z j (ok.jn j k)
  · rcases List.mem_cons.mp k with rfl | k
    · exact Nat.zero_le _
    · cases k
theorem append_len (a b : Str) : (a ++ b).length = a.length + b.length := by
  show (a.cps ++ b.cps).size = _
  rw [Array.size_append]
  rfl
theorem piece_len {ds : List FD} {js : List Str} {xs : List V} (ok : LyOk ds js) (hT : RowT ds xs) (i : Nat) : (piece ds js xs i).length ≤ 901 := by
  unfold piece
  cases e1 : ds[i]? with
  | none => exact Nat.zero_le _
  | some d =>
    cases e2 : xs[i]? with
    | none => exact Nat.zero_le _
    | some x =>
      cases e3 : (js ++ [("" : Str)])[i]? with
      | none => exact Nat.zero_le _
      | some j =>
        obtain ⟨_, _, h⟩ := hT i d x e1 e2
        have h2 := mem_joint ok e3
        show (d.textF x ++ j).length ≤ 901
        rw [append_len]
        omega
theorem sum_len {α : Type} {f : α → Nat} {k : Nat} : ∀ (xs : List α), (∀ x ∈ xs, f x ≤ k) → (xs.map f).sum ≤ xs.length * k
  | [], _ => Nat.zero_le _
  | x :: xs, h => by
    have h1 := h x (List.mem_cons_self ..)
    have h2 := sum_len xs fun y hy => h y (List.mem_cons_of_mem _ hy)
    rw [List.map_cons, List.sum_cons, List.length_cons, Nat.succ_mul]
    omega

theorem pg_tupK {X : Cx} {K : Frag} {es : List Expr} {k : Nat} {t : TGs} {n : Nat} {pos : Pos} (hK : X.K = K) (hc : X.calm = true) (h : PGs X es t)
    (hn : (assignEach es X.env).length = n := by rfl) (hst : (assignEach es X.env).findIdx? (·.1) = none := by rfl) : PG X (.Tuple es k pos) (gTup K n t) := by
  subst hK
  exact pg_tup hc h hn hst

abbrev s_row_text : Stmt := top 38
theorem sc_row_text : FnScope ["layout", "row", "field", "value", "joint"] ["layout", "row"] (defScope s_row_text) := ⟨rfl, rfl, rfl, by decide +kernel, rfl, by decide +kernel, by decide +kernel⟩

theorem ok_row_text (F : FunD K "row_text" "row_text" (defArgs s_row_text) (defBody s_row_text) (defScope s_row_text) [] [] f fd) (G : P9 P w K mg base) : FnOk P w K mg base (L2.CX P w) 6 f fd ["layout", "row"] (spRT K) := by
  refine F.ok (CX := (L2.CX P w)) sc_row_text (fun vs H Q E h => ?_) (fun cdv A outer s H vs Q E hr h => ?_)
  · obtain ⟨L, ds, js, v, o, rfl, _⟩ := h
    rfl
  · have hr2 : Room 2 _ := hr.mono (by decide)
    refine ⟨_, (pss_cons (ps_expr (pe_fnS G.check_row hr (fun σ => passAt (takes_of rfl rfl rfl rfl) σ) (by rfl) (pa_cons (pv 0) (pa_cons (pv 1) pa_nil))))
    (pss_one (ps_ret (pe_join pe_str (pe_lc (own := [("field", 2), ("value", 3), ("joint", 4)]) (g := _) (tt := tYes) rfl sc_row_text.nd (Z3.pi_zip3 (by rfl) G.zip (pa_cons (pe_fld (pv 0) rfl) (pa_cons (pv 1) (pa_cons (pe_fn G.joints_behind (hr.mono (by decide)) pass0 (by rfl) (pa_cons (pv 0) pa_nil)) pa_nil)))) (blkOk_by (N := ["layout", "row", "field", "value", "joint"]) (sc := defScope s_row_text) (by decide +kernel)) (fun _ _ _ _ _ => pg_tupK (n := 3) (K := K) rfl rfl (pgs_cons (pg_name (i := 2) sc_row_text.nd rfl (Or.inl rfl)) (pgs_cons (pg_name (i := 3) sc_row_text.nd rfl (Or.inl rfl)) (pgs_cons (pg_name (i := 4) sc_row_text.nd rfl (Or.inl rfl)) pgs_nil)))) (fun _ _ _ _ _ => pts_nil) (fun _ _ _ _ _ => (pe_op op_add_str (pe_methK (P := P) (w := w) (K := K) (mg := mg) (base := base) (k := 4) (CX := CX0) rfl rfl rfl rfl rfl (hr.mono (by decide)) (pv 2) pass0 (pa_cons (pv 3) pa_nil)) (pv 4)))))))), ?_⟩
    obtain ⟨L, ds, js, v, o, rfl, hLy, hS, hR, q1, q2⟩ := h
    refine ⟨_, rfl, _, rfl, L, ds, js, v, o, rfl, hLy, hS, hR, fun hn H0 S0 => ?_, fun z hz => q2 z hz⟩
    obtain ⟨xs, rfl, hxl, hall⟩ := due_none hn
    obtain ⟨hT, q⟩ := q1 hn xs rfl
    have hLy0 := hLy.same S0
    obtain ⟨hx1, hx2⟩ := hR.same S0
    obtain ⟨p, b, rfl, hsq, hor⟩ := (hS.same S0).sqb
    obtain ⟨⟨dx, t1, t2, ys, hL, h1, hF, h2⟩, ok⟩ := id hLy0
    have hlen : ys.length = ds.length := hF.1
    have hfew := ok.few
    have hjl := ok.len
    refine ⟨⟨_, rfl⟩, _, rfl, L, _, dx, _, _, rfl, hL, G.cLayout.cl, G.cLayout.no _ (by decide +kernel), lLayout_fields, _, rfl, _, rfl, L, ds, js, rfl, hLy0, fun p3 H1 S1 h3 => ?_⟩
    refine ⟨t1, p, p3, false, b, false, ys, xs, (js ++ [("" : Str)]).map V.str, rfl, Z3.seqT_same S1 h1, Z3.SqB.same S1 hsq, h3, fun D hD => ?_⟩
    refine Z3.lc_zip3 (K := K) (by omega) (by rw [List.length_map, List.length_append]; show ys.length = js.length + 1; omega) (LcP H1 D fun n => ((List.range n).map (piece ds js xs)).map V.str) (LcP.start hD rfl) (fun i J pJ => ⟨Z3.seqT_same (S1.trans pJ.1) h1, Z3.SqB.same (S1.trans pJ.1) hsq, Z3.seqT_same pJ.1 h3⟩) ?_ ?_
    · intro i y x u T J hy hx hu pJ hTn
      obtain ⟨ya, d, rfl, hd, hk⟩ := hF.get hy
      obtain ⟨j, hj, rfl⟩ : ∃ j, (js ++ [("" : Str)])[i]? = some j ∧ V.str j = u := by
        rw [List.getElem?_map] at hu
        cases e : (js ++ [("" : Str)])[i]? with
        | none => rw [e] at hu; cases hu
        | some j => rw [e] at hu; exact ⟨j, rfl, Option.some.inj hu⟩
      have SJ := (S1.trans pJ.1).trans (same_upd (o := .tup [.ref ya, x, .str j]) hTn)
      have hk2 := hk.same SJ
      obtain ⟨ey, fs, hin, lf⟩ := hk2.ins (g := "text_for") (.inr (.inl rfl))
      obtain ⟨sp, M, Hs⟩ := G.toP5.tf5 hk2
      obtain ⟨fde, Fe, Be⟩ := M.ok
      obtain ⟨hv1, hv2, hv3⟩ := hT i d x hd hx
      have hi := (List.getElem?_eq_some_iff.mp hd).1
      have hj1 := mem_joint ok hj
      have ep : piece ds js xs i = d.textF x ++ j := by
        unfold piece
        rw [hd, hx, hj]
      refine ⟨T, _, rfl, SqT.of upd_same, rfl, _, _, rfl, _, _, rfl, _, _, rfl, rfl, rfl, _, rfl, ya, _, ey, _, fs, fde, _, sp, rfl, hin, lf, G.cl _ d.ci_lt, M.me, Fe, Be, _, rfl, Hs x _ _ hv1 (hall i d x hd hx) hv2 fun H3 S3 => ?_⟩
      refine ⟨_, rfl, _, j, rfl, rfl, by rw [sizeLine_eq]; omega, pJ.put ((same_upd hTn).trans S3) ?_ (by omega)⟩
      show (List.map V.str (List.map (piece ds js xs) (List.range (i + 1)))) = _
      rw [List.range_succ, List.map_append, List.map_append]
      show _ ++ [V.str (piece ds js xs i)] = _
      rw [ep]
    · rintro J ⟨S2, _, eJ, _⟩
      rw [hlen] at eJ
      refine ⟨_, D, pieces ds js xs, rfl, rfl, .inl (SqL.of eJ), ?_, q _ ((S0.trans S1).trans S2)⟩
      have z := sum_len (f := fun x : Str => x.length) (k := 901) (pieces ds js xs) (fun x hx => by
        obtain ⟨i, _, rfl⟩ := List.mem_map.mp hx
        exact piece_len ok hT i)
      have l : (pieces ds js xs).length = ds.length := by
        unfold pieces
        rw [List.length_map, List.length_range]
      rw [l] at z ⊢
      have z2 : ("" : Str).length = 0 := rfl
      rw [z2, Nat.mul_zero, Nat.add_zero]
      omega

end
end L2.K76

set_option Elab.async false
set_option linter.all false
set_option maxRecDepth 100000
set_option maxHeartbeats 4000000
/-! A comprehension over zip of three, the second one the shortest. -/
namespace L2.Jk.Z3
open PySem PySem.W PySem.Spec PySem.Calls PyProof.Rows L2
theorem lc_zip3S {K : Frag} {b1 b2 b3 : Bool} {a1 a2 a3 : Addr} {xs ys zs : List V} {g : TG} {tt : TT} {te : TE} {vs : List Nat} {σ : St} {H1 : Hp} {D : Addr} {Qd : Hp → Prop} (hl : ys.length ≤ xs.length) (hl2 : ys.length ≤ zs.length) (Pv : Nat → Hp → Prop)
    (h0 : Pv 0 (upd H1 D (.lst []))) (hq : ∀ i H, Pv i H → SqB b1 K H a1 xs ∧ SqB b2 K H a2 ys ∧ SqB b3 K H a3 zs)
    (hs : ∀ (i : Nat) (x y u : V) (T : Addr) (H : Hp), xs[i]? = some x → ys[i]? = some y → zs[i]? = some u → Pv i H → H T = none → g (.ref T) (wipe σ vs) (upd H T (.tup [x, y, u])) fun σ2 H2 => wipe σ2 vs = wipe σ vs ∧ tt σ2 H2 fun b H3 =>
      if b = true then te σ2 H3 fun y H4 => ∃ acc, H4 D = some (.lst acc) ∧ acc.length < sizeLine ∧ Pv (i + 1) (upd H4 D (.lst (acc ++ [y]))) else Pv (i + 1) H3) (hd : ∀ H, Pv ys.length H → Qd H) :
    ∃ W : Nat → Nat → Hp → Prop, (∃ m, W 0 m (upd H1 D (.lst []))) ∧ ∀ i m H, W i m H →
      ((Itz3 K b1 b2 b3 a1 a2 a3).stop i H ∧ Qd H) ∨ ((Itz3 K b1 b2 b3 a1 a2 a3).go i H ∧ ∃ Nx : Hp → Prop, (∀ H', Nx H' → ∃ m', m' < m ∧ W (i + 1) m' H') ∧ ∀ y H', (Itz3 K b1 b2 b3 a1 a2 a3).yld i H y H' → g y (wipe σ vs) H' fun σ2 H2 => wipe σ2 vs = wipe σ vs ∧ tt σ2 H2 fun b H3 =>
        if b = true then te σ2 H3 fun y H4 => ∃ acc, H4 D = some (.lst acc) ∧ acc.length < sizeLine ∧ Nx (upd H4 D (.lst (acc ++ [y]))) else Nx H3) := by
  refine ⟨fun i m H => m = ys.length - i ∧ i ≤ ys.length ∧ Pv i H, ⟨ys.length, by simp, Nat.zero_le _, h0⟩, ?_⟩
  rintro i m H ⟨rfl, hi, p⟩
  obtain ⟨s1, s2, s3⟩ := hq i H p
  by_cases hlt : i < ys.length
  · have g1 := List.getElem?_eq_getElem (show i < xs.length by omega)
    have g2 := List.getElem?_eq_getElem hlt
    have g3 := List.getElem?_eq_getElem (show i < zs.length by omega)
    refine .inr ⟨⟨xs, ys, zs, _, _, _, s1, s2, s3, g1, g2, g3⟩, Pv (i + 1), fun H' p' => ⟨ys.length - (i + 1), by omega, rfl, hlt, p'⟩, fun y H' z => ?_⟩
    obtain ⟨T, x, y, u, ev, hT, eH, k1, k2, k3⟩ := z
    subst ev eH
    exact hs i x y u T H (k1 _ s1) (k2 _ s2) (k3 _ s3) p hT
  · have e : i = ys.length := by omega
    subst e
    exact .inl ⟨⟨xs, ys, zs, s1, s2, s3, .inr (.inl (Nat.le_refl _))⟩, hd H p⟩
end L2.Jk.Z3

set_option Elab.async false
set_option linter.all false
set_option maxRecDepth 100000
set_option maxHeartbeats 4000000
/-! Places in ascending texts; heads of rows. -/
namespace L2.K76
open PySem PySem.W PySem.Spec PySem.Calls PyProof.Rows L2.Jk
theorem noneOf {H H' : Hp} {p : Addr} (S : Same H H') (h : H' p = none) : H p = none := by
  cases e : H p with
  | none => rfl
  | some o => rw [S _ _ e] at h; cases h
def ltS (a b : Str) : Bool := decide (a.cps.toList < b.cps.toList)
theorem ltS_iff {a b : Str} : ltS a b = true ↔ a.cps.toList < b.cps.toList := decide_eq_true_iff
theorem str_ext {a b : Str} (h : a.cps.toList = b.cps.toList) : a = b := by
  obtain ⟨x⟩ := a
  obtain ⟨y⟩ := b
  exact congrArg Str.mk (Array.toList_inj.mp h)
theorem ltS_irr (a : Str) : ltS a a = false := decide_eq_false (List.lt_irrefl _)
theorem ltS_trans {a b c : Str} (h : ltS a b = true) (k : ltS b c = true) : ltS a c = true := decide_eq_true (List.lt_trans (of_decide_eq_true h) (of_decide_eq_true k))
theorem ltS_tri (a b : Str) : ltS a b = true ∨ a = b ∨ ltS b a = true := by
  rcases Decidable.em (a.cps.toList < b.cps.toList) with h | h
  · exact .inl (decide_eq_true h)
  · rcases Decidable.em (b.cps.toList < a.cps.toList) with k | k
    · exact .inr (.inr (decide_eq_true k))
    · exact .inr (.inl (str_ext (List.le_antisymm (List.not_lt.mp k) (List.not_lt.mp h))))
theorem ltS_asymm {a b : Str} (h : ltS a b = true) : ltS b a = false := by
  cases e : ltS b a with
  | false => rfl
  | true =>
    have z := ltS_trans h e
    rw [ltS_irr] at z
    cases z
/-- strictly ascending -/
def Asc (ts : List Str) : Prop := ts.Pairwise fun a b => ltS a b = true
theorem Asc.lt {ts : List Str} (h : Asc ts) {i j : Nat} {x y : Str} (hij : i < j) (hx : ts[i]? = some x) (hy : ts[j]? = some y) : ltS x y = true := by
  obtain ⟨i1, rfl⟩ := List.getElem?_eq_some_iff.mp hx
  obtain ⟨j1, rfl⟩ := List.getElem?_eq_some_iff.mp hy
  exact List.pairwise_iff_getElem.mp h i j i1 j1 hij
/-- how many stand ahead of t -/
def At (ts : List Str) (t : Str) (i : Nat) : Prop := i ≤ ts.length ∧ ∀ (j : Nat) x, ts[j]? = some x → (ltS x t = true ↔ j < i)
def spFF (K : Frag) : Sp := fun vs H Q _ => ∃ (p : Addr) (ts : List Str) (t : Str), vs = [.ref p, .str t] ∧ H p = some (.lst (ts.map V.str)) ∧ Asc ts ∧ ts.length ≤ 100000 ∧ ∀ i : Nat, At ts t i → Q (.int (i : Nat)) H
section
variable {P : Program} {w : World} {K : Frag} {mg : Str → Option Value} {base : Heap} {f : Addr} {fd : FuncData}

abbrev s_ff : Stmt := top 40
theorem sc_ff : FnScope ["ascending", "thing", "low", "high", "middle"] ["ascending", "thing"] (defScope s_ff) := ⟨rfl, rfl, rfl, by decide +kernel, rfl, by decide +kernel, by decide +kernel⟩

theorem ok_first_from (F : FunD K "first_from" "first_from" (defArgs s_ff) (defBody s_ff) (defScope s_ff) [] [] f fd) (G : Bl mg) : FnOk P w K mg base CX0 1 f fd ["ascending", "thing"] (spFF K) := by
  refine F.ok (CX := CX0) sc_ff (fun vs H Q E h => ?_) (fun cdv A outer s H vs Q E hr h => ?_)
  · obtain ⟨p, ts, t, rfl, _⟩ := h
    rfl
  · refine ⟨_, PSs.nox (pss_cons (ps_set (i := 2) sc_ff.nd rfl (Or.inl rfl) pe_int)
    (pss_cons (ps_set (i := 3) sc_ff.nd rfl (Or.inl rfl) (pe_callB call_len_seq (by rfl) G.len (by decide +kernel) (pa_cons (pv 0) pa_nil)))
    (pss_cons (ps_while PassesOwn.never (pt_cmpR op_lt (pv 2) (pv 3) (nomark _))
      (pss_cons (ps_set (i := 4) sc_ff.nd rfl (Or.inl rfl) (pe_op op_fdivN (pe_op op_add (pv 2) (pv 3)) pe_int))
      (pss_one (ps_if (pt_cmpR op_lt_str (pe_ix ix_list (pv 0) (pv 4) (fun _ _ => rfl)) (pv 1) (nomark _))
        (pss_one (ps_set (i := 2) sc_ff.nd rfl (Or.inl rfl) (pe_op op_add (pv 4) pe_int)))
        (pss_one (ps_set (i := 3) sc_ff.nd rfl (Or.inl rfl) (pv 4)))))))
    (pss_one (ps_ret (pv 2)))))), ?_⟩
    obtain ⟨p, ts, t, rfl, hp, ha, hz, q⟩ := h
    refine ⟨_, rfl, p, _, rfl, .inl (SqL.of hp), ?_⟩
    refine while_by (fun σ J => ∃ (lo hi : Nat) (v4 : Option V), σ = [some (.ref p), some (.str t), some (.int (lo : Nat)), some (.int (hi : Nat)), v4] ∧ J = H ∧ lo ≤ hi ∧ hi ≤ ts.length ∧ (∀ (j : Nat) x, ts[j]? = some x → j < lo → ltS x t = true) ∧ ∀ (j : Nat) x, ts[j]? = some x → hi ≤ j → ltS x t = false)
      (fun σ _ => match σ with | [_, _, some (.int lo), some (.int hi), _] => (hi - lo).toNat | _ => 0) ?_ ?_ ?_
    · refine ⟨0, ts.length, _, by rw [List.length_map]; rfl, rfl, Nat.zero_le _, Nat.le_refl _, fun j x _ h => absurd h (Nat.not_lt_zero _), fun j x hx h => ?_⟩
      have := (List.getElem?_eq_some_iff.mp hx).1
      omega
    · rintro σ J ⟨lo, hi, v4, rfl, rfl, h1, h2, h3, h4⟩
      refine ⟨_, rfl, _, rfl, _, _, rfl, rfl, _, rfl, ?_⟩
      refine ite2 (fun c => ?_) (fun c => ?_)
      · have hlt : lo < hi := by have := of_decide_eq_true c; omega
        refine ⟨_, rfl, _, rfl, _, _, rfl, rfl, _, _, rfl, rfl, ⟨by decide, by decide⟩, ?_⟩
        have em : ((fun i j : Int => V.int (i.fdiv j)) ((lo : Int) + (hi : Int)) 2) = V.int (((lo + hi) / 2 : Nat) : Int) := by
          show V.int (Int.fdiv _ _) = _
          rw [Int.fdiv_eq_ediv_of_nonneg _ (by decide)]
          congr 1
        rw [em]
        have m1 : lo ≤ (lo + hi) / 2 := by omega
        have m2 : (lo + hi) / 2 < hi := by omega
        generalize (lo + hi) / 2 = mid at m1 m2
        obtain ⟨x, hx⟩ : ∃ x, ts[mid]? = some x := ⟨_, List.getElem?_eq_getElem (by omega)⟩
        have hxv : (ts.map V.str)[mid]? = some (V.str x) := by rw [List.getElem?_map, hx]; rfl
        refine ⟨_, rfl, _, rfl, p, _, _, _, rfl, rfl, SqL.of hp, atI_nat (j := mid) hxv, _, rfl, _, _, rfl, rfl, _, rfl, ?_⟩
        refine ite2 (fun c2 => ?_) (fun c2 => ?_)
        · refine ⟨_, rfl, _, _, rfl, rfl, ⟨mid + 1, hi, _, by rfl, rfl, by omega, h2, fun j y hy hj => ?_, h4⟩, ?_⟩
          · rcases Nat.lt_or_ge j mid with k | k
            · exact ltS_trans (ha.lt k hy hx) c2
            · obtain rfl : j = mid := by omega
              rw [hx] at hy
              cases hy
              exact c2
          · show ((hi : Int) - ((mid : Int) + 1)).toNat < ((hi : Int) - (lo : Int)).toNat
            omega
        · refine ⟨_, rfl, ⟨lo, mid, _, rfl, rfl, by omega, by omega, h3, fun j y hy hj => ?_⟩, ?_⟩
          · rcases Nat.lt_or_ge mid j with k | k
            · cases e : ltS y t with
              | false => rfl
              | true => exact absurd (ltS_trans (ha.lt k hx hy) e) c2
            · obtain rfl : j = mid := by omega
              rw [hx] at hy
              cases hy
              exact Bool.eq_false_iff.mpr c2
          · show ((mid : Int) - (lo : Int)).toNat < ((hi : Int) - (lo : Int)).toNat
            omega
      · have heq : lo = hi := by
          rcases Nat.lt_or_ge lo hi with k | k
          · exact absurd (decide_eq_true (by omega)) c
          · omega
        subst heq
        refine ⟨_, rfl, q lo ⟨h2, fun j x hx => ⟨fun h => ?_, fun h => h3 j x hx h⟩⟩⟩
        rcases Nat.lt_or_ge j lo with k | k
        · exact k
        · rw [h4 j x hx k] at h
          cases h
    · intro σ J Q1 Q2 m h
      obtain ⟨v1, e1, v2, e2, i, j, e3, e4, k, e5, h⟩ := h
      exact ⟨v1, e1, v2, e2, i, j, e3, e4, k, e5, m _ _ h⟩

end
end L2.K76

set_option Elab.async false
set_option linter.all false
set_option maxRecDepth 100000
set_option maxHeartbeats 4000000
/-! What a store keeps: a map from texts to rows with numbers. -/
namespace L2.K76
open PySem PySem.W PySem.Spec PySem.Calls PyProof.Rows L2.Jk
abbrev Mp := Str → Option (List V × Int)
def setM (m : Mp) (t : Str) (e : List V × Int) : Mp := fun u => if u = t then some e else m u
def delM (m : Mp) (t : Str) : Mp := fun u => if u = t then none else m u
theorem setM_isSome {m : Mp} {t u : Str} {e : List V × Int} : (setM m t e u).isSome = true ↔ u = t ∨ (m u).isSome = true := by
  unfold setM
  by_cases h : u = t
  · rw [if_pos h]; simp [h]
  · rw [if_neg h]; simp [h]
theorem delM_isSome {m : Mp} {t u : Str} : (delM m t u).isSome = true ↔ u ≠ t ∧ (m u).isSome = true := by
  unfold delM
  by_cases h : u = t
  · rw [if_pos h]; simp [h]
  · rw [if_neg h]; simp [h]
/-- the texts, ascending -/
def TIs (ts : List Str) (m : Mp) : Prop := Asc ts ∧ ∀ t, t ∈ ts ↔ (m t).isSome = true
def Ent (H : Hp) (v : V) (e : List V × Int) : Prop := ∃ r rr, v = .ref r ∧ H r = some (.tup [.ref rr, .int e.2]) ∧ H rr = some (.tup e.1)
def DIs (H : Hp) (kvs : List (Key × V)) (m : Mp) : Prop := (∃ ks : List Str, kvs.map (·.1) = ks.map Sum.inr ∧ ks.Nodup ∧ ∀ t, t ∈ ks ↔ (m t).isSome = true) ∧ ∀ t e, m t = some e → ∃ v, valV kvs (.inr t) = some v ∧ Ent H v e
theorem Asc.nodup {ts : List Str} (h : Asc ts) : ts.Nodup := h.imp fun {a b} h e => by
  rw [e, ltS_irr] at h
  cases h
theorem tIs_nil : TIs [] (fun _ => none) := ⟨List.Pairwise.nil, fun t => by simp⟩
theorem dIs_nil (H : Hp) : DIs H [] (fun _ => none) := ⟨⟨[], rfl, List.nodup_nil, fun t => by simp⟩, fun t e h => by cases h⟩
theorem Ent.mono {H H' : Hp} {v : V} {e : List V × Int} (S : ∀ r xs, H r = some (.tup xs) → H' r = some (.tup xs)) : Ent H v e → Ent H' v e
  | ⟨r, rr, a, b, c⟩ => ⟨r, rr, a, S _ _ b, S _ _ c⟩
theorem DIs.mono {H H' : Hp} {kvs : List (Key × V)} {m : Mp} (S : ∀ r xs, H r = some (.tup xs) → H' r = some (.tup xs)) (h : DIs H kvs m) : DIs H' kvs m := ⟨h.1, fun t e k => by
  obtain ⟨v, a, b⟩ := h.2 t e k
  exact ⟨v, a, b.mono S⟩⟩
theorem inr_nodup {ks : List Str} (h : ks.Nodup) : (ks.map (Sum.inr : Str → Key)).Nodup := by
  refine List.Pairwise.map _ (fun a b n e => n ?_) h
  injection e
theorem DIs.nd {H : Hp} {kvs : List (Key × V)} {m : Mp} (h : DIs H kvs m) : (kvs.map (·.1)).Nodup := by
  obtain ⟨⟨ks, e, n, _⟩, _⟩ := h
  rw [e]
  exact inr_nodup n
theorem DIs.none {H : Hp} {kvs : List (Key × V)} {m : Mp} {t : Str} (h : DIs H kvs m) (k : m t = none) : valV kvs (.inr t) = none := by
  obtain ⟨⟨ks, e, n, i⟩, _⟩ := h
  cases z : valV kvs (Sum.inr t : Key) with
  | none => rfl
  | some v =>
    have y := valV_in z
    rw [e] at y
    obtain ⟨u, hu, hz⟩ := List.mem_map.mp y
    injection hz with hz
    rw [hz] at hu
    rw [i t, k] at hu
    cases hu
theorem DIs.isSome {H : Hp} {kvs : List (Key × V)} {m : Mp} (h : DIs H kvs m) (t : Str) : (valV kvs (.inr t)).isSome = (m t).isSome := by
  cases e : m t with
  | none => rw [h.none e]; rfl
  | some x =>
    obtain ⟨v, a, _⟩ := h.2 t x e
    rw [a]; rfl
theorem keys_put {kvs : List (Key × V)} {k : Key} {v : V} (h : (valV kvs k).isSome = true) : (putK kvs k v).map (·.1) = kvs.map (·.1) := by
  unfold putK
  rw [valV_any, if_pos h, List.map_map]
  refine List.map_congr_left fun p _ => ?_
  show (if p.1 = k then (p.1, v) else p).1 = p.1
  split <;> rfl
theorem DIs.put {H : Hp} {kvs : List (Key × V)} {m : Mp} {t : Str} {v : V} {e : List V × Int} (h : DIs H kvs m) (he : Ent H v e) : DIs H (putK kvs (.inr t) v) (setM m t e) := by
  obtain ⟨ks, ek, n, i⟩ := h.1
  refine ⟨?_, fun u x hx => ?_⟩
  · cases z : m t with
    | none =>
      refine ⟨ks ++ [t], ?_, ?_, fun u => ?_⟩
      · rw [putK_new v (h.none z), List.map_append, ek, List.map_append]
        rfl
      · refine List.nodup_append.mpr ⟨n, List.nodup_cons.mpr ⟨List.not_mem_nil, List.nodup_nil⟩, fun a ha b hb => ?_⟩
        rw [List.mem_singleton.mp hb]
        intro e2
        rw [e2, i t, z] at ha
        cases ha
      · rw [setM_isSome, List.mem_append, i u, List.mem_singleton]
        exact Or.comm
    | some y =>
      refine ⟨ks, by rw [keys_put (by rw [h.isSome, z]; rfl), ek], n, fun u => ?_⟩
      rw [setM_isSome, i u]
      exact ⟨.inr, fun q => q.elim (fun q => by rw [q, z]; rfl) id⟩
  · rw [valV_put]
    unfold setM at hx
    by_cases q : u = t
    · rw [if_pos q] at hx
      cases hx
      rw [if_pos (by rw [q])]
      exact ⟨v, rfl, he⟩
    · rw [if_neg q] at hx
      rw [if_neg (fun z => q (by injection z))]
      exact h.2 u x hx
theorem valV_drop {kvs : List (Key × V)} {k j : Key} (n : j ≠ k) : valV (dropK kvs k) j = valV kvs j := by
  induction kvs with
  | nil => rfl
  | cons p r ih =>
    by_cases e : p.1 = k
    · rw [dropK_pos e, valV_neg (fun z => n (z.symm.trans e)), ih]
    · rw [dropK_neg e]
      by_cases f : p.1 = j
      · rw [valV_pos f, valV_pos f]
      · rw [valV_neg f, valV_neg f, ih]
theorem DIs.drop {H : Hp} {kvs : List (Key × V)} {m : Mp} {t : Str} (h : DIs H kvs m) : DIs H (dropK kvs (.inr t)) (delM m t) := by
  obtain ⟨ks, ek, n, i⟩ := h.1
  refine ⟨⟨ks.filter fun u => decide (u ≠ t), ?_, n.sublist List.filter_sublist, fun u => ?_⟩, fun u x hx => ?_⟩
  · have key : ∀ (kvs : List (Key × V)) (ks : List Str), kvs.map (·.1) = ks.map Sum.inr → (dropK kvs (.inr t)).map (·.1) = (ks.filter fun u => decide (u ≠ t)).map Sum.inr := by
      intro kvs
      induction kvs with
      | nil =>
        intro ks e
        cases ks with
        | nil => rfl
        | cons _ _ => cases e
      | cons p r ih =>
        intro ks e
        cases ks with
        | nil => cases e
        | cons s ss =>
          rw [List.map_cons, List.map_cons] at e
          injection e with e1 e2
          have e1 : p.1 = Sum.inr s := e1
          by_cases q : s = t
          · rw [dropK_pos (by rw [e1, q]), ih ss e2, List.filter_cons_of_neg (by simp [q])]
          · rw [dropK_neg (fun z => q (by rw [e1] at z; injection z)), List.map_cons, ih ss e2, List.filter_cons_of_pos (by simp [q]), List.map_cons]
            exact congrArg (· :: _) e1
    exact key kvs ks ek
  · rw [delM_isSome, List.mem_filter, i u]
    simp [and_comm]
  · unfold delM at hx
    by_cases q : u = t
    · rw [if_pos q] at hx
      cases hx
    · rw [if_neg q] at hx
      rw [valV_drop (fun z => q (by injection z))]
      exact h.2 u x hx
/-! the texts -/
theorem at_mem {ts : List Str} {t : Str} {i : Nat} (ha : Asc ts) (h : At ts t i) (hm : t ∈ ts) : ts[i]? = some t := by
  obtain ⟨j, hj, e⟩ := List.mem_iff_getElem.mp hm
  have ej : ts[j]? = some t := by rw [List.getElem?_eq_getElem hj, e]
  have nj : ¬ j < i := fun z => by
    have := (h.2 j t ej).mpr z
    rw [ltS_irr] at this
    cases this
  rcases Nat.lt_or_ge i j with k | k
  · obtain ⟨x, hx⟩ : ∃ x, ts[i]? = some x := ⟨_, List.getElem?_eq_getElem (by omega)⟩
    have := (h.2 i x hx).mp (ha.lt k hx ej)
    omega
  · obtain rfl : i = j := by omega
    exact ej
theorem TIs.put_in {ts : List Str} {m : Mp} {t : Str} {e : List V × Int} (h : TIs ts m) (k : (m t).isSome = true) : TIs ts (setM m t e) := ⟨h.1, fun u => by
  rw [setM_isSome, h.2 u]
  exact ⟨.inr, fun q => q.elim (fun q => by rw [q]; exact k) id⟩⟩
theorem TIs.put {ts : List Str} {m : Mp} {t : Str} {e : List V × Int} {i : Nat} (h : TIs ts m) (k : m t = none) (a : At ts t i) : TIs (ts.take i ++ [t] ++ ts.drop i) (setM m t e) := by
  have nt : t ∉ ts := fun z => by
    rw [h.2 t, k] at z
    cases z
  refine ⟨?_, fun u => ?_⟩
  · refine List.pairwise_append.mpr ⟨List.pairwise_append.mpr ⟨h.1.sublist (List.take_sublist ..), List.pairwise_singleton _ _, fun x hx y hy => ?_⟩, h.1.sublist (List.drop_sublist ..), fun x hx y hy => ?_⟩
    · rw [List.mem_singleton.mp hy]
      obtain ⟨j, hj, e⟩ := List.mem_iff_getElem.mp hx
      rw [List.getElem_take] at e
      rw [List.length_take] at hj
      exact (a.2 j x (by rw [List.getElem?_eq_getElem (by omega), e])).mpr (by omega)
    · have hd : ∀ y, y ∈ ts.drop i → ltS t y = true := fun y hy => by
        obtain ⟨j, hj, e⟩ := List.mem_iff_getElem.mp hy
        rw [List.getElem_drop] at e
        rw [List.length_drop] at hj
        have ey : ts[i + j]? = some y := by rw [List.getElem?_eq_getElem (by omega), e]
        rcases ltS_tri t y with z | z | z
        · exact z
        · exact absurd (z ▸ List.mem_of_getElem? ey) nt
        · have := (a.2 _ y ey).mp z
          omega
      rcases List.mem_append.mp hx with hx | hx
      · obtain ⟨j, hj, e⟩ := List.mem_iff_getElem.mp hx
        rw [List.getElem_take] at e
        rw [List.length_take] at hj
        exact ltS_trans ((a.2 j x (by rw [List.getElem?_eq_getElem (by omega), e])).mpr (by omega)) (hd y hy)
      · rw [List.mem_singleton.mp hx]
        exact hd y hy
  · rw [setM_isSome, ← h.2 u]
    have e : u ∈ ts ↔ u ∈ ts.take i ∨ u ∈ ts.drop i := by
      rw [← List.mem_append, List.take_append_drop]
    rw [e, List.mem_append, List.mem_append, List.mem_singleton]
    constructor
    · rintro ((h | h) | h)
      · exact .inr (.inl h)
      · exact .inl h
      · exact .inr (.inr h)
    · rintro (h | h | h)
      · exact .inl (.inr h)
      · exact .inl (.inl h)
      · exact .inr h
theorem TIs.del {ts : List Str} {m : Mp} {t : Str} {i : Nat} (h : TIs ts m) (e : ts[i]? = some t) : TIs (ts.eraseIdx i) (delM m t) := by
  refine ⟨h.1.sublist (List.eraseIdx_sublist ..), fun u => ?_⟩
  rw [delM_isSome, ← h.2 u]
  have hn := h.1.nodup
  constructor
  · intro hu
    refine ⟨fun z => ?_, List.mem_of_mem_eraseIdx hu⟩
    rw [z] at hu
    obtain ⟨j, j1, j2, q⟩ := List.mem_eraseIdx_iff_getElem.mp hu
    have ei := (List.getElem?_eq_some_iff.mp e)
    obtain ⟨i1, i2⟩ := ei
    exact j2 ((List.getElem_inj hn).mp (q.trans i2.symm))
  · rintro ⟨n, hu⟩
    obtain ⟨j, hj, q⟩ := List.mem_iff_getElem.mp hu
    refine List.mem_eraseIdx_iff_getElem.mpr ⟨j, hj, fun z => n ?_, q⟩
    subst z
    rw [List.getElem?_eq_getElem hj] at e
    exact q.symm.trans (Option.some.inj e)
theorem TIs.len {ts : List Str} {kvs : List (Key × V)} {H : Hp} {m : Mp} (h : TIs ts m) (k : DIs H kvs m) : kvs.length = ts.length := by
  obtain ⟨⟨ks, e, n, i⟩, _⟩ := k
  have p : ks.Perm ts := (List.perm_ext_iff_of_nodup n h.1.nodup).mpr fun t => (i t).trans (h.2 t).symm
  have l := congrArg List.length e
  rw [List.length_map, List.length_map] at l
  rw [l]
  exact p.length_eq
theorem rising_pw : ∀ (p : Str) (l : List Str), risingS p l = true → (p :: l).Pairwise fun a b => a.cps.toList ≤ b.cps.toList
  | p, [], _ => List.pairwise_singleton _ _
  | p, x :: r, h => by
    obtain ⟨h1, h2⟩ := Bool.and_eq_true_iff.mp (show (!ltCps x.cps.toList p.cps.toList && risingS x r) = true from h)
    have ih := rising_pw x r h2
    have e1 : p.cps.toList ≤ x.cps.toList := by
      rw [ltCps_eq] at h1
      intro z
      rw [decide_eq_true z] at h1
      cases h1
    refine List.pairwise_cons.mpr ⟨fun y hy => ?_, ih⟩
    rcases List.mem_cons.mp hy with rfl | hy
    · exact e1
    · exact List.le_trans e1 (List.rel_of_pairwise_cons ih hy)
theorem sorted_pw {l : List Str} (h : sortedS l = true) : l.Pairwise fun a b => a.cps.toList ≤ b.cps.toList := by
  cases l with
  | nil => exact List.Pairwise.nil
  | cons x r => exact rising_pw x r h
/-- sorted(kept) gives the texts -/
theorem TIs.sorted {ts ys : List Str} {kvs : List (Key × V)} {ks : List Str} {m : Mp} {H : Hp} (h : TIs ts m) (e : kvs.map (·.1) = ks.map Sum.inr) (k : DIs H kvs m) (p : ys.Perm ks) (s : sortedS ys = true) : ys = ts := by
  obtain ⟨⟨ks', e', n, i⟩, _⟩ := k
  have ek : ks = ks' := by
    have z : ks.map (Sum.inr : Str → Key) = ks'.map Sum.inr := e.symm.trans e'
    exact (List.map_inj_right fun a b q => by injection q).mp z
  subst ek
  have p2 : ys.Perm ts := p.trans ((List.perm_ext_iff_of_nodup n h.1.nodup).mpr fun t => (i t).trans (h.2 t).symm)
  exact List.Perm.eq_of_pairwise (fun _ _ _ _ a b => str_ext (List.le_antisymm a b)) (sorted_pw s) (h.1.imp fun {a b} q => Std.le_of_lt (ltS_iff.mp q)) p2
end L2.K76

set_option Elab.async false
set_option linter.all false
set_option maxRecDepth 100000
set_option maxHeartbeats 4000000
/-! enumerate(t), t a tuple. -/
namespace L2.Jk
open PySem PySem.W PySem.Spec PySem.Calls PyProof.Rows L2
theorem meets_enumerate_newT (l : Addr) (items : Array Value) :
    Meets (Builtin.«enumerate.__new__» ⟨[.type "enumerate", .ref l], []⟩) (fun _ R s => s.heap.IsTuple l items ∧
      R (.ok (.ret (.ref (s.heap.push { cls := .type "tuple_iterator", data := .fields #[.ref l, .int 0 0] }).objs.size)))
        { s with heap := (s.heap.push { cls := .type "tuple_iterator", data := .fields #[.ref l, .int 0 0] }).push { cls := .type "enumerate", data := .fields #[.none, .bool false, .ref s.heap.objs.size, rawInt 0, .none, .none] } }) :=
  .of_wp fun prog w A R s h => by
    obtain ⟨hp, g, d, tk, os⟩ := s; obtain ⟨hl, h⟩ := h
    have hsub := sub_enumerate
    have hL : Heap.IsTuple (Shared.heap ⟨hp, g, d, tk, os⟩) l items := hl
    wp_walk using wpAny_pyIter_tuple hL
    refine wpAny_stack_any fun st => wpAny_pure ?_
    split
    · rename_i c _ _ _ _ _
      cases (c == Value.type "enumerate")
      · wp_walk using wpAny_pyIter_tuple hL
        exact ⟨_, rfl, h⟩
      · wp_walk using wpAny_pyIter_tuple hL
        exact ⟨_, rfl, h⟩
    · wp_walk using wpAny_pyIter_tuple hL
      exact ⟨_, rfl, h⟩
section
variable {prog : Program} {w : World} {A : Around} {E : Value → Shared → Prop} {s : Shared}
theorem call_enumerate_tuple {l : Addr} {items : Array Value} {Q : Value → Shared → Prop} (hL : s.heap.IsTuple l items)
    (h : ∀ h', IsEnum h' (s.heap.objs.size + 1) s.heap.objs.size 0 .none → h'.IsTupleIter s.heap.objs.size l 0 → h'.objs.size = s.heap.objs.size + 2 →
      (∀ b o, s.heap.get? b = some o → h'.get? b = some o) → Q (.ref (s.heap.objs.size + 1)) { s with heap := h' }) :
    wpAny (model prog w) A (call (.type "enumerate") [.ref l]) Q E s := by
  refine callType_new PySem.F.called_enumerate (by decide) (PySem.F.typeCall_enumerate_1 _) (PySem.F.newCall_enumerate_1 _) (fun obj => PySem.F.args_object_init_2 obj _) PySem.F.entry_enumerate_new
    (meets_enumerate_newT l items) ⟨hL, ?_⟩
  have hz : (s.heap.push { cls := .type "tuple_iterator", data := .fields #[.ref l, .int 0 0] }).objs.size = s.heap.objs.size + 1 := Heap.size_push ..
  show _ ∧ _
  rw [hz]
  have he : IsEnum ((s.heap.push { cls := .type "tuple_iterator", data := .fields #[.ref l, .int 0 0] }).push
      { cls := .type "enumerate", data := .fields #[.none, .bool false, .ref s.heap.objs.size, rawInt 0, .none, .none] }) (s.heap.objs.size + 1) s.heap.objs.size 0 .none := by
    have := Heap.get?_push_size (s.heap.push { cls := .type "tuple_iterator", data := .fields #[.ref l, .int 0 0] })
      (o := { cls := .type "enumerate", data := .fields #[.none, .bool false, .ref s.heap.objs.size, rawInt 0, .none, .none] }) rfl
    rw [hz] at this; exact this
  refine ⟨⟨_, he, rfl⟩, h _ he ⟨_, Heap.get?_push_of_some _ (Heap.get?_push_size _ rfl), rfl, rfl⟩ (by rw [Heap.size_push, hz]) fun b o x => Heap.get?_push_of_some _ (Heap.get?_push_of_some _ x)⟩
end
/-- the tuple at a, each item in a new pair -/
def IteT (K : Frag) (a : Addr) : L2.It :=
  ⟨fun i H => ∃ (xs : List V) (x : V), SqT K H a xs ∧ xs[i]? = some x, fun i H v H' => ∃ T x, v = .ref T ∧ H T = none ∧ H' = upd H T (.tup [.int (i : Nat), x]) ∧ ∀ xs, SqT K H a xs → xs[i]? = some x, fun i H => ∃ xs : List V, SqT K H a xs ∧ xs.length = i⟩
theorem turn_enumT {P : Program} {w : World} {K : Frag} {elts : List Expr} {kk : Nat} {tpos : Pos} (a e it : Addr) (hai : a ≠ it) (hae : e ≠ a) :
    Turn P w K (.Tuple elts kk tpos) (IteT K a) [e, it] e (fun i h => (∃ old, IsEnum h e it ((i : Nat) : Int) old) ∧ h.IsTupleIter it a i ∧ e ≠ it) where
  mem := by simp
  obj := fun i h st b hb => by
    obtain ⟨⟨old, he⟩, ⟨o, ho, hc, hd⟩, _⟩ := st
    have e' : b = e ∨ b = it := by simpa using hb
    rcases e' with z | z
    · rw [z]; exact ⟨_, he, fun v q => nomatch q⟩
    · rw [z]; exact ⟨o, ho, fun v q => by rw [hd] at q; cases q⟩
  keep := fun i h h' st k => let ⟨⟨old, he⟩, hi, hne⟩ := st; ⟨⟨old, k e (by simp) _ he⟩, by
    obtain ⟨o, ho, r⟩ := hi
    exact ⟨o, k it (by simp) o ho, r⟩, hne⟩
  item := by
    intro X hP hw hK hc i pins s σ H E I hf st hg
    subst hP hw hK
    obtain ⟨⟨old, he⟩, hit, hne⟩ := st
    obtain ⟨xs, x, hq, hx⟩ := hg
    obtain ⟨its, rv, p, hz⟩ := I.tuple hq
    obtain ⟨u, hu, ru⟩ := rv.get hx
    have hel : e < s.heap.objs.size := Heap.lt_size he
    have hil : it < s.heap.objs.size := by obtain ⟨_, q, _⟩ := hit; exact Heap.lt_size q
    have D := Draws.tuple (prog := X.prog) (w := X.w) (A := X.A.in1) (I.ok.hd hc) it a hai its.toArray
    have hlen := (List.getElem?_eq_some_iff.mp hu).1
    have nea : ∀ {b : Addr}, b ≠ e → b ≠ it → b ∉ [e, it] := fun h1 h2 z => by
      rcases List.mem_cons.mp z with z | z
      · exact h1 z
      · exact h2 (List.mem_singleton.mp z)
    refine wpAny_pyNext_enum_itemC (i := i) D he ⟨hit, p⟩ (by simpa using hlen) hne (fun z => ?_) fun x2 h' tk hP ho hs' hT hsz hk => ?_
    · rcases List.mem_cons.mp z with z | z
      · exact hne z
      · exact hae (List.mem_singleton.mp z)
    have ex2 : x2 = u := by
      have z : its[i]? = some x2 := by simpa using hP
      rw [hu] at z
      exact (Option.some.inj z).symm
    subst ex2
    refine ⟨_, rfl, wpAny_letOwnedTupleGo_enum (s := { s with heap := h', toks := tk + 1 }) ho fun h'' he' sb => ?_⟩
    have hT2 : h''.get? s.heap.objs.size = some { cls := .type "tuple", data := .seq #[.int i tk, x2] } := (sb.2 _ (Nat.ne_of_gt hel)).trans hT
    have new : ObjOk X.prog X.w (upd H s.heap.objs.size (.tup [.int (i : Nat), x])) h'' s.heap.objs.size (.tup [.int (i : Nat), x]) :=
      ⟨by show 2 ≤ sizeLine; decide, [.int i tk, x2], .cons ⟨_, rfl⟩ (.cons ru .nil), ⟨_, hT2, rfl, _, rfl⟩⟩
    have I1 : Inv X pins σ (upd H s.heap.objs.size (.tup [.int (i : Nat), x])) { s with heap := h'', toks := tk + 1 } :=
      I.turnedNew (ch := [e, it]) (fun b ob hb q => (sb.2 b (fun z => hb (by simp [z]))).trans (hk b ob (fun z => hb (by simp [z])) (fun z => hb (by simp [z])) q)) hf (Nat.le_refl _) new
    refine ⟨.ref s.heap.objs.size, _, I1, rfl, ⟨_, x, rfl, I.hok.fresh (Nat.le_refl _), rfl, fun ys hy => by rw [I.tuple_inj hy hq]; exact hx⟩, ⟨⟨x2, ?_⟩, ?_, hne⟩, fun b hb => ?_⟩
    · have e1 : ((i + 1 : Nat) : Int) = (i : Int) + 1 := by omega
      rw [e1]; exact he'
    · obtain ⟨o, ho2, r⟩ := hs'.1
      exact ⟨o, (sb.2 it (Ne.symm hne)).trans ho2, r⟩
    · have hb' : b < s.heap.objs.size := by
        have e' : b = e ∨ b = it := by simpa using hb
        rcases e' with z | z
        · rw [z]; exact hel
        · rw [z]; exact hil
      rw [upd_ne (Nat.ne_of_lt hb')]
      exact (hf b hb).1
  done := by
    intro X hP hw hK hc i pins s σ H E I hf st hg
    subst hP hw hK
    obtain ⟨⟨old, he⟩, hit, hne⟩ := st
    obtain ⟨xs, hq, hx⟩ := hg
    obtain ⟨its, rv, p, hz⟩ := I.tuple hq
    obtain ⟨f0, f1, f2, f3, f4, f5⟩ := hf it (by simp)
    have hl := rv.length
    have D := Draws.tuple (prog := X.prog) (w := X.w) (A := X.A.in1) (I.ok.hd hc) it a hai its.toArray
    refine wpAny_pyNext_enum_endD D he ⟨?_, p⟩ fun h' eb => ⟨rfl, I.turned (t' := s.toks) (fun b o hb q => eb b o hb q) f0 f1 f3 f4 f5⟩
    have e1 : its.toArray.size = i := by simp; omega
    rw [e1]
    exact hit
  self := fun A i s Q E st h => let ⟨⟨_, he⟩, _⟩ := st; wpAny_pyIter_enum he h
def iEnumT (K : Frag) (ta : TA) : TI := fun σ H R => ta σ H fun vs H1 => ∃ a xs, vs = [.ref a] ∧ SqT K H1 a xs ∧ R (IteT K a) H1
theorem pi_enumT {X : Cx} {e : Expr} {ta : TA} {p pos tpos : Pos} {elts : List Expr} {kk : Nat} (hg : Gl X "enumerate") (hm : X.mg "enumerate" = none) (ha : PA X [e] ta) (hs : starEach [e] X.env = [(false, eval e X.env)] := by rfl) :
    PI X (.Tuple elts kk tpos) (.Call (.Name "enumerate" p) [e] [] pos) (iEnumT X.K ta) := by
  refine ⟨fun pins s σ H R I h => ?_⟩
  refine Call_ (ld_blt I hg hm boot_enumerate (PyProof.Rows.callWith_type1 (thn (ha.run pos pins s σ H _ I h) fun us s1 ⟨vs, H1, I1, r1, q1⟩ => ?_) hs rfl))
  obtain ⟨a, xs, ex, hq, q⟩ := q1
  subst ex
  cases r1 with
  | cons r rr =>
    cases rr
    cases r
    obtain ⟨its, rv, p', hz⟩ := I1.tuple hq
    have hal : a < s1.heap.objs.size := Z3.Sq.lt (b := false) p'
    refine call_enumerate_tuple p' fun h' he hit hsz hk => wpAny_pyIter_enum he ?_
    have I2 : Inv X pins σ H1 { s1 with heap := h' } := I1.kept (t' := s1.toks) hk
    refine ⟨s1.heap.objs.size + 1, [s1.heap.objs.size + 1, s1.heap.objs.size], _, _, H1, rfl, I2, turn_enumT a (s1.heap.objs.size + 1) s1.heap.objs.size (Nat.ne_of_lt hal) (Nat.ne_of_gt (Nat.lt_succ_of_lt hal)), ⟨⟨.none, he⟩, hit, Nat.succ_ne_self _⟩, fun b hb => ?_, q⟩
    have e' : b = s1.heap.objs.size + 1 ∨ b = s1.heap.objs.size := by simpa using hb
    have hle : s1.heap.objs.size ≤ b := by
      rcases e' with z | z
      · rw [z]; exact Nat.le_add_right _ _
      · rw [z]; exact Nat.le_refl _
    exact I1.fpOk hle (I1.hok.fresh hle)
theorem walk_enumT {K : Frag} {a : Addr} {xs : List V} : Walk (IteT K a) xs.length (fun H => SqT K H a xs) (YPair (fun i => some (.int (i : Nat))) (fun i => xs[i]?)) := by
  refine ⟨fun i _ hi q => ⟨xs, xs[i], q, by simp [hi]⟩, fun _ q => ⟨xs, q, rfl⟩, fun i H v H' _ q y => ?_⟩
  obtain ⟨T, x, h1, h2, h3, h4⟩ := y
  exact ⟨T, .int (i : Nat), x, h1, h2, h3, rfl, h4 xs q⟩
end L2.Jk

set_option Elab.async false
set_option linter.all false
set_option maxRecDepth 100000
set_option maxHeartbeats 4000000
/-! The head of a row that begins with some values. -/
namespace L2.K76
open PySem PySem.W PySem.Spec PySem.Calls PyProof.Rows L2.Jk
structure S0 (P : Program) (w : World) (K : Frag) (mg : Str → Option Value) (base : Heap) : Prop extends P9 P w K mg base where
  row_text : FnAt P w K mg base (L2.CX P w) 6 "row_text" ["layout", "row"] (spRT K)
  first_from : FnAt P w K mg base CX0 1 "first_from" ["ascending", "thing"] (spFF K)
  cStore : C0 K mg "Store" ["layout", "texts", "kept"]
  enumerate : mg "enumerate" = none
def headDue (ds : List FD) : Option (List V) → Option Int
  | none => some (-1)
  | some xs => ((List.range xs.length).find? (badAt ds xs)).map fun i : Nat => (i : Int)
def headText (ds : List FD) (js : List Str) (xs : List V) : Str := Txt.join "" ((List.range xs.length).map (piece ds js xs))
def spHd (K : Frag) : Sp := fun vs H Q E => ∃ (L : Addr) (ds : List FD) (js : List Str) (v : V) (o : Option (List V)), vs = [.ref L, v] ∧ LayAt K H L ds js ∧ SeqIs K H v o ∧ RowIn H o ∧
  (headDue ds o = none → ∀ xs, o = some xs → RowT ds xs ∧ ∀ H', Same H H' → Q (.str (headText ds js xs)) H') ∧ ∀ z, headDue ds o = some z → RaiseE (NR K) "place" (.int z) H E
section
variable {P : Program} {w : World} {K : Frag} {mg : Str → Option Value} {base : Heap} {f : Addr} {fd : FuncData}

abbrev s_hd : Stmt := top 42
theorem sc_hd : FnScope ["layout", "values", "place", "value", "field", "joint"] ["layout", "values"] (defScope s_hd) := ⟨rfl, rfl, rfl, by decide +kernel, rfl, by decide +kernel, by decide +kernel⟩

theorem ok_head_of (F : FunD K "head_of" "head_of" (defArgs s_hd) (defBody s_hd) (defScope s_hd) [] [] f fd) (G : S0 P w K mg base) : FnOk P w K mg base (L2.CX P w) 5 f fd ["layout", "values"] (spHd K) := by
  refine F.ok (CX := (L2.CX P w)) sc_hd (fun vs H Q E h => ?_) (fun cdv A outer s H vs Q E hr h => ?_)
  · obtain ⟨L, ds, js, v, o, rfl, _⟩ := h
    rfl
  · have hr2 : Room 2 _ := hr.mono (by decide)
    refine ⟨_, (pss_cons (ps_if (pt_not (pt_val (pe_fn G.is_sequence (hr.mono (by decide)) pass0 (by rfl) (pa_cons (pv 1) pa_nil))))
      (pss_one (ps_raise rfl (takes_of rfl rfl rfl rfl) (pmk_1 G.nr hr2 (by rfl) (pa_cons (pe_un un_neg pe_int) pa_nil))))
      pss_nil)
    (C8.pss_cut (ps_for (passes_of rfl) rfl (pi_or (pi_enum (by rfl) G.enumerate (pa_cons (pv 1) pa_nil)) (pi_enumT (by rfl) G.enumerate (pa_cons (pv 1) pa_nil))) (pg_tup rfl (pgs_cons (pg_name (i := 2) sc_hd.nd rfl (Or.inl rfl)) (pgs_cons (pg_name (i := 3) sc_hd.nd rfl (Or.inl rfl)) pgs_nil)))
      (pss_one (ps_if (PW.pt (pw_or (pt_cmpR op_ge (pv 2) (pe_callB call_len_seq (by rfl) G.len (by decide +kernel) (pa_cons (pe_fld (pv 0) rfl) pa_nil)) (nomark _)) (pw_or1 (pt_not (pt_val (pe_methK (P := P) (w := w) (K := K) (mg := mg) (base := base) (k := 4) (CX := CX0) rfl rfl rfl rfl rfl hr (pe_ix ix_tup (pe_fld (pv 0) rfl) (pv 2) (fun _ _ => rfl)) pass0 (pa_cons (pv 3) pa_nil)))))))
        (pss_one (ps_raise rfl (takes_of rfl rfl rfl rfl) (pmk_1 G.nr hr2 (by rfl) (pa_cons (pv 2) pa_nil))))
        pss_nil)))
    (pss_one (ps_ret (pe_join pe_str (pe_lc (own := [("field", 4), ("value", 3), ("joint", 5)]) (g := _) (tt := tYes) rfl sc_hd.nd (Z3.pi_zip3 (by rfl) G.zip (pa_cons (pe_fld (pv 0) rfl) (pa_cons (pv 1) (pa_cons (pe_fn G.joints_behind (hr.mono (by decide)) pass0 (by rfl) (pa_cons (pv 0) pa_nil)) pa_nil)))) (blkOk_by (N := ["layout", "values", "place", "value", "field", "joint"]) (sc := defScope s_hd) (by decide +kernel)) (fun _ _ _ _ _ => pg_tupK (n := 3) (K := K) rfl rfl (pgs_cons (pg_name (i := 4) sc_hd.nd rfl (Or.inl rfl)) (pgs_cons (pg_name (i := 3) sc_hd.nd rfl (Or.inl rfl)) (pgs_cons (pg_name (i := 5) sc_hd.nd rfl (Or.inl rfl)) pgs_nil)))) (fun _ _ _ _ _ => pts_nil) (fun _ _ _ _ _ => (pe_op op_add_str (pe_methK (P := P) (w := w) (K := K) (mg := mg) (base := base) (k := 4) (CX := CX0) rfl rfl rfl rfl rfl (hr.mono (by decide)) (pv 4) pass0 (pa_cons (pv 3) pa_nil)) (pv 5))))))))), ?_⟩
    obtain ⟨L, ds, js, v, o, rfl, hLy, hS, hR, q1, q2⟩ := h
    refine ⟨_, rfl, v, o, rfl, hS, fun H0 S0 => ⟨_, rfl, ?_⟩⟩
    have hLy0 := hLy.same S0
    have hS0 := hS.same S0
    have hR0 := hR.same S0
    cases o with
    | none => exact iteT ⟨_, rfl, mkO_1 (raise_mono S0 (q2 _ rfl))⟩
    | some xs =>
    refine iteF ?_
    obtain ⟨p, b, rfl, hsq, hor⟩ := hS0.sqb
    obtain ⟨hxl, hxs⟩ := hR0
    have hfew := hLy0.ok.few
    refine ⟨fun σ J => ∃ v2 v3 v4 v5, σ = [some (.ref L), some (.ref p), v2, v3, v4, v5] ∧ Same H0 J ∧ ∀ j, j < xs.length → badAt ds xs j = false, ?_, ?_⟩
    · rcases hor with hl | hl
      · refine .inl ⟨_, rfl, p, xs, rfl, hl, for_it (walk_enum (xs := xs)) (fun i σ J => (∃ v2 v3 v4 v5, σ = [some (.ref L), some (.ref p), v2, v3, v4, v5]) ∧ Same H0 J ∧ ∀ j, j < i → badAt ds xs j = false) ⟨⟨_, _, _, _, rfl⟩, Same.refl _, fun j hj => absurd hj (Nat.not_lt_zero _)⟩ (fun i σ J _ ⟨_, S, _⟩ => S.seq hl) ?_ ?_⟩
        · rintro i z σ J1 J2 hi ⟨⟨v2, v3, v4, v5, rfl⟩, S1, hb⟩ ⟨tt, zi, x, rfl, ht, rfl, ei, ev⟩
          cases ei
          replace ev : xs[i]? = some x := ev
          have S2 := same_upd (o := .tup [V.int (i : Nat), x]) ht
          have r2 : upd J1 tt (.tup [V.int (i : Nat), x]) tt = some (.tup [V.int (i : Nat), x]) := upd_same
          generalize upd J1 tt (.tup [V.int (i : Nat), x]) = J2 at S2 r2 ⊢
          have S3 := S1.trans S2
          have hLy1 := hLy0.same S3
          obtain ⟨⟨dx, t1, t2, ys, hL, h1, hF, h2⟩, _⟩ := id hLy1
          have hlen : ys.length = ds.length := hF.1
          have T1 := S0.trans S3
          have bad : badAt ds xs i = true → RaiseE (NR K) "place" (.int (i : Nat)) J2 E := fun hbd => raise_mono T1 (q2 _ (by
            show ((List.range xs.length).find? (badAt ds xs)).map _ = _
            rw [find_at hi hbd hb]
            rfl))
          refine ⟨tt, _, rfl, SqT.of r2, rfl, _, _, rfl, _, _, rfl, rfl, ?_⟩
          refine ⟨_, rfl, _, rfl, L, _, dx, _, _, rfl, hL, G.cLayout.cl, G.cLayout.no _ (by decide +kernel), lLayout_fields, t1, ys, rfl, .inr h1, _, _, rfl, rfl, _, rfl, ?_⟩
          refine ite2 (fun c2 => ?_) (fun c2 => ?_)
          · have c2' : ¬ i < ds.length := by have := of_decide_eq_true c2; omega
            refine ⟨_, rfl, mkO_1 (bad ?_)⟩
            unfold badAt
            rw [List.getElem?_eq_none (show ds.length ≤ i by omega)]
          · have c2' : i < ds.length := by
              refine Decidable.byContradiction fun z => c2 (decide_eq_true ?_)
              omega
            obtain ⟨y0, hy0⟩ : ∃ x, ys[i]? = some x := ⟨_, List.getElem?_eq_getElem (by omega)⟩
            obtain ⟨y, d, rfl, hd, hk⟩ := hF.get hy0
            have eb : badAt ds xs i = !d.hasV x := by
              unfold badAt
              rw [hd, ev]
            rw [eb] at bad
            obtain ⟨ey, fs, hin, lf⟩ := hk.ins (g := "has_value") (.inl rfl)
            obtain ⟨sp, M, Hs⟩ := G.toP5.hv5 hk
            obtain ⟨fde, Fe, Be⟩ := M.ok
            obtain ⟨htx, hlv⟩ := hxs x (List.mem_of_getElem? ev)
            have aty : atI ys (i : Int) = some (.ref y) := (atI_nat hy0)
            refine ⟨_, rfl, L, _, dx, _, _, rfl, hL, G.cLayout.cl, G.cLayout.no _ (by decide +kernel), lLayout_fields, _, rfl, t1, ys, _, _, rfl, rfl, h1, aty, y, _, ey, _, fs, fde, _, sp, rfl, hin, lf, G.cl _ d.ci_lt, M.me, Fe, Be, _, rfl, Hs x _ _ (htx.same S3) hlv ⟨_, rfl, ?_⟩⟩
            refine ite2 (fun c => ⟨_, rfl, mkO_1 (bad c)⟩) (fun c => ⟨⟨_, _, _, _, rfl⟩, S3, fun j hj => ?_⟩)
            rcases Nat.lt_or_ge j i with h | h
            · exact hb j h
            · rw [show j = i by omega, eb]
              exact Bool.eq_false_iff.mpr c
        · rintro σ J ⟨⟨v2, v3, v4, v5, rfl⟩, S1, hb⟩
          exact ⟨_, _, _, _, rfl, S1, hb⟩
      · refine .inr ⟨_, rfl, p, xs, rfl, hl, for_it (walk_enumT (xs := xs)) (fun i σ J => (∃ v2 v3 v4 v5, σ = [some (.ref L), some (.ref p), v2, v3, v4, v5]) ∧ Same H0 J ∧ ∀ j, j < i → badAt ds xs j = false) ⟨⟨_, _, _, _, rfl⟩, Same.refl _, fun j hj => absurd hj (Nat.not_lt_zero _)⟩ (fun i σ J _ ⟨_, S, _⟩ => Z3.seqT_same S hl) ?_ ?_⟩
        · rintro i z σ J1 J2 hi ⟨⟨v2, v3, v4, v5, rfl⟩, S1, hb⟩ ⟨tt, zi, x, rfl, ht, rfl, ei, ev⟩
          cases ei
          replace ev : xs[i]? = some x := ev
          have S2 := same_upd (o := .tup [V.int (i : Nat), x]) ht
          have r2 : upd J1 tt (.tup [V.int (i : Nat), x]) tt = some (.tup [V.int (i : Nat), x]) := upd_same
          generalize upd J1 tt (.tup [V.int (i : Nat), x]) = J2 at S2 r2 ⊢
          have S3 := S1.trans S2
          have hLy1 := hLy0.same S3
          obtain ⟨⟨dx, t1, t2, ys, hL, h1, hF, h2⟩, _⟩ := id hLy1
          have hlen : ys.length = ds.length := hF.1
          have T1 := S0.trans S3
          have bad : badAt ds xs i = true → RaiseE (NR K) "place" (.int (i : Nat)) J2 E := fun hbd => raise_mono T1 (q2 _ (by
            show ((List.range xs.length).find? (badAt ds xs)).map _ = _
            rw [find_at hi hbd hb]
            rfl))
          refine ⟨tt, _, rfl, SqT.of r2, rfl, _, _, rfl, _, _, rfl, rfl, ?_⟩
          refine ⟨_, rfl, _, rfl, L, _, dx, _, _, rfl, hL, G.cLayout.cl, G.cLayout.no _ (by decide +kernel), lLayout_fields, t1, ys, rfl, .inr h1, _, _, rfl, rfl, _, rfl, ?_⟩
          refine ite2 (fun c2 => ?_) (fun c2 => ?_)
          · have c2' : ¬ i < ds.length := by have := of_decide_eq_true c2; omega
            refine ⟨_, rfl, mkO_1 (bad ?_)⟩
            unfold badAt
            rw [List.getElem?_eq_none (show ds.length ≤ i by omega)]
          · have c2' : i < ds.length := by
              refine Decidable.byContradiction fun z => c2 (decide_eq_true ?_)
              omega
            obtain ⟨y0, hy0⟩ : ∃ x, ys[i]? = some x := ⟨_, List.getElem?_eq_getElem (by omega)⟩
            obtain ⟨y, d, rfl, hd, hk⟩ := hF.get hy0
            have eb : badAt ds xs i = !d.hasV x := by
              unfold badAt
              rw [hd, ev]
            rw [eb] at bad
            obtain ⟨ey, fs, hin, lf⟩ := hk.ins (g := "has_value") (.inl rfl)
            obtain ⟨sp, M, Hs⟩ := G.toP5.hv5 hk
            obtain ⟨fde, Fe, Be⟩ := M.ok
            obtain ⟨htx, hlv⟩ := hxs x (List.mem_of_getElem? ev)
            have aty : atI ys (i : Int) = some (.ref y) := (atI_nat hy0)
            refine ⟨_, rfl, L, _, dx, _, _, rfl, hL, G.cLayout.cl, G.cLayout.no _ (by decide +kernel), lLayout_fields, _, rfl, t1, ys, _, _, rfl, rfl, h1, aty, y, _, ey, _, fs, fde, _, sp, rfl, hin, lf, G.cl _ d.ci_lt, M.me, Fe, Be, _, rfl, Hs x _ _ (htx.same S3) hlv ⟨_, rfl, ?_⟩⟩
            refine ite2 (fun c => ⟨_, rfl, mkO_1 (bad c)⟩) (fun c => ⟨⟨_, _, _, _, rfl⟩, S3, fun j hj => ?_⟩)
            rcases Nat.lt_or_ge j i with h | h
            · exact hb j h
            · rw [show j = i by omega, eb]
              exact Bool.eq_false_iff.mpr c
        · rintro σ J ⟨⟨v2, v3, v4, v5, rfl⟩, S1, hb⟩
          exact ⟨_, _, _, _, rfl, S1, hb⟩
    rintro σ J ⟨v2, v3, v4, v5, rfl, S1, hb⟩
    have hn : headDue ds (some xs) = none := by
      show ((List.range xs.length).find? (badAt ds xs)).map _ = none
      rw [List.find?_eq_none.mpr (fun j hj => by rw [hb j (List.mem_range.mp hj)]; decide)]
      rfl
    obtain ⟨hT, q⟩ := q1 hn xs rfl
    have hLy1 := hLy0.same S1
    have hsq1 := Z3.SqB.same S1 hsq
    obtain ⟨⟨dx, t1, t2, ys, hL, h1, hF, h2⟩, ok⟩ := id hLy1
    have hlen : ys.length = ds.length := hF.1
    have hjl := ok.len
    have bad0 : ∀ i, badAt ds xs i = false → i < ds.length ∧ ∀ d x, ds[i]? = some d → xs[i]? = some x → d.hasV x = true := fun i hb => by
      unfold badAt at hb
      cases e1 : ds[i]? with
      | none => rw [e1] at hb; cases hb
      | some d =>
        refine ⟨(List.getElem?_eq_some_iff.mp e1).1, fun d' x e2 e3 => ?_⟩
        cases e2
        rw [e1, e3] at hb
        cases e : d.hasV x with
        | true => rfl
        | false =>
          have hb : (!d.hasV x) = false := hb
          rw [e] at hb
          cases hb
    have hle : xs.length ≤ ds.length := by
      rcases Nat.lt_or_ge ds.length xs.length with k | k
      · have := (bad0 ds.length (hb _ k)).1
        omega
      · exact k
    refine ⟨⟨_, rfl⟩, _, rfl, L, _, dx, _, _, rfl, hL, G.cLayout.cl, G.cLayout.no _ (by decide +kernel), lLayout_fields, _, rfl, _, rfl, L, ds, js, rfl, hLy1, fun p3 H1 S2 h3 => ?_⟩
    refine ⟨t1, p, p3, false, b, false, ys, xs, (js ++ [("" : Str)]).map V.str, rfl, Z3.seqT_same S2 h1, Z3.SqB.same S2 hsq1, h3, fun D hD => ?_⟩
    refine Z3.lc_zip3S (K := K) (by omega) (by rw [List.length_map, List.length_append]; show xs.length ≤ js.length + 1; omega) (LcP H1 D fun n => ((List.range n).map (piece ds js xs)).map V.str) (LcP.start hD rfl) (fun i J pJ => ⟨Z3.seqT_same (S2.trans pJ.1) h1, Z3.SqB.same (S2.trans pJ.1) hsq1, Z3.seqT_same pJ.1 h3⟩) ?_ ?_
    · intro i y x u T J hy hx hu pJ hTn
      obtain ⟨ya, d, rfl, hd, hk⟩ := hF.get hy
      obtain ⟨j, hj, rfl⟩ : ∃ j, (js ++ [("" : Str)])[i]? = some j ∧ V.str j = u := by
        rw [List.getElem?_map] at hu
        cases e : (js ++ [("" : Str)])[i]? with
        | none => rw [e] at hu; cases hu
        | some j => rw [e] at hu; exact ⟨j, rfl, Option.some.inj hu⟩
      have SJ := (S2.trans pJ.1).trans (same_upd (o := .tup [.ref ya, x, .str j]) hTn)
      have hk2 := hk.same SJ
      obtain ⟨ey, fs, hin, lf⟩ := hk2.ins (g := "text_for") (.inr (.inl rfl))
      obtain ⟨sp, M, Hs⟩ := G.toP5.tf5 hk2
      obtain ⟨fde, Fe, Be⟩ := M.ok
      obtain ⟨hv1, hv2, hv3⟩ := hT i d x hd hx
      have hi := (List.getElem?_eq_some_iff.mp hd).1
      have hix := (List.getElem?_eq_some_iff.mp hx).1
      have hj1 := mem_joint ok hj
      have ep : piece ds js xs i = d.textF x ++ j := by
        unfold piece
        rw [hd, hx, hj]
      refine ⟨T, _, rfl, SqT.of upd_same, rfl, _, _, rfl, _, _, rfl, _, _, rfl, rfl, rfl, _, rfl, ya, _, ey, _, fs, fde, _, sp, rfl, hin, lf, G.cl _ d.ci_lt, M.me, Fe, Be, _, rfl, Hs x _ _ hv1 ((bad0 i (hb i hix)).2 d x hd hx) hv2 fun H3 S3 => ?_⟩
      refine ⟨_, rfl, _, j, rfl, rfl, by rw [sizeLine_eq]; omega, pJ.put ((same_upd hTn).trans S3) ?_ (by omega)⟩
      show (List.map V.str (List.map (piece ds js xs) (List.range (i + 1)))) = _
      rw [List.range_succ, List.map_append, List.map_append]
      show _ ++ [V.str (piece ds js xs i)] = _
      rw [ep]
    · rintro J2 ⟨S3, _, eJ, _⟩
      refine ⟨_, D, (List.range xs.length).map (piece ds js xs), rfl, rfl, .inl (SqL.of eJ), ?_, q _ (((S0.trans S1).trans S2).trans S3)⟩
      have z := sum_len (f := fun x : Str => x.length) (k := 901) ((List.range xs.length).map (piece ds js xs)) (fun x hx => by
        obtain ⟨i, _, rfl⟩ := List.mem_map.mp hx
        exact piece_len ok hT i)
      rw [List.length_map, List.length_range] at z ⊢
      have z2 : ("" : Str).length = 0 := rfl
      rw [z2, Nat.mul_zero, Nat.add_zero]
      omega

end
end L2.K76

set_option Elab.async false
set_option linter.all false
set_option maxRecDepth 100000
set_option maxHeartbeats 4000000
/-! A method of an instance of a known class, which may raise. -/
namespace L2.Jk
open PySem PySem.W PySem.Spec PySem.Calls PyProof.Rows
structure MetAt (P : Program) (w : World) (K : Frag) (mg : Str → Option Value) (base : Heap) (CX : CXT) (k : Nat) (C : Addr) (m : Str) (ps : List Str) (sp : Sp) : Prop where
  cl : Cls K C
  me : Meth K C m (He.ma K C m)
  ok : ∃ fd, FnOk P w K mg base CX k (He.ma K C m) fd ps sp ∧ Binds K fd ps []
def tMetS (C : Addr) (m : Str) (sp : Sp) (E : St → XK) (ta : TE) (t : TA) : TE := fun σ H Q => ta σ H fun x H1 => ∃ (a dx : Addr) (fs : List (Str × V)), x = .ref a ∧ H1 a = some (.ins C dx fs) ∧ fs.lookup m = none ∧ t σ H1 fun vs H2 => sp (x :: vs) H2 Q (E σ)
section
variable {X : Cx} {CX : CXT} {k : Nat} {C : Addr} {ps : List Str} {sp : Sp} {E : St → XK} {o e : Expr} {es : List Expr} {m : Str} {ta : TE} {t : TA} {apos pos : Pos}
theorem pe_metS {pl : Sem Bool} (G : MetAt X.prog X.w X.K X.mg X.base CX k C m ps sp) (hr : Room k X.A) (he : PE X o ta) (hx : ∀ σ, PassesAt CX X σ (E σ)) (ha : PA X (e :: es) t)
    (hst : starEach (e :: es) X.env = (false, eval e X.env) :: starEach es X.env := by rfl) (hpl : (backTo pos (starEach es X.env)).any (·.1) = false := by rfl)
    (ht : eval (.Call (.Attribute o m apos) (e :: es) [] pos) X.env = (do
      let ov ← eval o X.env
      standAt apos.atName
      let (f, first) ← holding [ov] (getMethod ov m pl)
      callWith pos f first (backTo pos (starEach (e :: es) X.env)) (backToKw pos (keywordEach [] X.env))) := by rfl) :
    PE X (.Call (.Attribute o m apos) (e :: es) [] pos) (tMetS C m sp E ta t) := by
  obtain ⟨fd, F, hb⟩ := G.ok
  refine ⟨fun pins s σ H Q I h => ?_⟩
  refine PySem.W.methodCall_KW (pl := pl) (thn (he.run pins s σ H _ I h) fun u s1 hh => ?_) ht
  obtain ⟨x, H1, I1, rx, a, dx, fs, ex, ea, l, q⟩ := hh
  subst ex
  obtain rfl : u = Value.ref a := rx
  refine getmeth_ok I1 ea G.cl G.me l ?_
  refine PySem.W.callWith_K (first := [.ref a]) (h₀ := X.base) I.ok.mod.kin G.me.kp (thn (ha.run pos pins s1 σ H1 _ I1 q) fun us s2 ⟨vs, H2, I2, r, q2⟩ => ⟨I2.kIn, ?_⟩) hst hpl
  exact run_fnS (us := .ref a :: us) (vs := .ref a :: vs) F hr hb (hx σ) I2 (.cons rfl r) q2
theorem pe_metS0 {pl : Sem Bool} (G : MetAt X.prog X.w X.K X.mg X.base CX k C m ps sp) (hr : Room k X.A) (he : PE X o ta) (hx : ∀ σ, PassesAt CX X σ (E σ))
    (ht : eval (.Call (.Attribute o m apos) [] [] pos) X.env = (do
      let ov ← eval o X.env
      standAt apos.atName
      let (f, first) ← holding [ov] (getMethod ov m pl)
      callWith pos f first (backTo pos (starEach [] X.env)) (backToKw pos (keywordEach [] X.env))) := by rfl) :
    PE X (.Call (.Attribute o m apos) [] [] pos) (tMetS C m sp E ta tNil) := by
  obtain ⟨fd, F, hb⟩ := G.ok
  refine ⟨fun pins s σ H Q I h => ?_⟩
  refine PySem.W.methodCall_KW (pl := pl) (thn (he.run pins s σ H _ I h) fun u s1 hh => ?_) ht
  obtain ⟨x, H1, I1, rx, a, dx, fs, ex, ea, l, q⟩ := hh
  subst ex
  obtain rfl : u = Value.ref a := rx
  refine getmeth_ok I1 ea G.cl G.me l ?_
  exact PySem.W.callWith_K0 (first := [.ref a]) I1.kIn G.me.kp (run_fnS (us := [.ref a]) (vs := [.ref a]) F hr hb (hx σ) I1 (.cons rfl .nil) q)
theorem pass0A {E : St → XK} : ∀ σ, PassesAt CX0 X σ (E σ) := fun σ => fun pins H s e s' I h => pass0 pins σ H s e s' I h
end
end L2.Jk

set_option Elab.async false
set_option linter.all false
set_option maxRecDepth 100000
set_option maxHeartbeats 4000000
/-! Stores. -/
namespace L2.K76
open PySem PySem.W PySem.Spec PySem.Calls PyProof.Rows L2.Jk
abbrev SC (K : Frag) : Addr := He.ga K "Store"
def fStore (l x k : V) : List (Str × V) := putF "kept" k (putF "texts" x (putF "layout" l []))
theorem lStore_layout {l x k : V} : (fStore l x k).lookup ("layout" : Str) = some l := by unfold fStore; rw [lookup_putF, if_neg (by decide +kernel), lookup_putF, if_neg (by decide +kernel), lookup_putF, if_pos rfl]
theorem lStore_texts {l x k : V} : (fStore l x k).lookup ("texts" : Str) = some x := by unfold fStore; rw [lookup_putF, if_neg (by decide +kernel), lookup_putF, if_pos rfl]
theorem lStore_kept {l x k : V} : (fStore l x k).lookup ("kept" : Str) = some k := by unfold fStore; rw [lookup_putF, if_pos rfl]
/-- what is neither a list nor a dict stays -/
def NL (H H' : Hp) : Prop := ∀ b o, (∀ xs, o ≠ .lst xs) → (∀ kvs, o ≠ .dK kvs) → H b = some o → H' b = some o
theorem NL.of_same {H H' : Hp} (S : Same H H') : NL H H' := fun b o _ _ h => S b o h
theorem NL.trans {H H1 H2 : Hp} (a : NL H H1) (b : NL H1 H2) : NL H H2 := fun c o x y h => b c o x y (a c o x y h)
theorem NL.tup {H H' : Hp} (n : NL H H') {r : Addr} {xs : List V} (h : H r = some (.tup xs)) : H' r = some (.tup xs) := n r _ (fun _ z => by cases z) (fun _ z => by cases z) h
theorem NL.ins {H H' : Hp} (n : NL H H') {r C dx : Addr} {fs : List (Str × V)} (h : H r = some (.ins C dx fs)) : H' r = some (.ins C dx fs) := n r _ (fun _ z => by cases z) (fun _ z => by cases z) h
theorem NL.frz {H H' : Hp} (n : NL H H') {r : Addr} {o : Obj} {u : HO} (h : H r = some (.frz o u)) : H' r = some (.frz o u) := n r _ (fun _ z => by cases z) (fun _ z => by cases z) h
theorem NL.sqT {K : Frag} {H H' : Hp} (n : NL H H') {t : Addr} {xs : List V} (h : SqT K H t xs) : SqT K H' t xs := by
  rcases h with (h | ⟨o, h⟩) | h
  · exact .inl (.inl (n.tup h))
  · exact .inl (.inr ⟨o, n.frz h⟩)
  · exact .inr h
theorem FieldAt.nl {K : Frag} {H H' : Hp} {y : Addr} (n : NL H H') : ∀ {d : PD}, FieldAt K H y d → FieldAt K H' y d
  | .word .., ⟨dx, h⟩ => ⟨dx, n.ins h⟩
  | .number .., ⟨dx, h⟩ => ⟨dx, n.ins h⟩
  | .fixed _, ⟨dx, h⟩ => ⟨dx, n.ins h⟩
  | .listed _, ⟨dx, t, h, ⟨o, c, d, g⟩⟩ => ⟨dx, t, n.ins h, ⟨o, c, d, n.frz g⟩⟩
  | .ended .., ⟨dx, h⟩ => ⟨dx, n.ins h⟩
theorem FdAt.nl {K : Frag} {H H' : Hp} {y : Addr} (n : NL H H') : ∀ {d : FD}, FdAt K H y d → FdAt K H' y d
  | .pl _, ⟨h, i⟩ => ⟨h.nl n, i⟩
  | .mk _ _ _, ⟨⟨dx, z, h, k⟩, i⟩ => ⟨⟨dx, z, n.ins h, k.nl n⟩, i⟩
theorem LayAt.nl {K : Frag} {H H' : Hp} {L : Addr} {ds : List FD} {js : List Str} (n : NL H H') (h : LayAt K H L ds js) : LayAt K H' L ds js := by
  obtain ⟨⟨dx, t1, t2, ys, a, b, c, d⟩, o⟩ := h
  refine ⟨⟨dx, t1, t2, ys, n.ins a, n.sqT b, ⟨c.1, fun i v d a b => ?_⟩, n.sqT d⟩, o⟩
  obtain ⟨y, ev, k⟩ := c.2 i v d a b
  exact ⟨y, ev, k.nl n⟩
theorem DIs.nl {H H' : Hp} {kvs : List (Key × V)} {m : Mp} (n : NL H H') (h : DIs H kvs m) : DIs H' kvs m := h.mono fun _ _ e => n.tup e
/-- all but what stands at two places -/
def But2 (a b : Addr) (H H' : Hp) : Prop := ∀ c o, c ≠ a → c ≠ b → H c = some o → H' c = some o
theorem But2.of_same {a b : Addr} {H H' : Hp} (S : Same H H') : But2 a b H H' := fun c o _ _ h => S c o h
theorem But2.trans {a b : Addr} {H H1 H2 : Hp} (x : But2 a b H H1) (y : But2 a b H1 H2) : But2 a b H H2 := fun c o n1 n2 h => y c o n1 n2 (x c o n1 n2 h)
theorem but2_l {a b : Addr} {H : Hp} {o : HO} : But2 a b H (upd H a o) := fun c u n _ h => by rw [upd_ne n]; exact h
theorem but2_r {a b : Addr} {H : Hp} {o : HO} : But2 a b H (upd H b o) := fun c u _ n h => by rw [upd_ne n]; exact h
theorem But2.nl {a b : Addr} {H H' : Hp} {xs : List V} {kvs : List (Key × V)} (ha : H a = some (.lst xs)) (hb : H b = some (.dK kvs)) (B : But2 a b H H') : NL H H' := fun c o n1 n2 h => B c o (fun z => by
  rw [z, ha] at h
  exact n1 _ (Option.some.inj h).symm) (fun z => by
  rw [z, hb] at h
  exact n2 _ (Option.some.inj h).symm) h
theorem erase_map {f : Str → V} : ∀ (ts : List Str) (i : Nat), (ts.map f).eraseIdx i = (ts.eraseIdx i).map f
  | [], _ => rfl
  | _ :: _, 0 => rfl
  | t :: ts, i + 1 => congrArg (f t :: ·) (erase_map ts i)
theorem seqIx_nat {i n : Nat} (h : i < n) : seqIndex? (i : Int) n = some i := by
  unfold seqIndex?
  simp
  omega
structure StA (K : Frag) (H : Hp) (S L Tx Kd : Addr) (m : Mp) (n : Nat) : Prop where
  ex : ∃ dx, H S = some (.ins (SC K) dx (fStore (.ref L) (.ref Tx) (.ref Kd)))
  tx : ∃ ts, H Tx = some (.lst (ts.map V.str)) ∧ TIs ts m ∧ ts.length ≤ n
  kd : ∃ kvs, H Kd = some (.dK kvs) ∧ DIs H kvs m
theorem StA.same {K : Frag} {H H' : Hp} {S L Tx Kd : Addr} {m : Mp} {n : Nat} (E : Same H H') (h : StA K H S L Tx Kd m n) : StA K H' S L Tx Kd m n := by
  obtain ⟨⟨dx, a⟩, ⟨ts, b, c⟩, kvs, d, e⟩ := h
  exact ⟨⟨dx, E _ _ a⟩, ⟨ts, E _ _ b, c⟩, kvs, E _ _ d, e.nl (NL.of_same E)⟩
theorem StA.nl {K : Frag} {H H' : Hp} {S L Tx Kd a b : Addr} {m : Mp} {n : Nat} (B : But2 Tx Kd H H') (h : StA K H S L Tx Kd m n) : NL H H' := by
  obtain ⟨_, ⟨ts, b, _⟩, kvs, d, _⟩ := h
  exact B.nl b d
theorem StA.dist {K : Frag} {H : Hp} {S L Tx Kd : Addr} {m : Mp} {n : Nat} (h : StA K H S L Tx Kd m n) : Tx ≠ Kd ∧ S ≠ Tx ∧ S ≠ Kd := by
  obtain ⟨⟨dx, a⟩, ⟨ts, b, c⟩, kvs, d, e⟩ := h
  exact ⟨ne_of b d (fun z => by cases z), ne_of a b (fun z => by cases z), ne_of a d (fun z => by cases z)⟩
def spStI (K : Frag) : Sp := fun vs H Q _ => ∃ (a dx L : Addr), vs = [.ref a, .ref L] ∧ H a = some (.ins (SC K) dx []) ∧ ∀ Tx Kd H', H Tx = none → H Kd = none → But a H H' → StA K H' a L Tx Kd (fun _ => none) 0 → Q .non H'
def spPut (K : Frag) : Sp := fun vs H Q E => ∃ (S L Tx Kd : Addr) (ds : List FD) (js : List Str) (m : Mp) (n : Nat) (v : V) (o : Option (List V)) (num : Int), vs = [.ref S, v, .int num] ∧ StA K H S L Tx Kd m n ∧ n < 1000 ∧ LayAt K H L ds js ∧ SeqIs K H v o ∧ RowIn H o ∧ v ≠ .ref Tx ∧
  (rowDue ds o = none → ∀ xs, o = some xs → RowT ds xs ∧ ∀ H', But2 Tx Kd H H' → StA K H' S L Tx Kd (setM m (rowText ds js xs) (xs, num)) (n + 1) → Q .non H') ∧ ∀ z, rowDue ds o = some z → RaiseE (NR K) "place" (.int z) H E
def spTake (K : Frag) : Sp := fun vs H Q E => ∃ (S L Tx Kd : Addr) (ds : List FD) (js : List Str) (m : Mp) (n : Nat) (v : V) (o : Option (List V)), vs = [.ref S, v] ∧ StA K H S L Tx Kd m n ∧ n ≤ 1000 ∧ LayAt K H L ds js ∧ SeqIs K H v o ∧ RowIn H o ∧
  (rowDue ds o = none → ∀ xs, o = some xs → RowT ds xs ∧ ∀ H', But2 Tx Kd H H' → StA K H' S L Tx Kd (delM m (rowText ds js xs)) n → Q (.bl (m (rowText ds js xs)).isSome) H') ∧ ∀ z, rowDue ds o = some z → RaiseE (NR K) "place" (.int z) H E
def spSize (K : Frag) : Sp := fun vs H Q _ => ∃ (S L Tx Kd : Addr) (m : Mp) (n : Nat), vs = [.ref S] ∧ StA K H S L Tx Kd m n ∧ ∀ ts, TIs ts m → ts.length ≤ n → Q (.int (ts.length : Nat)) H
section
variable {P : Program} {w : World} {K : Frag} {mg : Str → Option Value} {base : Heap} {f : Addr} {fd : FuncData}

abbrev s_StI : Stmt := inClass (top 43) 0
theorem sc_StI : FnScope ["self", "layout"] ["self", "layout"] (defScope s_StI) := ⟨rfl, rfl, rfl, by decide +kernel, rfl, by decide +kernel, by decide +kernel⟩

theorem ok_StI (F : FunD K "__init__" "Store.__init__" (defArgs s_StI) (defBody s_StI) (defScope s_StI) [] [] f fd) (G : S0 P w K mg base) : FnOk P w K mg base CX0 1 f fd ["self", "layout"] (spStI K) := by
  refine F.ok (CX := CX0) sc_StI (fun vs H Q E h => ?_) (fun cdv A outer s H vs Q E hr h => ?_)
  · obtain ⟨_, _, _, rfl, _⟩ := h
    rfl
  · refine ⟨_, PSs.nox (pss_cons (ps_fld (pv 0) (pv 1) rfl)
    (pss_cons (ps_fld (pv 0) (pe_lstS pa_nil) rfl)
    (pss_one (ps_fld (pv 0) pe_dnewK rfl)))), ?_⟩
    obtain ⟨a, dx, L, rfl, ha, q⟩ := h
    refine ⟨_, rfl, _, rfl, a, _, dx, _, rfl, ha, G.cStore.cl, G.cStore.no _ (by decide +kernel), (by show 0 < 1000; decide), by show 0 ≤ 1000; decide, fun Tx H1 hTx S1 e1 => ?_⟩
    refine ⟨_, rfl, a, _, dx, _, rfl, S1 _ _ upd_same, G.cStore.cl, G.cStore.no _ (by decide +kernel), (by show 1 < 1000; decide), fun Kd hKd => ?_⟩
    have nT : Tx ≠ a := fun z => by rw [z, upd_same] at hTx; cases hTx
    have nK : Kd ≠ a := fun z => by rw [z, upd_same] at hKd; cases hKd
    have nTK : Tx ≠ Kd := fun z => by rw [← z, upd_ne nT, e1] at hKd; cases hKd
    refine ⟨_, rfl, a, _, dx, _, rfl, (by rw [upd_ne nK.symm, upd_same]), G.cStore.cl, G.cStore.no _ (by decide +kernel), (by show 2 < 1000; decide), ?_⟩
    have hT0 : H Tx = none := by rw [upd_ne nT] at hTx; exact hTx
    have hK0 : H Kd = none := by
      rw [upd_ne nK] at hKd
      have z := noneOf S1 hKd
      rw [upd_ne nK] at z
      exact z
    refine q Tx Kd _ hT0 hK0 (fun c o n e => ?_) ⟨⟨dx, upd_same⟩, ⟨[], ?_, tIs_nil, Nat.le_refl _⟩, [], ?_, dIs_nil _⟩
    · rw [upd_ne n, upd_ne (ne_of_none e hK0), upd_ne n]
      exact S1 _ _ (by rw [upd_ne n]; exact e)
    · rw [upd_ne nT, upd_ne nTK, upd_ne nT]
      exact e1
    · rw [upd_ne nK, upd_same]

abbrev s_put : Stmt := inClass (top 43) 1
theorem sc_put : FnScope ["self", "row", "number", "text"] ["self", "row", "number"] (defScope s_put) := ⟨rfl, rfl, rfl, by decide +kernel, rfl, by decide +kernel, by decide +kernel⟩

theorem ok_put (F : FunD K "put" "Store.put" (defArgs s_put) (defBody s_put) (defScope s_put) [] [] f fd) (G : S0 P w K mg base) : FnOk P w K mg base (L2.CX P w) 7 f fd ["self", "row", "number"] (spPut K) := by
  refine F.ok (CX := (L2.CX P w)) sc_put (fun vs H Q E h => ?_) (fun cdv A outer s H vs Q E hr h => ?_)
  · obtain ⟨_, _, _, _, _, _, _, _, _, _, _, rfl, _⟩ := h
    rfl
  · refine ⟨_, (pss_cons (ps_set (i := 3) sc_put.nd rfl (Or.inl rfl) (pe_fnS G.row_text hr (fun σ => passAt (takes_of rfl rfl rfl rfl) σ) (by rfl) (pa_cons (pe_fld (pv 0) rfl) (pa_cons (pv 1) pa_nil))))
    (C8.pss_cut (ps_if (pt_cmp (pc_dnotin (hu_of hr) (pv 3) (pe_fld (pv 0) rfl)))
      (pss_one (ps_expr (pe_bm PySem.F.plainAttrs_list PySem.F.slot_list_insert PySem.F.type_list_insert mt_insert (pe_fld (pv 0) rfl) (pa_cons (pe_fn G.first_from (hr.mono (by decide)) pass0 (by rfl) (pa_cons (pe_fld (pv 0) rfl) (pa_cons (pv 3) pa_nil))) (pa_cons (pv 3) pa_nil)))))
      pss_nil)
    (pss_one (ps_dput (hu_of hr) (pe_fld (pv 0) rfl) (pv 3) (pe_tupS (pa_cons (pe_callTy call_tuple_of (by rfl) G.tuple (by decide +kernel) (pa_cons (pv 1) pa_nil)) (pa_cons (pv 2) pa_nil))) rfl)))), ?_⟩
    obtain ⟨S, L, Tx, Kd, ds, js, m, n, v, o, num, rfl, hS, hn, hLy, hsq, hR, nv, q1, q2⟩ := h
    obtain ⟨⟨dx, eS⟩, _, _⟩ := id hS
    refine ⟨_, rfl, S, _, dx, _, _, rfl, eS, G.cStore.cl, G.cStore.no _ (by decide +kernel), lStore_layout, _, rfl, L, ds, js, v, o, rfl, hLy, hsq, hR, fun gd xs ex => ?_, fun z hz => q2 z hz⟩
    obtain ⟨hT, q⟩ := q1 gd xs ex
    subst ex
    refine ⟨hT, fun H0 S0 => ?_⟩
    obtain ⟨d1, d2, d3⟩ := hS.dist
    obtain ⟨⟨dx, eS⟩, ⟨ts, eT, hTs, hl⟩, kvs, eK, hK⟩ := hS.same S0
    have hsq0 := hsq.same S0
    have hkl := hTs.len hK
    generalize rowText ds js xs = tt at q ⊢
    refine ⟨fun σ J => ∃ ts, σ = [some (.ref S), some v, some (.int num), some (.str tt)] ∧ But2 Tx Kd H J ∧ (∃ dx, J S = some (.ins (SC K) dx (fStore (.ref L) (.ref Tx) (.ref Kd)))) ∧ J Tx = some (.lst (ts.map V.str)) ∧ TIs ts (setM m tt (xs, num)) ∧ ts.length ≤ n + 1 ∧ (∃ kvs, J Kd = some (.dK kvs) ∧ DIs J kvs m ∧ kvs.length ≤ 1000) ∧ SeqIs K J v (some xs), ?_, ?_⟩
    · refine ⟨_, rfl, _, rfl, S, _, dx, _, _, rfl, eS, G.cStore.cl, G.cStore.no _ (by decide +kernel), lStore_kept, Kd, _, rfl, DGet.k (k := .inr tt) eK, _, rfl, ?_⟩
      rw [hK.isSome]
      refine ite2 (fun c => ?_) (fun c => ?_)
      · have hnone : m tt = none := by
          cases e : m tt with
          | none => rfl
          | some _ => rw [e] at c; cases c
        refine ⟨_, rfl, S, _, dx, _, _, rfl, eS, G.cStore.cl, G.cStore.no _ (by decide +kernel), lStore_texts, .inl ⟨rfl, _, SqL.of eT⟩, _, rfl, S, _, dx, _, _, rfl, eS, G.cStore.cl, G.cStore.no _ (by decide +kernel), lStore_texts, _, rfl, Tx, ts, tt, rfl, eT, hTs.1, by omega, fun i hi => ?_⟩
        have hil := hi.1
        refine ⟨_, rfl, Tx, _, (i : Int), _, rfl, rfl, eT, by rw [List.length_map, sizeLine_eq]; omega, by omega, by omega, ?_⟩
        have el : ((ts.map V.str).take (i : Int).toNat ++ [V.str tt]) ++ (ts.map V.str).drop (i : Int).toNat = ((ts.take i ++ [tt]) ++ ts.drop i).map V.str := by
          rw [show (i : Int).toNat = i by omega, List.map_append, List.map_append, List.map_take, List.map_drop]
          rfl
        rw [el]
        have nl : NL H0 (upd H0 Tx (.lst (((ts.take i ++ [tt]) ++ ts.drop i).map V.str))) := But2.nl eT eK but2_l
        refine ⟨_, rfl, (But2.of_same S0).trans but2_l, ⟨dx, nl.ins eS⟩, upd_same, hTs.put hnone hi, ?_, ⟨kvs, by rw [upd_ne d1.symm]; exact eK, hK.nl nl, by omega⟩, ?_⟩
        · rw [List.length_append, List.length_append, List.length_take, List.length_drop]
          show min i ts.length + 1 + _ ≤ _
          omega
        · cases hsq0 with
          | lst h => exact .lst (by rw [upd_ne (fun z => nv (by rw [z]))]; exact h)
          | tup h => exact .tup (nl.tup h)
      · have hsome : (m tt).isSome = true := by
          cases e : (m tt).isSome with
          | true => rfl
          | false => rw [e] at c; exact absurd rfl c
        exact ⟨ts, rfl, But2.of_same S0, ⟨dx, eS⟩, eT, hTs.put_in hsome, by omega, ⟨kvs, eK, hK, by omega⟩, hsq0⟩
    clear hsq0 hK eK hTs eT eS hkl S0 hsq hLy hR q1 q2
    rintro σ J ⟨ts, rfl, B, ⟨dx, eS⟩, eT, hTs, hl, ⟨kvs, eK, hK, hkl⟩, hsq⟩
    cases hsq with
    | lst h =>
      refine ⟨_, rfl, _, _, rfl, .inl ⟨SqL.of h, fun rr hrr => ?_⟩⟩
      have S2 : Same J (upd J rr (.tup xs)) := same_upd hrr
      have e2 : upd J rr (.tup xs) rr = some (.tup xs) := upd_same
      generalize upd J rr (.tup xs) = J2 at S2 e2 ⊢
      refine ⟨_, rfl, by show 2 ≤ 1000; decide, fun pe J3 hpe S3 e3 => ?_⟩
      have S23 := S2.trans S3
      refine ⟨_, rfl, S, _, dx, _, _, rfl, S23 _ _ eS, G.cStore.cl, G.cStore.no _ (by decide +kernel), lStore_kept, _, rfl, Kd, _, rfl, DPut.k (k := .inr tt) (S23 _ _ eK) (by rw [sizeLine_eq]; omega), ?_⟩
      have nl : NL J3 (upd J3 Kd (.dK (putK kvs (.inr tt) (.ref pe)))) := But2.nl (S23 _ _ eT) (S23 _ _ eK) but2_r
      have he : Ent J3 (.ref pe) (xs, num) := ⟨pe, _, rfl, e3, S3 _ _ e2⟩
      exact q _ ((B.trans (But2.of_same S23)).trans but2_r) ⟨⟨dx, nl.ins (S23 _ _ eS)⟩, ⟨ts, by rw [upd_ne d1]; exact S23 _ _ eT, hTs, hl⟩, _, upd_same, ((hK.nl (NL.of_same S23)).put he).nl nl⟩
    | tup h =>
      refine ⟨_, rfl, _, _, rfl, .inr ⟨SqT.of h, ?_⟩⟩
      have S2 := Same.refl J
      have e2 := h
      refine ⟨_, rfl, by show 2 ≤ 1000; decide, fun pe J3 hpe S3 e3 => ?_⟩
      have S23 := S2.trans S3
      refine ⟨_, rfl, S, _, dx, _, _, rfl, S23 _ _ eS, G.cStore.cl, G.cStore.no _ (by decide +kernel), lStore_kept, _, rfl, Kd, _, rfl, DPut.k (k := .inr tt) (S23 _ _ eK) (by rw [sizeLine_eq]; omega), ?_⟩
      have nl : NL J3 (upd J3 Kd (.dK (putK kvs (.inr tt) (.ref pe)))) := But2.nl (S23 _ _ eT) (S23 _ _ eK) but2_r
      have he : Ent J3 (.ref pe) (xs, num) := ⟨pe, _, rfl, e3, S3 _ _ e2⟩
      exact q _ ((B.trans (But2.of_same S23)).trans but2_r) ⟨⟨dx, nl.ins (S23 _ _ eS)⟩, ⟨ts, by rw [upd_ne d1]; exact S23 _ _ eT, hTs, hl⟩, _, upd_same, ((hK.nl (NL.of_same S23)).put he).nl nl⟩

abbrev s_take : Stmt := inClass (top 43) 2
theorem sc_take : FnScope ["self", "row", "text"] ["self", "row"] (defScope s_take) := ⟨rfl, rfl, rfl, by decide +kernel, rfl, by decide +kernel, by decide +kernel⟩

theorem ok_take (F : FunD K "take" "Store.take" (defArgs s_take) (defBody s_take) (defScope s_take) [] [] f fd) (G : S0 P w K mg base) : FnOk P w K mg base (L2.CX P w) 7 f fd ["self", "row"] (spTake K) := by
  refine F.ok (CX := (L2.CX P w)) sc_take (fun vs H Q E h => ?_) (fun cdv A outer s H vs Q E hr h => ?_)
  · obtain ⟨_, _, _, _, _, _, _, _, _, _, rfl, _⟩ := h
    rfl
  · refine ⟨_, (pss_cons (ps_set (i := 2) sc_take.nd rfl (Or.inl rfl) (pe_fnS G.row_text hr (fun σ => passAt (takes_of rfl rfl rfl rfl) σ) (by rfl) (pa_cons (pe_fld (pv 0) rfl) (pa_cons (pv 1) pa_nil))))
    (pss_cons (ps_if (pt_cmp (pc_dnotin (hu_of hr) (pv 2) (pe_fld (pv 0) rfl)))
      (pss_one (ps_ret pe_bl))
      pss_nil)
    (pss_cons (ps_ddel (pe_fld (pv 0) rfl) (pv 2))
    (pss_cons (ps_delL (pe_fld (pv 0) rfl) (pe_fn G.first_from (hr.mono (by decide)) pass0 (by rfl) (pa_cons (pe_fld (pv 0) rfl) (pa_cons (pv 2) pa_nil))))
    (pss_one (ps_ret pe_bl)))))), ?_⟩
    obtain ⟨S, L, Tx, Kd, ds, js, m, n, v, o, rfl, hS, hn, hLy, hsq, hR, q1, q2⟩ := h
    obtain ⟨⟨dx, eS⟩, _, _⟩ := id hS
    refine ⟨_, rfl, S, _, dx, _, _, rfl, eS, G.cStore.cl, G.cStore.no _ (by decide +kernel), lStore_layout, _, rfl, L, ds, js, v, o, rfl, hLy, hsq, hR, fun gd xs ex => ?_, fun z hz => q2 z hz⟩
    obtain ⟨hT, q⟩ := q1 gd xs ex
    subst ex
    refine ⟨hT, fun H0 S0 => ?_⟩
    obtain ⟨d1, d2, d3⟩ := hS.dist
    have hS0 := hS.same S0
    obtain ⟨⟨dx, eS⟩, ⟨ts, eT, hTs, hl⟩, kvs, eK, hK⟩ := id hS0
    generalize rowText ds js xs = tt at q ⊢
    refine ⟨_, rfl, _, rfl, S, _, dx, _, _, rfl, eS, G.cStore.cl, G.cStore.no _ (by decide +kernel), lStore_kept, Kd, _, rfl, DGet.k (k := .inr tt) eK, _, rfl, ?_⟩
    rw [hK.isSome]
    refine ite2 (fun c => ?_) (fun c => ?_)
    · have hnone : m tt = none := by
        cases e : m tt with
        | none => rfl
        | some _ => rw [e] at c; cases c
      have em : delM m tt = m := funext fun u => by
        unfold delM
        by_cases h : u = tt
        · rw [if_pos h, h, hnone]
        · rw [if_neg h]
      have z := q H0 (But2.of_same S0) (by rw [em]; exact hS0)
      rw [hnone] at z
      exact z
    · have hsome : (m tt).isSome = true := by
        cases e : (m tt).isSome with
        | true => rfl
        | false => rw [e] at c; exact absurd rfl c
      have nl : NL H0 (upd H0 Kd (.dK (dropK kvs (.inr tt)))) := But2.nl eT eK but2_r
      have eT1 : upd H0 Kd (.dK (dropK kvs (.inr tt))) Tx = some (.lst (ts.map V.str)) := by rw [upd_ne d1]; exact eT
      refine ⟨_, rfl, S, _, dx, _, _, rfl, eS, G.cStore.cl, G.cStore.no _ (by decide +kernel), lStore_kept, _, rfl, Kd, kvs, .inr tt, rfl, eK, rfl, by rw [hK.isSome]; exact hsome, ?_⟩
      refine ⟨_, rfl, S, _, dx, _, _, rfl, nl.ins eS, G.cStore.cl, G.cStore.no _ (by decide +kernel), lStore_texts, _, rfl, S, _, dx, _, _, rfl, nl.ins eS, G.cStore.cl, G.cStore.no _ (by decide +kernel), lStore_texts, _, rfl, Tx, ts, tt, rfl, eT1, hTs.1, by omega, fun i hi => ?_⟩
      have ei := at_mem hTs.1 hi ((hTs.2 tt).mpr hsome)
      have hil := (List.getElem?_eq_some_iff.mp ei).1
      refine ⟨Tx, _, (i : Int), i, rfl, rfl, eT1, by omega, by omega, seqIx_nat (by rw [List.length_map]; exact hil), ?_⟩
      have el : (ts.map V.str).eraseIdx i = (ts.eraseIdx i).map V.str := erase_map ts i
      rw [el]
      have B2 : But2 Tx Kd H0 (upd (upd H0 Kd (.dK (dropK kvs (.inr tt)))) Tx (.lst ((ts.eraseIdx i).map V.str))) := but2_r.trans but2_l
      have nl2 : NL H0 (upd (upd H0 Kd (.dK (dropK kvs (.inr tt)))) Tx (.lst ((ts.eraseIdx i).map V.str))) := But2.nl eT eK B2
      have z := q _ ((But2.of_same S0).trans B2) ⟨⟨dx, nl2.ins eS⟩, ⟨_, upd_same, hTs.del ei, by have := List.length_eraseIdx_le ts i; omega⟩, _, by rw [upd_ne d1.symm, upd_same], hK.drop.nl nl2⟩
      rw [hsome] at z
      exact z

abbrev s_size : Stmt := inClass (top 43) 5
theorem sc_size : FnScope ["self"] ["self"] (defScope s_size) := ⟨rfl, rfl, rfl, by decide +kernel, rfl, by decide +kernel, by decide +kernel⟩

theorem ok_size (F : FunD K "size" "Store.size" (defArgs s_size) (defBody s_size) (defScope s_size) [] [] f fd) (G : S0 P w K mg base) : FnOk P w K mg base CX0 1 f fd ["self"] (spSize K) := by
  refine F.ok (CX := CX0) sc_size (fun vs H Q E h => ?_) (fun cdv A outer s H vs Q E hr h => ?_)
  · obtain ⟨_, _, _, _, _, _, rfl, _⟩ := h
    rfl
  · refine ⟨_, PSs.nox (pss_one (ps_ret (pe_callB call_len_seq (by rfl) G.len (by decide +kernel) (pa_cons (pe_fld (pv 0) rfl) pa_nil)))), ?_⟩
    obtain ⟨S, L, Tx, Kd, m, n, rfl, hS, q⟩ := h
    obtain ⟨⟨dx, eS⟩, ⟨ts, eT, hT, hl⟩, kvs, eK, hK⟩ := hS
    refine ⟨_, rfl, S, _, dx, _, _, rfl, eS, G.cStore.cl, G.cStore.no _ (by decide +kernel), lStore_texts, Tx, _, rfl, .inl (SqL.of eT), ?_⟩
    rw [List.length_map]
    exact q ts hT hl

end
end L2.K76

set_option Elab.async false
set_option linter.all false
set_option maxRecDepth 100000
set_option maxHeartbeats 4000000
/-! Stores: scanned, moved. -/
namespace L2.K76
open PySem PySem.W PySem.Spec PySem.Calls PyProof.Rows L2.Jk
theorem pe_fldK {X : Cx} {K : Frag} {e : Expr} {ta : TE} {f : Str} {pos : Pos} (h : X.K = K) (he : PE X e ta) (hb : attributeBase e f X.env (eval e X.env) = eval e X.env := by rfl) : PE X (.Attribute e f pos) (tFld K ta f) := by
  subst h
  exact pe_fld he hb
structure S1 (P : Program) (w : World) (K : Frag) (mg : Str → Option Value) (base : Heap) : Prop extends S0 P w K mg base where
  head_of : FnAt P w K mg base (L2.CX P w) 5 "head_of" ["layout", "values"] (spHd K)
  kStore : ClsAt P w K mg base CX0 1 "Store" (SC K) ["self", "layout"] (spStI K)
  mPut : MetAt P w K mg base (L2.CX P w) 7 (SC K) "put" ["self", "row", "number"] (spPut K)
/-- what stands in a list: rows with numbers, by their texts -/
def LsIs (H : Hp) (vs : List V) (zs : List Str) (m : Mp) : Prop := vs.length = zs.length ∧ ∀ (k : Nat) v t, vs[k]? = some v → zs[k]? = some t → ∃ e, m t = some e ∧ Ent H v e
theorem LsIs.nl {H H' : Hp} {vs : List V} {zs : List Str} {m : Mp} (n : NL H H') (h : LsIs H vs zs m) : LsIs H' vs zs m := ⟨h.1, fun k v t a b => by
  obtain ⟨e, x, y⟩ := h.2 k v t a b
  exact ⟨e, x, y.mono fun _ _ q => n.tup q⟩⟩
theorem LsIs.snoc {H : Hp} {vs : List V} {zs : List Str} {m : Mp} {v : V} {t : Str} {e : List V × Int} (h : LsIs H vs zs m) (hm : m t = some e) (he : Ent H v e) : LsIs H (vs ++ [v]) (zs ++ [t]) m := by
  refine ⟨by rw [List.length_append, List.length_append, h.1]; rfl, fun k x u h1 h2 => ?_⟩
  rcases Nat.lt_or_ge k vs.length with hk | hk
  · rw [List.getElem?_append_left hk] at h1
    rw [List.getElem?_append_left (by rw [← h.1]; exact hk)] at h2
    exact h.2 k x u h1 h2
  · rw [List.getElem?_append_right hk] at h1
    rw [List.getElem?_append_right (by rw [← h.1]; exact hk), ← h.1] at h2
    have e0 : k - vs.length = 0 := by
      have := (List.getElem?_eq_some_iff.mp h1).1
      have : k - vs.length < 1 := this
      omega
    rw [e0] at h1 h2
    cases h1
    cases h2
    exact ⟨e, hm, he⟩
theorem take_snoc {α : Type} {l : List α} {k : Nat} {x : α} (h : l[k]? = some x) : l.take (k + 1) = l.take k ++ [x] := by
  rw [List.take_succ, h]
  rfl
theorem takeWhile_take {α : Type} {p : α → Bool} : ∀ {l : List α} {k : Nat}, (∀ x ∈ l.take k, p x = true) → (∀ x, l[k]? = some x → p x = false) → l.takeWhile p = l.take k
  | [], _, _, _ => by simp
  | x :: l, 0, _, h2 => by rw [List.takeWhile_cons_of_neg (by rw [h2 x rfl]; decide)]; rfl
  | x :: l, k + 1, h1, h2 => by
    rw [List.takeWhile_cons_of_pos (h1 x (by simp)), List.take_succ_cons, takeWhile_take (l := l) (k := k) (fun y hy => h1 y (by simp [hy])) (fun y hy => h2 y hy)]
def begins (h : Str) (t : Str) : Bool := Txt.startswith t h
def spScan (K : Frag) : Sp := fun vs H Q E => ∃ (S L Tx Kd : Addr) (ds : List FD) (js : List Str) (m : Mp) (n : Nat) (v : V) (o : Option (List V)), vs = [.ref S, v] ∧ StA K H S L Tx Kd m n ∧ n ≤ 1000 ∧ LayAt K H L ds js ∧ SeqIs K H v o ∧ RowIn H o ∧
  (headDue ds o = none → ∀ xs, o = some xs → RowT ds xs ∧ ∀ D ts i us H', TIs ts m → At ts (headText ds js xs) i → Same H H' → H D = none → H' D = some (.lst us) → LsIs H' us ((ts.drop i).takeWhile (begins (headText ds js xs))) m → Q (.ref D) H') ∧
  ∀ z, headDue ds o = some z → RaiseE (NR K) "place" (.int z) H E
section
variable {P : Program} {w : World} {K : Frag} {mg : Str → Option Value} {base : Heap} {f : Addr} {fd : FuncData}

abbrev s_scan : Stmt := inClass (top 43) 4
theorem sc_scan : FnScope ["self", "values", "head", "found", "at"] ["self", "values"] (defScope s_scan) := ⟨rfl, rfl, rfl, by decide +kernel, rfl, by decide +kernel, by decide +kernel⟩

theorem ok_scan (F : FunD K "scan" "Store.scan" (defArgs s_scan) (defBody s_scan) (defScope s_scan) [] [] f fd) (G : S1 P w K mg base) : FnOk P w K mg base (L2.CX P w) 6 f fd ["self", "values"] (spScan K) := by
  refine F.ok (CX := (L2.CX P w)) sc_scan (fun vs H Q E h => ?_) (fun cdv A outer s H vs Q E hr h => ?_)
  · obtain ⟨_, _, _, _, _, _, _, _, _, _, rfl, _⟩ := h
    rfl
  · refine ⟨_, (pss_cons (ps_set (i := 2) sc_scan.nd rfl (Or.inl rfl) (pe_fnS G.head_of (hr.mono (by decide)) (fun σ => passAt (takes_of rfl rfl rfl rfl) σ) (by rfl) (pa_cons (pe_fld (pv 0) rfl) (pa_cons (pv 1) pa_nil))))
    (pss_cons (ps_set (i := 3) sc_scan.nd rfl (Or.inl rfl) (pe_lstS pa_nil))
    (pss_cons (ps_set (i := 4) sc_scan.nd rfl (Or.inl rfl) (pe_fn G.first_from (hr.mono (by decide)) pass0 (by rfl) (pa_cons (pe_fld (pv 0) rfl) (pa_cons (pv 2) pa_nil))))
    (pss_cons (ps_while (passes_of rfl) (PW.pt (pw_and (pt_cmpR op_lt (pv 4) (pe_callB call_len_seq (by rfl) G.len (by decide +kernel) (pa_cons (pe_fld (pv 0) rfl) pa_nil)) (nomark _)) (pw_and1 (pt_val (pe_bm PySem.F.plainAttrs_str PySem.F.slot_str_startswith PySem.F.type_str_startswith mt_startswith (pe_ix ix_list (pe_fld (pv 0) rfl) (pv 4) (fun _ _ => rfl)) (pa_cons (pv 2) pa_nil))))))
      (pss_cons (ps_expr (pe_bm PySem.F.plainAttrs_list PySem.F.slot_list_append PySem.F.type_list_append mt_append (pv 3) (pa_cons (pe_dget (hu_of hr) (pe_fld (pv 0) rfl) (pe_ix ix_list (pe_fld (pv 0) rfl) (pv 4) (fun _ _ => rfl)) (fun _ _ => rfl)) pa_nil)))
      (pss_one (ps_aug (i := 4) sc_scan.nd rfl (Or.inl rfl) pe_int ip_add))))
    (pss_one (ps_ret (pv 3))))))), ?_⟩
    obtain ⟨S, L, Tx, Kd, ds, js, m, n, v, o, rfl, hS, hn, hLy, hsq, hR, q1, q2⟩ := h
    obtain ⟨⟨dx, eS⟩, _, _⟩ := id hS
    refine ⟨_, rfl, S, _, dx, _, _, rfl, eS, G.cStore.cl, G.cStore.no _ (by decide +kernel), lStore_layout, _, rfl, L, ds, js, v, o, rfl, hLy, hsq, hR, fun gd xs ex => ?_, fun z hz => q2 z hz⟩
    obtain ⟨hT, q⟩ := q1 gd xs ex
    subst ex
    refine ⟨hT, fun H0 S0 => ?_⟩
    have hS0 := hS.same S0
    obtain ⟨⟨dx, eS⟩, ⟨ts, eT, hTs, hl⟩, kvs, eK, hK⟩ := id hS0
    generalize headText ds js xs = hd at q ⊢
    refine ⟨by show 0 ≤ 1000; decide, fun D H1 hD S1 eD => ?_⟩
    have T1 := S0.trans S1
    refine ⟨_, rfl, S, _, dx, _, _, rfl, S1 _ _ eS, G.cStore.cl, G.cStore.no _ (by decide +kernel), lStore_texts, _, rfl, Tx, ts, hd, rfl, S1 _ _ eT, hTs.1, by omega, fun i hi => ?_⟩
    have hil := hi.1
    refine ⟨fun mm σ J => ∃ k us, mm = ts.length - (i + k) ∧ σ = [some (.ref S), some v, some (.str hd), some (.ref D), some (.int ((i + k : Nat) : Int))] ∧ i + k ≤ ts.length ∧ Same H0 J ∧ J D = some (.lst us) ∧ LsIs J us ((ts.drop i).take k) m ∧ ∀ t ∈ (ts.drop i).take k, begins hd t = true, ⟨_, 0, [], rfl, rfl, by omega, S1, eD, ⟨rfl, fun k v t h => by cases h⟩, fun t h => by cases h⟩, ?_⟩
    rintro mm σ J ⟨k, us, rfl, rfl, hk, SJ, eJ, hU, hB⟩
    have eSJ := SJ _ _ eS
    have eTJ := SJ _ _ eT
    have eKJ := SJ _ _ eK
    have tw : ∀ x, (∀ t, (ts.drop i)[k]? = some t → begins hd t = false) → x = (ts.drop i).take k → LsIs J us ((ts.drop i).takeWhile (begins hd)) m := fun x h e => by
      rw [takeWhile_take hB h]
      exact hU
    refine ⟨_, rfl, _, rfl, S, _, dx, _, _, rfl, eSJ, G.cStore.cl, G.cStore.no _ (by decide +kernel), lStore_texts, Tx, _, rfl, .inl (SqL.of eTJ), _, _, rfl, rfl, _, rfl, ?_⟩
    rw [List.length_map]
    refine ite2 (fun c => ?_) (fun c => ?_)
    · have hlt : i + k < ts.length := by have := of_decide_eq_true c; omega
      obtain ⟨t, ht⟩ : ∃ t, ts[i + k]? = some t := ⟨_, List.getElem?_eq_getElem hlt⟩
      have htv : (ts.map V.str)[i + k]? = some (V.str t) := by rw [List.getElem?_map, ht]; rfl
      have htd : (ts.drop i)[k]? = some t := by rw [List.getElem?_drop]; exact ht
      refine ⟨_, rfl, S, _, dx, _, _, rfl, eSJ, G.cStore.cl, G.cStore.no _ (by decide +kernel), lStore_texts, _, rfl, Tx, _, _, _, rfl, rfl, SqL.of eTJ, atI_nat (j := i + k) htv, rfl, _, rfl, _, _, rfl, rfl, _, rfl, ?_⟩
      refine ite2 (fun c2 => ?_) (fun c2 => ?_)
      · refine ⟨fun σ J => ∃ us, σ = [some (.ref S), some v, some (.str hd), some (.ref D), some (.int ((i + (k + 1) : Nat) : Int))] ∧ i + (k + 1) ≤ ts.length ∧ Same H0 J ∧ J D = some (.lst us) ∧ LsIs J us ((ts.drop i).take (k + 1)) m ∧ ∀ t ∈ (ts.drop i).take (k + 1), begins hd t = true, fun σ' J' ⟨us', r1, r2, r3, r4, r5, r6⟩ => ⟨ts.length - (i + (k + 1)), by omega, k + 1, us', rfl, r1, r2, r3, r4, r5, r6⟩, ?_⟩
        have hsome : (m t).isSome = true := (hTs.2 t).mp (List.mem_of_getElem? ht)
        obtain ⟨e, he⟩ := Option.isSome_iff_exists.mp hsome
        obtain ⟨r, hv, hE⟩ := hK.2 t e he
        have DG : DGet J Kd (.str t) (some r) := by
          have z := DGet.k (k := Sum.inr t) eKJ
          rw [hv] at z
          exact z
        have hul : us.length ≤ k := by rw [hU.1, List.length_take]; exact Nat.min_le_left _ _
        refine ⟨_, rfl, .inl ⟨rfl, _, SqL.of eJ⟩, _, rfl, S, _, dx, _, _, rfl, eSJ, G.cStore.cl, G.cStore.no _ (by decide +kernel), lStore_kept, _, rfl, S, _, dx, _, _, rfl, eSJ, G.cStore.cl, G.cStore.no _ (by decide +kernel), lStore_texts, _, rfl, Tx, _, _, _, rfl, rfl, SqL.of eTJ, atI_nat (j := i + k) htv, Kd, r, rfl, DG, D, us, _, rfl, rfl, eJ, by rw [sizeLine_eq]; omega, ?_⟩
        have hD0 : H0 D = none := hD
        have nl : NL J (upd J D (.lst (us ++ [r]))) := fun b o n1 n2 h => by
          rw [upd_ne (fun z => n1 us (by rw [z, eJ] at h; exact (Option.some.inj h).symm))]
          exact h
        have hEJ : Ent J r e := hE.mono fun _ _ q => SJ _ _ q
        refine ⟨_, rfl, _, _, rfl, rfl, us ++ [r], ?_, by omega, same_put SJ hD0, upd_same, ?_, fun u hu => ?_⟩
        · rw [show ((i + (k + 1) : Nat) : Int) = ((i + k : Nat) : Int) + 1 by omega]
          rfl
        · rw [take_snoc htd]
          exact (hU.snoc he hEJ).nl nl
        · rw [take_snoc htd] at hu
          rcases List.mem_append.mp hu with hu | hu
          · exact hB u hu
          · rw [List.mem_singleton.mp hu]
            exact c2
      · refine ⟨_, rfl, q D ts i us J hTs hi (S0.trans SJ) (noneOf S0 hD) eJ (tw _ (fun u hu => ?_) rfl)⟩
        rw [htd] at hu
        cases hu
        exact Bool.eq_false_iff.mpr c2
    · have hge : ts.length ≤ i + k := by
        rcases Nat.lt_or_ge (i + k) ts.length with z | z
        · exact absurd (decide_eq_true (by omega)) c
        · exact z
      refine ⟨_, rfl, q D ts i us J hTs hi (S0.trans SJ) (noneOf S0 hD) eJ (tw _ (fun u hu => ?_) rfl)⟩
      rw [List.getElem?_drop] at hu
      have := (List.getElem?_eq_some_iff.mp hu).1
      omega

end
end L2.K76

set_option Elab.async false
set_option linter.all false
set_option maxRecDepth 100000
set_option maxHeartbeats 4000000
/-! Stores: moved. -/
namespace L2.K76
open PySem PySem.W PySem.Spec PySem.Calls PyProof.Rows L2.Jk
def mvL (tx : List V → Str) (es : List (List V × Int)) : Mp := es.foldl (fun m e => setM m (tx e.1) e) (fun _ => none)
theorem mvL_snoc {tx : List V → Str} {es : List (List V × Int)} {e : List V × Int} : mvL tx (es ++ [e]) = setM (mvL tx es) (tx e.1) e := by
  unfold mvL
  rw [List.foldl_append]
  rfl
theorem mvL_fold {tx : List V → Str} {u : Str} : ∀ (es : List (List V × Int)) (m : Mp), (∀ e ∈ es, tx e.1 ≠ u) → es.foldl (fun m e => setM m (tx e.1) e) m u = m u
  | [], _, _ => rfl
  | e :: es, m, h => by
    rw [List.foldl_cons, mvL_fold es _ fun x hx => h x (List.mem_cons_of_mem _ hx)]
    unfold setM
    rw [if_neg fun z => h e (List.mem_cons_self ..) z.symm]
theorem mvL_none {tx : List V → Str} {u : Str} {es : List (List V × Int)} (h : ∀ e ∈ es, tx e.1 ≠ u) : mvL tx es u = none := mvL_fold es _ h
/-- the entries, by the texts -/
def Ents (m : Mp) (ts : List Str) (es : List (List V × Int)) : Prop := es.length = ts.length ∧ ∀ (k : Nat) t, ts[k]? = some t → ∃ e, es[k]? = some e ∧ m t = some e
theorem ents_of {m : Mp} {ts : List Str} (h : TIs ts m) : ∃ es, Ents m ts es := by
  refine ⟨ts.map fun t => (m t).getD ([], 0), by rw [List.length_map], fun k t ht => ?_⟩
  have hsome : (m t).isSome = true := (h.2 t).mp (List.mem_of_getElem? ht)
  obtain ⟨e, he⟩ := Option.isSome_iff_exists.mp hsome
  refine ⟨e, ?_, he⟩
  rw [List.getElem?_map, ht]
  show some ((m t).getD ([], 0)) = some e
  rw [he]
  rfl
end L2.K76

set_option Elab.async false
set_option linter.all false
set_option maxRecDepth 100000
set_option maxHeartbeats 4000000
/-! What the law draws: fields, their values; all is taken. -/
namespace L2.K76
open PySem PySem.W PySem.Spec PySem.Calls PyProof.Rows L2.Jk
theorem StAt.same {H H' : Hp} {a : Addr} (h : StAt H a) (s : Same H H') : StAt H' a := by
  obtain ⟨x, y, z, e, r⟩ := h
  exact ⟨x, y, z, s _ _ e, r⟩
theorem StAt.ne {H : Hp} {a b : Addr} (h : StAt H a) (n : H b = none) : b ≠ a := by
  obtain ⟨x, y, z, e, r⟩ := h
  exact ne_new e n
theorem pick {α : Type} {xs : List α} {i : Nat} (h : i < xs.length) : ∃ v, xs[i]? = some v ∧ v ∈ xs := ⟨xs[i], List.getElem?_eq_getElem h, List.getElem_mem h⟩
theorem map_eraseIdx' {α β : Type} (g : α → β) : ∀ (xs : List α) (k : Nat), (xs.map g).eraseIdx k = (xs.eraseIdx k).map g
  | [], _ => rfl
  | _ :: _, 0 => rfl
  | x :: xs, k + 1 => by
    show g x :: (xs.map g).eraseIdx k = g x :: (xs.eraseIdx k).map g
    rw [map_eraseIdx' g xs k]
def sgT (z : Str) : List Str := z.cps.toList.map fun c => ⟨#[c]⟩
def lay (z : Str) : Nat → List Str
  | 0 => [""]
  | n + 1 => (lay z n).flatMap fun t => (sgT z).map fun s => t ++ s
def allS (z : Str) (l n : Nat) : List Str := (List.range n).flatMap fun i => if l ≤ i then lay z i else []
theorem allS_succ (z : Str) (l n : Nat) : allS z l (n + 1) = allS z l n ++ (if l ≤ n then lay z n else []) := by
  unfold allS
  rw [List.range_succ, List.flatMap_append]
  simp
theorem made_of {t z : Str} (h : ∀ c ∈ t.cps.toList, c ∈ z.cps.toList) : madeB t z = true := by
  have go : ∀ k, k < t.length → z.cps.contains (t.cps.getD k 0) = true := fun k hk => by
    have hk : k < t.cps.size := hk
    rw [Array.contains_iff]
    have e : t.cps.getD k 0 = t.cps[k] := by simp [Array.getD, hk]
    rw [e]
    have m := h t.cps[k] (by simp)
    simpa using m
  obtain ⟨l1, l2, l3⟩ := lo_facts z.cps.contains t
  have e1 : PySem.stripLo z.cps.contains true t = t.length := by
    rcases l3 with e | e
    · exact e
    · by_cases k : PySem.stripLo z.cps.contains true t < t.length
      · rw [go _ k] at e
        cases e
      · omega
  obtain ⟨h1, h2, _⟩ := hi_facts z.cps.contains t _ l1
  refine decide_eq_true ?_
  have e2 : Txt.stripChars t z = Str.empty := by
    show Txt.stripBy _ _ _ _ = _
    rw [PyProof.Rows.stripBy_eq]
    have e3 : PySem.stripHi z.cps.contains true t (PySem.stripLo z.cps.contains true t) = t.length := by rw [e1] at h1 h2 ⊢; omega
    rw [e3, e1]
    show Str.mk (t.cps.extract t.cps.size t.cps.size) = ⟨#[]⟩
    simp
  rw [e2]
  rfl
theorem lay_mem {z t : Str} {n : Nat} (h : t ∈ lay z (n + 1)) : ∃ a c, a ∈ lay z n ∧ c ∈ z.cps.toList ∧ t.cps.toList = a.cps.toList ++ [c] := by
  obtain ⟨a, ha, hb⟩ := List.mem_flatMap.mp h
  obtain ⟨s, hs, rfl⟩ := List.mem_map.mp hb
  obtain ⟨c, hc, rfl⟩ := List.mem_map.mp hs
  exact ⟨a, c, ha, hc, by show (a.cps ++ #[c]).toList = _; simp⟩
theorem lay_len {z : Str} : ∀ {n : Nat} {t : Str}, t ∈ lay z n → t.length = n
  | 0, t, h => by
    cases List.mem_singleton.mp h
    rfl
  | n + 1, t, h => by
    obtain ⟨a, c, ha, _, e⟩ := lay_mem h
    have k := lay_len ha
    have k : a.cps.size = n := k
    have e2 := congrArg List.length e
    rw [List.length_append, Array.length_toList, Array.length_toList, k] at e2
    exact e2
theorem lay_chars {z : Str} : ∀ {n : Nat} {t : Str}, t ∈ lay z n → ∀ c ∈ t.cps.toList, c ∈ z.cps.toList
  | 0, t, h, c, hc => by
    cases List.mem_singleton.mp h
    cases hc
  | n + 1, t, h, c, hc => by
    obtain ⟨a, c2, ha, h2, e⟩ := lay_mem h
    rw [e] at hc
    rcases List.mem_append.mp hc with hc | hc
    · exact lay_chars ha c hc
    · cases List.mem_singleton.mp hc
      exact h2
theorem snoc_inj {a b : Str} {c d : Nat} (h : a ++ (⟨#[c]⟩ : Str) = b ++ ⟨#[d]⟩) : a = b ∧ c = d := by
  have e : (a.cps ++ #[c]).toList = (b.cps ++ #[d]).toList := congrArg (fun s : Str => s.cps.toList) h
  rw [Array.toList_append, Array.toList_append] at e
  obtain ⟨e1, e2⟩ := List.append_inj' e rfl
  obtain ⟨x⟩ := a
  obtain ⟨y⟩ := b
  have e1 : x.toList = y.toList := e1
  cases e2
  exact ⟨by rw [Array.toList_inj.mp e1], rfl⟩
theorem lay_nodup {z : Str} (h : z.cps.toList.Nodup) : ∀ n, (lay z n).Nodup
  | 0 => List.pairwise_singleton _ _
  | n + 1 => by
    refine List.pairwise_flatMap.mpr ⟨fun a _ => List.pairwise_map.mpr (List.pairwise_map.mpr (h.imp fun {c d} k e => k (snoc_inj e).2)), (lay_nodup h n).imp fun {a b} k x hx y hy e => ?_⟩
    obtain ⟨s, hs, rfl⟩ := List.mem_map.mp hx
    obtain ⟨c, hc, rfl⟩ := List.mem_map.mp hs
    obtain ⟨s2, hs2, rfl⟩ := List.mem_map.mp hy
    obtain ⟨d, hd, rfl⟩ := List.mem_map.mp hs2
    exact k (snoc_inj e).1
theorem lay_length (z : Str) : ∀ n, (lay z n).length = z.cps.size ^ n
  | 0 => rfl
  | n + 1 => by
    show ((lay z n).flatMap fun t => (sgT z).map fun s => t ++ s).length = _
    rw [List.length_flatMap]
    have h1 : ((lay z n).map fun t => ((sgT z).map fun s => t ++ s).length).sum = (lay z n).length * (sgT z).length := by simp [List.map_const']
    have h2 : (sgT z).length = z.cps.size := by unfold sgT; rw [List.length_map, Array.length_toList]
    rw [h1, h2, lay_length z n, Nat.pow_succ]
theorem allS_sub0 (z : Str) (l : Nat) : ∀ n, (allS z l n).Sublist (allS z 0 n)
  | 0 => List.Sublist.refl _
  | n + 1 => by
    rw [allS_succ, allS_succ]
    refine (allS_sub0 z l n).append ?_
    rw [if_pos (Nat.zero_le n)]
    split
    · exact List.Sublist.refl _
    · exact List.nil_sublist _
theorem allS_sub1 (z : Str) (l n : Nat) : ∀ d, (allS z l n).Sublist (allS z l (n + d))
  | 0 => List.Sublist.refl _
  | d + 1 => (allS_sub1 z l n d).trans (by rw [← Nat.add_assoc, allS_succ]; exact List.sublist_append_left _ _)
theorem mem_allS {z t : Str} {l n : Nat} (h : t ∈ allS z l n) : ∃ i, i < n ∧ l ≤ i ∧ t ∈ lay z i := by
  obtain ⟨i, hi, k⟩ := List.mem_flatMap.mp h
  by_cases g : l ≤ i
  · rw [if_pos g] at k
    exact ⟨i, List.mem_range.mp hi, g, k⟩
  · rw [if_neg g] at k
    cases k
theorem hasV_non : ∀ d : PD, d.hasV .non = false
  | .word .. => rfl
  | .number .. => rfl
  | .fixed _ => rfl
  | .listed _ => rfl
  | .ended .. => rfl
theorem newS_all {ks : Nat → Str} : ∀ {n : Nat}, (∀ i j, i < n → j < n → ks i = ks j → i = j) → newS ks n = n
  | 0, _ => rfl
  | n + 1, h => by
    have ih := newS_all (n := n) fun i j hi hj e => h i j (by omega) (by omega) e
    unfold newS
    have no : (List.range n).any (fun j => ks j == ks n) = false := by
      refine Bool.eq_false_iff.mpr fun q => ?_
      obtain ⟨j, hj, e⟩ := List.any_eq_true.mp q
      have lt := List.mem_range.mp hj
      have := h j n (by omega) (by omega) (by simpa using e)
      omega
    rw [no, if_neg Bool.false_ne_true, ih]
theorem map_strV (ts : List Str) : (ts.map V.str).map strV = ts := by
  rw [List.map_map]
  exact List.map_id' ts
theorem lay_strs : ∀ ts : List Str, (∀ t ∈ ts, (PyData.str t).canLay0 = true) → PyData.canLayAll0 ((ts.map V.str).map dV) = true ∧ PyData.depthAll ((ts.map V.str).map dV) ≤ 1
  | [], _ => ⟨rfl, by decide⟩
  | t :: ts, h => by
    obtain ⟨h1, h2⟩ := lay_strs ts fun x hx => h x (List.mem_cons_of_mem _ hx)
    refine ⟨Bool.and_eq_true_iff.mpr ⟨h t (List.mem_cons_self ..), h1⟩, ?_⟩
    show max (PyData.str t).depth _ ≤ 1
    exact Nat.max_le.mpr ⟨by show 0 ≤ 1; decide, h2⟩
theorem erase_perm {α : Type} : ∀ (L : List α) (k : Nat) (h : k < L.length), (L[k] :: L.eraseIdx k).Perm L
  | [], _, h => absurd h (Nat.not_lt_zero _)
  | _ :: _, 0, _ => List.Perm.refl _
  | x :: xs, k + 1, h => (List.Perm.swap x (xs[k]'(Nat.lt_of_succ_lt_succ h)) _).trans ((erase_perm xs k (Nat.lt_of_succ_lt_succ h)).cons x)
theorem StAt.at {H : Hp} {s : Addr} (h : StAt H s) : ∃ xs, H s = some (.lst xs) := by
  obtain ⟨x, y, z, e, _⟩ := h
  exact ⟨_, e⟩
theorem FieldAt.but {K : Frag} {s : Addr} {H H' : Hp} {y : Addr} {xs : List V} (hs : H s = some (.lst xs)) (B : But s H H') : ∀ {d : PD}, FieldAt K H y d → FieldAt K H' y d
  | .word .., ⟨dx, h⟩ => ⟨dx, B _ _ (ne_of h hs (fun z => by cases z)) h⟩
  | .number .., ⟨dx, h⟩ => ⟨dx, B _ _ (ne_of h hs (fun z => by cases z)) h⟩
  | .fixed _, ⟨dx, h⟩ => ⟨dx, B _ _ (ne_of h hs (fun z => by cases z)) h⟩
  | .listed _, ⟨dx, t, h, ⟨o, c, d, g⟩⟩ => ⟨dx, t, B _ _ (ne_of h hs (fun z => by cases z)) h, o, c, d, B _ _ (ne_of g hs (fun z => by cases z)) g⟩
  | .ended .., ⟨dx, h⟩ => ⟨dx, B _ _ (ne_of h hs (fun z => by cases z)) h⟩
theorem FdAt.but {K : Frag} {s : Addr} {H H' : Hp} {y : Addr} (st : StAt H s) (B : But s H H') : ∀ {d : FD}, FdAt K H y d → FdAt K H' y d
  | .pl _, ⟨h, i⟩ => by
    obtain ⟨xs, hs⟩ := st.at
    exact ⟨h.but hs B, i⟩
  | .mk _ _ _, ⟨⟨dx, z, h, k⟩, i⟩ => by
    obtain ⟨xs, hs⟩ := st.at
    exact ⟨⟨dx, z, B _ _ (ne_of h hs (fun z => by cases z)) h, k.but hs B⟩, i⟩
theorem seqT_but {K : Frag} {s t : Addr} {H H' : Hp} {xs zs : List V} (hs : H s = some (.lst zs)) (B : But s H H') (h : SqT K H t xs) : SqT K H' t xs := by
  rcases h with (h | ⟨o, h⟩) | h
  · exact .inl (.inl (B _ _ (ne_of h hs (fun z => by cases z)) h))
  · exact .inl (.inr ⟨o, B _ _ (ne_of h hs (fun z => by cases z)) h⟩)
  · exact .inr h
theorem LayAt.but {K : Frag} {s : Addr} {H H' : Hp} {L : Addr} {ds : List FD} {js : List Str} (st : StAt H s) (B : But s H H') (h : LayAt K H L ds js) : LayAt K H' L ds js := by
  obtain ⟨xs, hs⟩ := st.at
  obtain ⟨⟨dx, t1, t2, ys, a, b, c, d⟩, o⟩ := h
  refine ⟨⟨dx, t1, t2, ys, B _ _ (ne_of a hs (fun z => by cases z)) a, seqT_but hs B b, ⟨c.1, fun i v d a b => ?_⟩, seqT_but hs B d⟩, o⟩
  obtain ⟨y, e, k⟩ := c.2 i v d a b
  exact ⟨y, e, k.but st B⟩
/-! ### what is drawn -/
def wordZ : List Str := ["a", "ab", "b0", "ba"]
def endZ : List Str := ["a", "ab"]
def endE : List Str := ["c", "0"]
def nines : List Str := ["", "a", "b", "ab", "aba", "0", "00", "a0", "abc"]
def numL : List Nat := [0, 1, 8, 9, 99]
def numM : List Nat := [0, 1, 3, 12]
def marks : List Str := ["N", "z"]
inductive Dr : PD → Prop
  | word {z : Str} {l j : Nat} : z ∈ wordZ → l < 2 → j < 3 → Dr (.word (.str z) (.int (l : Nat)) (.int ((l + j : Nat) : Int)))
  | number {l j : Nat} : l ∈ numL → j ∈ numM → Dr (.number (.int (l : Nat)) (.int ((l + j : Nat) : Int)))
  | fixed : Dr (.fixed (.int ((1 : Nat) : Int)))
  | listed {ts : List Str} : ts.Nodup → (∀ t ∈ ts, t ∈ nines) → ts ≠ [] → ts.length ≤ 9 → Dr (.listed (.lst (ts.map V.str)))
  | ended {z e : Str} {l j : Nat} : z ∈ endZ → e ∈ endE → l < 2 → j < 2 → Dr (.ended (.str z) (.str e) (.int (l : Nat)) (.int ((l + j : Nat) : Int)))
inductive DrF : FD → Prop
  | pl {d : PD} : Dr d → DrF (.pl d)
  | mk {n : Str} {d : PD} : n ∈ marks → Dr d → DrF (.mk (.str n) (.str "M") d)
theorem bd_due {l m : Nat} (h : l ≤ m) : bDue (.int (l : Nat)) (.int (m : Nat)) = none := by
  have h1 : decide ((l : Int) < 0) = false := decide_eq_false (by omega)
  have h2 : decide ((m : Int) < (l : Int)) = false := decide_eq_false (by omega)
  show (if (!true || decide ((l : Int) < 0)) = true then _ else if (!decide (V.int (m : Nat) = V.non) && (!true || decide ((m : Int) < (l : Int)))) = true then _ else _) = _
  rw [h1, h2]
  rfl
theorem nM_nat {n : Nat} (h : n ≤ 300) : V.int (n : Nat) ∈ nM := ⟨rfl, fun i e => by injection e with e; omega⟩
theorem word_good0 : ∀ z ∈ wordZ, sBad (.str z) = false ∧ z.length ≤ 2 := by decide +kernel
theorem end_good0 : ∀ z ∈ endZ, sBad (.str z) = false ∧ z.length ≤ 2 ∧ ∀ e ∈ endE, isSignB (.str e) = true ∧ inB e z = false := by decide +kernel
theorem end_len : ∀ e ∈ endE, e.length = 1 := by decide +kernel
theorem nines_are : ∀ t ∈ nines, areB (.str t) = true ∧ t.length ≤ 3 ∧ (PyData.str t).canLay0 = true := by decide +kernel
theorem num_le : (∀ l ∈ numL, l ≤ 99) ∧ ∀ j ∈ numM, j ≤ 12 := by decide
theorem lst_good {ts : List Str} (hn : ts.Nodup) (hs : ∀ t ∈ ts, t ∈ nines) (h0 : ts ≠ []) (hl : ts.length ≤ 9) : PD.In (.listed (.lst (ts.map V.str))) ∧ PD.due (.listed (.lst (ts.map V.str))) = none := by
  obtain ⟨l1, l2⟩ := lay_strs ts fun t ht => (nines_are t (hs t ht)).2.2
  have all : (ts.map V.str).all areB = true := by
    rw [List.all_map]
    exact List.all_eq_true.mpr fun t ht => (nines_are t (hs t ht)).1
  refine ⟨⟨.inl rfl, by show (ts.map V.str).length ≤ 20; rw [List.length_map]; omega, ?_, ?_⟩, ?_⟩
  · intro v hv
    obtain ⟨t, ht, rfl⟩ := List.mem_map.mp hv
    exact ⟨rfl, Nat.le_trans (nines_are t (hs t ht)).2.1 (by decide)⟩
  · refine Bool.and_eq_true_iff.mpr ⟨l1, decide_eq_true ?_⟩
    show PyData.depthAll ((ts.map V.str).map dV) + 1 ≤ 64
    omega
  · show (if (decide ((ts.map V.str).length = 0) || xsBad (ts.map V.str)) = true then _ else _) = _
    have e1 : decide ((ts.map V.str).length = 0) = false := decide_eq_false (by rw [List.length_map]; exact fun e => h0 (List.length_eq_zero_iff.mp e))
    have e2 : xsBad (ts.map V.str) = false := by
      unfold xsBad
      rw [all, map_strV, newS_all ?_, List.length_map]
      · show (false || decide (ts.length < ts.length)) = false
        rw [decide_eq_false (Nat.lt_irrefl _)]
        rfl
      · intro i j hi hj e
        rw [List.getD_eq_getElem?_getD, List.getD_eq_getElem?_getD, List.getElem?_eq_getElem hi, List.getElem?_eq_getElem hj] at e
        exact (List.getElem_inj hn).mp e
    rw [e1, e2]
    rfl
theorem Dr.good : ∀ {d : PD}, Dr d → d.In ∧ d.due = none
  | _, .word (z := z) (l := l) (j := j) a b c => by
    obtain ⟨g1, g2⟩ := word_good0 z a
    refine ⟨⟨⟨rfl, Nat.le_trans g2 (by decide)⟩, nM_nat (by omega), nM_nat (by omega)⟩, ?_⟩
    show oDue _ _ _ = none
    unfold oDue
    rw [g1, if_neg Bool.false_ne_true]
    exact bd_due (Nat.le_add_right _ _)
  | _, .number (l := l) (j := j) a b => by
    have h1 := num_le.1 l a
    have h2 := num_le.2 j b
    exact ⟨⟨nM_nat (by omega), nM_nat (by omega)⟩, bd_due (Nat.le_add_right _ _)⟩
  | _, .fixed => ⟨⟨_, rfl, by decide, by decide⟩, by decide +kernel⟩
  | _, .listed a b c e => lst_good a b c e
  | _, .ended (z := z) (e := e) (l := l) (j := j) a b c f => by
    obtain ⟨g1, g2, g3⟩ := end_good0 z a
    obtain ⟨g4, g5⟩ := g3 e b
    refine ⟨⟨⟨rfl, Nat.le_trans g2 (by decide)⟩, ⟨rfl, by show e.length ≤ 20; rw [end_len e b]; decide⟩, nM_nat (by omega), nM_nat (by omega)⟩, ?_⟩
    show eDue _ _ _ _ = none
    unfold eDue
    rw [g1, g4, if_neg Bool.false_ne_true]
    show (if (!true || inB e z) = true then _ else _) = _
    rw [g5]
    exact bd_due (Nat.le_add_right _ _)
def marks3 : List Str := ["N", "z", "M"]
theorem m3 : ∀ c ∈ marks3, (∀ z ∈ wordZ, inB c z = false) ∧ (∀ z ∈ endZ, inB c z = false) ∧ inB c DG = false ∧ (∀ n ∈ List.range 400, inB c (dg (n : Nat)) = false) ∧ (∀ z ∈ nines, inB c z = false) ∧ ∀ e ∈ endE, c ≠ e := by decide +kernel
theorem Dr.has {c : Str} (hc : c ∈ marks3) : ∀ {d : PD}, Dr d → d.has c = false := by
  obtain ⟨k1, k2, k3, k4, k5, k6⟩ := m3 c hc
  intro d h
  cases h with
  | @word z l j a b e =>
    show (inB c z && _) = false
    rw [k1 _ a]
    rfl
  | @number l j a b =>
    have h1 := num_le.1 l a
    have h2 := num_le.2 j b
    show (if _ then _ else _) = _
    split
    · exact k3
    · refine Bool.eq_false_iff.mpr fun q => ?_
      obtain ⟨i, hi, e⟩ := List.any_eq_true.mp q
      have hi := List.mem_range.mp hi
      have hi : i < (((l + j : Nat) : Int) + 1 - (l : Int)).toNat := hi
      have e2 : (intV (.int (l : Nat)) + (i : Int)) = ((l + i : Nat) : Int) := by show (l : Int) + (i : Int) = _; omega
      rw [e2, k4 (l + i) (List.mem_range.mpr (by omega))] at e
      cases e
  | fixed => exact k3
  | listed a b e f =>
    refine Bool.eq_false_iff.mpr fun q => ?_
    obtain ⟨v, hv, e2⟩ := List.any_eq_true.mp q
    obtain ⟨t, ht, rfl⟩ := List.mem_map.mp hv
    rw [show strV (.str t) = t from rfl, k5 t (b t ht)] at e2
    cases e2
  | @ended z e l j a b _ _ =>
    show (decide (V.str c = .str e) || (inB c z && _)) = false
    rw [k2 z a, decide_eq_false (fun q => k6 e b (by injection q))]
    rfl
theorem marks_facts : ∀ n ∈ marks, isSignB (.str n) = true ∧ n ≠ "M" ∧ n.length = 1 ∧ n ∈ marks3 := by decide +kernel
theorem M_facts : isSignB (.str "M") = true ∧ ("M" : Str) ∈ marks3 := by decide +kernel
theorem DrF.due : ∀ {n : Str} {d : PD}, n ∈ marks → Dr d → OD.due (.mk (.str n) (.str "M") (.pl d)) = none := fun {n d} hn h => by
  obtain ⟨f1, f2, f3, f4⟩ := marks_facts n hn
  show (if (!isSignB (.str n)) = true then _ else if (!isSignB (.str "M") || decide (V.str "M" = .str n)) = true then _ else _) = _
  rw [f1, M_facts.1, decide_eq_false (fun q => f2 (by injection q with q; exact q.symm))]
  show (if (d.has n || d.has "M") = true then _ else _) = _
  rw [h.has f4, h.has M_facts.2]
  rfl
/-! ### their values -/
/-- a value of a plain field, as the law lists them -/
inductive Vl : PD → V → Prop
  | word {z : Str} {l m : Nat} {e : V} {i : Nat} {t : Str} : l ≤ i → i ≤ m → t ∈ lay z i → Vl (.word (.str z) (.int (l : Nat)) (.int (m : Nat))) (.str t)
  | ended {z : Str} {l m : Nat} {e : V} {i : Nat} {t : Str} : l ≤ i → i ≤ m → t ∈ lay z i → Vl (.ended (.str z) e (.int (l : Nat)) (.int (m : Nat))) (.str t)
  | number {l m n : Nat} : l ≤ n → n ≤ m → Vl (.number (.int (l : Nat)) (.int (m : Nat))) (.int (n : Nat))
  | fixed {n : Nat} : n < 10 → Vl (.fixed (.int ((1 : Nat) : Int))) (.int (n : Nat))
  | listed {ts : List Str} {t : Str} : t ∈ ts → Vl (.listed (.lst (ts.map V.str))) (.str t)
inductive VlF : FD → V → Prop
  | pl {d : PD} {v : V} : Vl d v → VlF (.pl d) v
  | non {n m : V} {d : PD} : VlF (.mk n m d) .non
  | mk {n m : V} {d : PD} {v : V} : Vl d v → VlF (.mk n m d) v
theorem word_has {z t : Str} {l m i : Nat} (h1 : l ≤ i) (h2 : i ≤ m) (h3 : t ∈ lay z i) : wordB (.str z) (.int (l : Nat)) (.int (m : Nat)) (.str t) = true := by
  show (madeB t z && (decide ((l : Int) ≤ (t.length : Int)) && (decide (V.int (m : Nat) = .non) || decide ((t.length : Int) ≤ (m : Int))))) = true
  rw [made_of (lay_chars h3), lay_len h3, decide_eq_true (show (l : Int) ≤ (i : Int) by omega), decide_eq_true (show (i : Int) ≤ (m : Int) by omega), Bool.or_true]
  rfl
theorem great1 : great (.int ((1 : Nat) : Int)) = 9 := by decide +kernel
theorem dg_len : ∀ n ∈ List.range 400, (dg (n : Nat)).length ≤ 3 := by decide +kernel
theorem zf_len : ∀ n ∈ List.range 10, (Txt.zfill (dg (n : Nat)) 1).length ≤ 3 := by decide +kernel
/-- what is known of them -/
structure VOk (hv : Bool) (tx : Str) (v : V) : Prop where
  has : hv = true
  flat : flatV v = true
  len : lenV v ≤ 10
  va : vaOk v = true
  tx : tx.length ≤ 20
theorem Vl.ok {d : PD} {v : V} (hd : Dr d) (h : Vl d v) : VOk (d.hasV v) (d.textF v) v := by
  cases h with
  | @word z l m e i t h1 h2 h3 =>
    have hl := lay_len h3
    have hm : m ≤ 4 := by
      generalize em : (V.int (m : Nat)) = M at hd
      cases hd with
      | @word z l j a b c => injection em with em; omega
    refine ⟨word_has h1 h2 h3, rfl, by show t.length ≤ 10; omega, decide_eq_true (show t.length ≤ 900 by omega), by show t.length ≤ 20; omega⟩
  | @ended z l m e i t h1 h2 h3 =>
    have hl := lay_len h3
    generalize em : (V.int (m : Nat)) = M at hd
    cases hd with
    | @ended z e l j a b c f =>
      have hm : m ≤ 4 := by injection em with em; omega
      have he := end_len e b
      refine ⟨em ▸ word_has h1 h2 h3, rfl, by show t.length ≤ 10; omega, decide_eq_true (show t.length ≤ 900 by omega), ?_⟩
      show (t ++ e).length ≤ 20
      rw [append_len]
      omega
  | @number l m n h1 h2 =>
    have hm : m ≤ 150 := by
      generalize em : (V.int (m : Nat)) = M at hd
      cases hd with
      | @number l j a b =>
        have h1 := num_le.1 l a
        have h2 := num_le.2 j b
        injection em with em
        omega
    refine ⟨?_, rfl, by show 0 ≤ 10; decide, ?_, Nat.le_trans (dg_len n (List.mem_range.mpr (by omega))) (by decide)⟩
    · show (true && (decide ((l : Int) ≤ (n : Int)) && (decide (V.int (m : Nat) = .non) || decide ((n : Int) ≤ (m : Int))))) = true
      rw [decide_eq_true (show (l : Int) ≤ (n : Int) by omega), decide_eq_true (show (n : Int) ≤ (m : Int) by omega), Bool.or_true]
      rfl
    · show (decide ((0 : Int) ≤ (n : Int)) && decide ((n : Int) < 400)) = true
      rw [decide_eq_true (by omega), decide_eq_true (by omega)]
      rfl
  | @fixed n h =>
    refine ⟨?_, rfl, by show 0 ≤ 10; decide, ?_, Nat.le_trans (zf_len n (List.mem_range.mpr h)) (by decide)⟩
    · show (true && (decide ((0 : Int) ≤ (n : Int)) && decide ((n : Int) ≤ great (.int ((1 : Nat) : Int))))) = true
      rw [great1, decide_eq_true (show (0 : Int) ≤ (n : Int) by omega), decide_eq_true (show (n : Int) ≤ 9 by omega)]
      rfl
    · show (decide ((0 : Int) ≤ (n : Int)) && decide ((n : Int) < 400)) = true
      rw [decide_eq_true (by omega), decide_eq_true (by omega)]
      rfl
  | @listed ts t h =>
    generalize ex : (LX.lst (ts.map V.str)) = X at hd
    cases hd with
    | @listed ts2 a b c e =>
      injection ex with ex
      have ht : t ∈ ts2 := by
        have z : V.str t ∈ ts2.map V.str := ex ▸ List.mem_map.mpr ⟨t, h, rfl⟩
        obtain ⟨u, hu, e⟩ := List.mem_map.mp z
        injection e with e
        exact e ▸ hu
      have h3 := (nines_are t (b t ht)).2.1
      refine ⟨?_, rfl, by show t.length ≤ 10; omega, decide_eq_true (show t.length ≤ 900 by omega), by show t.length ≤ 20; omega⟩
      show inV (.str t) (ts2.map V.str) = true
      refine List.any_eq_true.mpr ⟨_, List.mem_map.mpr ⟨t, ht, rfl⟩, ?_⟩
      simp [eqV]
structure VFOk (d : FD) (v : V) : Prop where
  has : d.hasV v = true
  flat : flatV v = true
  len : lenV v ≤ 10
  va : vaOk v = true
  tx : (d.textF v).length ≤ 30
  tf : d.tfOk v = true
theorem VlF.ok {d : FD} {v : V} (hd : DrF d) (h : VlF d v) : VFOk d v := by
  cases h with
  | pl h =>
    cases hd with
    | pl hd =>
      obtain ⟨a, b, c, d, e⟩ := h.ok hd
      exact ⟨a, b, c, d, Nat.le_trans e (by decide), rfl⟩
  | @non n m d =>
    cases hd with
    | @mk n d hn hd =>
      obtain ⟨_, _, k, _⟩ := marks_facts n hn
      refine ⟨rfl, rfl, by show 0 ≤ 10; decide, rfl, by show n.length ≤ 30; omega, ?_⟩
      refine decide_eq_true ?_
      cases hd with
      | word a b c => exact Nat.zero_le _
      | number a b => exact Nat.le_trans (dg_len 0 (by decide)) (by decide)
      | fixed => exact Nat.le_trans (zf_len 0 (by decide)) (by decide)
      | listed a b c e => exact Nat.zero_le _
      | @ended z e l j a b _ _ =>
        show (("" : Str) ++ e).length ≤ 900
        rw [append_len, end_len e b]
        decide
  | @mk n m d v h =>
    cases hd with
    | @mk n d hn hd =>
      obtain ⟨a, b, c, e, g⟩ := h.ok hd
      refine ⟨?_, b, c, e, ?_, decide_eq_true (show (d.textF v).length ≤ 900 by omega)⟩
      · show (decide (v = .non) || d.hasV v) = true
        rw [a, Bool.or_true]
      · show (if decide (v = .non) = true then n else "M" ++ d.textF v).length ≤ 30
        obtain ⟨_, _, k, _⟩ := marks_facts n hn
        split
        · omega
        · rw [append_len]
          have : ("M" : Str).length = 1 := rfl
          omega
end L2.K76

set_option Elab.async false
set_option linter.all false
set_option maxRecDepth 100000
set_option maxHeartbeats 4000000
namespace L2.K76
open PySem PySem.W PySem.Spec PySem.Calls PyProof.Rows L2.Jk
theorem itB {b : Bool} {A B : Prop} (h : b = true) (k : A) : if b = true then A else B := by
  rw [h]
  exact iteT k
theorem itC {b : Bool} {A B : Prop} (h : b = false) (k : B) : if b = true then A else B := by
  rw [h]
  exact iteF k
theorem PSs.imp {X : Cx} {st : List Stmt} {t t' : TS} (h : PSs X st t) (k : ∀ D σ H, t' D σ H → t D σ H) : PSs X st t' := ⟨fun pins s σ H D I hw => h.run pins s σ H D I (k D σ H hw)⟩
theorem op_mulStrZ {X : Cx} : OpR X (binaryOp .Mult) (fun x y H Q => ∃ (z : Str) (i : Int), x = .str z ∧ y = .int i ∧ (i = 0 ∨ repOk z i = true) ∧ Q (.str (repS z i)) H) := by
  intro pins s σ H x y v u Q I rx ry h
  obtain ⟨z, i, rfl, rfl, ok, q⟩ := h
  rcases ok with rfl | ok
  · obtain ⟨t, rfl⟩ := rx
    obtain ⟨t', rfl⟩ := ry
    exact P.mul_str_none (by decide) (by decide) ⟨.str _, H, I.tok _, ⟨_, rfl⟩, q⟩
  · exact op_mulStr pins s σ H _ _ v u Q I rx ry ⟨z, i, rfl, rfl, ok, q⟩
section
variable {X : Cx} {o e : Expr} {es : List Expr} {to : TE} {t : TA} {name : Str} {apos cpos : Pos} {T id : String} {r : V → List V → Hp → VK → Prop}
theorem pe_bmK {K : Frag} (hK : X.K = K) (pa : PlainAttrs T) (slot : Slot T name id) (hty : typeOf (.builtin id) = pure (.type "method_descriptor")) (hm : MtR X id r) (ho : PE X o to) (ha : PA X (e :: es) t)
    (hbase : attributeBase o name X.env (eval o X.env) = eval o X.env := by rfl)
    (hfew : ((backTo cpos (starEach (e :: es) X.env)).all (fun x => !x.1) && (backToKw cpos (keywordEach [] X.env)).all (fun x => x.1.isSome)
      && decide ((e :: es).length + ([] : List Keyword).length + (if ([] : List Keyword).isEmpty then 0 else 1) < 30)) = true := by rfl)
    (hline : (apos.endLine == cpos.line) = true := by rfl) (hs : starEach (e :: es) X.env = (false, eval e X.env) :: starEach es X.env := by rfl) (hplain : (backTo cpos (starEach es X.env)).any (·.1) = false := by rfl) :
    PE X (.Call (.Attribute o name apos) (e :: es) [] cpos) (tBM K T r to t) := by
  subst hK
  exact pe_bm pa slot hty hm ho ha hbase hfew hline hs hplain
def rLenK (K : Frag) : List V → Hp → VK → Prop := fun xs H Q => ∃ p ys, xs = [.ref p] ∧ (SqL K H p ys ∨ SqT K H p ys) ∧ Q (.int ys.length) H
theorem call_lenK {K : Frag} (hK : X.K = K) : CallR X (.builtin "len") (rLenK K) := by
  subst hK
  exact call_len_seq
end
end L2.K76

set_option Elab.async false
set_option linter.all false
set_option maxRecDepth 100000
set_option maxHeartbeats 4000000
/-! The law: pick, made, written. -/
namespace L2.K76
open PySem PySem.W PySem.Spec PySem.Calls PyProof.Rows L2.Jk

theorem itN {a b : Str} {A B : Prop} (h : decide (V.str a = V.str b) = false) (k : B) : if decide (V.str a = V.str b) = true then A else B := by
  rw [h]
  exact iteF k
theorem itY {a : V} {A B : Prop} (k : A) : if decide (a = a) = true then A else B := by
  rw [decide_eq_true rfl]
  exact iteT k
def PDAt (s : Addr) (H : Hp) (v : V) : PD → Prop
  | .word x l m => ∃ b, v = .ref b ∧ b ≠ s ∧ H b = some (.tup [.str "word", x, l, m])
  | .number l m => ∃ b, v = .ref b ∧ b ≠ s ∧ H b = some (.tup [.str "number", l, m])
  | .fixed u => ∃ b, v = .ref b ∧ b ≠ s ∧ H b = some (.tup [.str "fixed", u])
  | .listed x => ∃ b u, v = .ref b ∧ b ≠ s ∧ H b = some (.tup [.str "listed", u]) ∧ LXAt H u x ∧ ∀ c, u = .ref c → c ≠ s
  | .ended x e l m => ∃ b, v = .ref b ∧ b ≠ s ∧ H b = some (.tup [.str "ended", x, e, l, m])
def FIn (s : Addr) (H : Hp) (v : V) : FD → Prop
  | .pl d => PDAt s H v d
  | .mk n m d => ∃ b u, v = .ref b ∧ b ≠ s ∧ H b = some (.tup [.str "marked", n, m, u]) ∧ PDAt s H u d
def FD.good : FD → Prop
  | .pl d => d.In ∧ d.due = none
  | .mk n m d => d.In ∧ d.due = none ∧ n ∈ mQ ∧ m ∈ mQ ∧ OD.due (.mk n m (.pl d)) = none
def FD.dep : FD → Nat
  | .pl _ => 0
  | .mk .. => 1
theorem mk_due {n m : V} {i : OD} (h : OD.due (.mk n m i) = none) : isSignB n = true ∧ isSignB m = true := by
  have h : (if (!isSignB n) = true then (some "none" : Option Str) else if (!isSignB m || decide (m = n)) = true then some "mark" else iDue n m i) = none := h
  cases k : isSignB n with
  | false => rw [k] at h; cases h
  | true =>
    rw [k] at h
    cases k2 : isSignB m with
    | false => rw [k2] at h; cases h
    | true => exact ⟨rfl, rfl⟩
theorem PDAt.same {s : Addr} {H H' : Hp} {v : V} (S : Same H H') : ∀ {d : PD}, PDAt s H v d → PDAt s H' v d
  | .word .., ⟨b, e, n, h⟩ => ⟨b, e, n, S _ _ h⟩
  | .number .., ⟨b, e, n, h⟩ => ⟨b, e, n, S _ _ h⟩
  | .fixed _, ⟨b, e, n, h⟩ => ⟨b, e, n, S _ _ h⟩
  | .listed _, ⟨b, u, e, n, h, l, k⟩ => ⟨b, u, e, n, S _ _ h, l.same S, k⟩
  | .ended .., ⟨b, e, n, h⟩ => ⟨b, e, n, S _ _ h⟩
theorem LXAt.but {s : Addr} {H H' : Hp} {v : V} (B : But s H H') (k : ∀ c, v = .ref c → c ≠ s) : ∀ {x : LX}, LXAt H v x → LXAt H' v x
  | .lst _, ⟨b, e, h⟩ => ⟨b, e, B _ _ (k _ e) h⟩
  | .tup _, ⟨b, e, h⟩ => ⟨b, e, by
      obtain ⟨o, c, d, g⟩ := h
      exact ⟨o, c, d, B _ _ (k _ e) g⟩⟩
  | .val _, e => e
theorem PDAt.but {s : Addr} {H H' : Hp} {v : V} (B : But s H H') : ∀ {d : PD}, PDAt s H v d → PDAt s H' v d
  | .word .., ⟨b, e, n, h⟩ => ⟨b, e, n, B _ _ n h⟩
  | .number .., ⟨b, e, n, h⟩ => ⟨b, e, n, B _ _ n h⟩
  | .fixed _, ⟨b, e, n, h⟩ => ⟨b, e, n, B _ _ n h⟩
  | .listed _, ⟨b, u, e, n, h, l, k⟩ => ⟨b, u, e, n, B _ _ n h, l.but B k, k⟩
  | .ended .., ⟨b, e, n, h⟩ => ⟨b, e, n, B _ _ n h⟩
theorem FIn.same {s : Addr} {H H' : Hp} {v : V} (S : Same H H') : ∀ {d : FD}, FIn s H v d → FIn s H' v d
  | .pl _, h => PDAt.same S h
  | .mk .., ⟨b, u, e, n, h, k⟩ => ⟨b, u, e, n, S _ _ h, k.same S⟩
theorem FIn.but {s : Addr} {H H' : Hp} {v : V} (B : But s H H') : ∀ {d : FD}, FIn s H v d → FIn s H' v d
  | .pl _, h => PDAt.but B h
  | .mk .., ⟨b, u, e, n, h, k⟩ => ⟨b, u, e, n, B _ _ n h, k.but B⟩
theorem DrF.good : ∀ {d : FD}, DrF d → d.good
  | _, .pl h => h.good
  | _, .mk (n := n) (d := d) hn h => by
    obtain ⟨g1, g2⟩ := h.good
    obtain ⟨_, _, f4, _⟩ := marks_facts _ hn
    exact ⟨g1, g2, ⟨rfl, by show n.length ≤ 20; rw [f4]; decide⟩, ⟨rfl, by decide⟩, DrF.due hn h⟩
theorem call_str_both {X : Cx} : CallR X (.type "str") (fun xs H Q => (∃ i, xs = [.int i] ∧ i.natAbs.log2 < 1920 ∧ Q (.str (toString i)) H) ∨ ∃ a, xs = [.str a] ∧ Q (.str a) H) := by
  intro pins s σ H xs us Q I r h
  rcases h with h | h
  · exact call_str_int pins s σ H xs us Q I r h
  · exact SkE.call_str_str pins s σ H xs us Q I r h
def spPick : Sp := fun vs H Q _ => ∃ (a p : Addr) (xs : List V), vs = [.ref a, .ref p] ∧ StAt H a ∧ p ≠ a ∧ H p = some (.lst xs) ∧ xs ≠ [] ∧ xs.length ≤ 1000 ∧ ∀ v H', v ∈ xs → But a H H' → StAt H' a → Q v H'
structure GR0 (P : Program) (w : World) (K : Frag) (mg : Str → Option Value) (base : Heap) : Prop extends P9 P w K mg base where
  law_draw : FnAt P w K mg base CX0 1 "_law_draw" ["_law_source_here", "_law_many"] spDraw

structure G6 (P : Program) (w : World) (K : Frag) (mg : Str → Option Value) (base : Heap) : Prop extends GR0 P w K mg base where
  kWord : ClsAt P w K mg base (L2.CX P w) 4 "Word" (ca K 0) ["self", "signs", "least", "most"] (spWord K)
  kNumber : ClsAt P w K mg base (L2.CX P w) 4 "Number" (ca K 1) ["self", "least", "most"] (spNumber K)
  kFixed : ClsAt P w K mg base (L2.CX P w) 4 "Fixed" (ca K 2) ["self", "width"] (spFixed K)
  kListed : ClsAt P w K mg base (L2.CX P w) 4 "Listed" (ca K 3) ["self", "texts"] (spListed K)
  kEnded : ClsAt P w K mg base (L2.CX P w) 4 "Ended" (ca K 4) ["self", "signs", "sign", "least", "most"] (spEnded K)
  kMarked : ClsAt P w K mg base (L2.CX P w) 4 "Marked" (ca K 5) ["self", "none", "mark", "field"] (spMarked K)
def spMd (K : Frag) (n : Nat) : Sp := fun vs H Q _ => ∃ (s0 : Addr) (v : V) (d : FD), vs = [v] ∧ FIn s0 H v d ∧ d.good ∧ d.dep < n ∧ ∀ r H', Same H H' → FdAt K H' r d → Q (.ref r) H'
section
variable {P : Program} {w : World} {K : Frag} {mg : Str → Option Value} {base : Heap} {f : Addr} {fd : FuncData}

abbrev s_law_pick : Stmt := top 47
theorem sc_law_pick : FnScope ["_law_source_here", "_law_items"] ["_law_source_here", "_law_items"] (defScope s_law_pick) := ⟨rfl, rfl, rfl, by decide +kernel, rfl, by decide +kernel, by decide +kernel⟩

theorem ok_law_pick (F : FunD K "_law_pick" "_law_pick" (defArgs s_law_pick) (defBody s_law_pick) (defScope s_law_pick) [] [] f fd) (G : GR0 P w K mg base) : FnOk P w K mg base CX0 2 f fd ["_law_source_here", "_law_items"] spPick := by
  refine F.ok (CX := CX0) sc_law_pick (fun vs H Q E h => ?_) (fun cdv A outer s H vs Q E hr h => ?_)
  · obtain ⟨a, p, xs, rfl, _⟩ := h
    rfl
  · refine ⟨_, PSs.nox (pss_one (ps_ret (pe_ix ix_list (pv 1) (pe_fn G.law_draw hr pass0 (by rfl) (pa_cons (pv 0) (pa_cons (pe_callB call_len_seq (by rfl) G.len (by decide +kernel) (pa_cons (pv 1) pa_nil)) pa_nil))) (fun _ _ => rfl)))), ?_⟩
    obtain ⟨a, p, xs, rfl, st, hne, hp, hx, hl, q⟩ := h
    have hx0 : 0 < xs.length := List.length_pos_iff.mpr hx
    refine ⟨_, rfl, _, rfl, _, rfl, p, xs, rfl, .inl (SqL.of hp), a, (xs.length : Nat), rfl, st, by omega, by omega, fun d1 H1 h0 h1 B1 st1 => ?_⟩
    obtain ⟨i, rfl⟩ : ∃ i : Nat, d1 = (i : Int) := ⟨d1.toNat, by omega⟩
    obtain ⟨v, hv, hm⟩ := pick (xs := xs) (i := i) (by omega)
    exact ⟨p, xs, _, v, rfl, rfl, SqL.of (B1 _ _ hne hp), atI_nat (j := i) hv, q v H1 hm B1 st1⟩

abbrev s_law_made : Stmt := top 48
theorem sc_law_made : FnScope ["_law_spec"] ["_law_spec"] (defScope s_law_made) := ⟨rfl, rfl, rfl, by decide +kernel, rfl, by decide +kernel, by decide +kernel⟩

theorem ok_law_made (F : FunD K "_law_made" "_law_made" (defArgs s_law_made) (defBody s_law_made) (defScope s_law_made) [] [] f fd) (G : G6 P w K mg base) {n : Nat} (AM : FnAt P w K mg base CX0 (n + 5) "_law_made" ["_law_spec"] (spMd K n)) : FnOk P w K mg base CX0 (n + 5 + 1) f fd ["_law_spec"] (spMd K (n + 1)) := by
  refine F.ok (CX := CX0) sc_law_made (fun vs H Q E h => ?_) (fun cdv A outer s H vs Q E hr h => ?_)
  · obtain ⟨s0, v, d, rfl, _⟩ := h
    rfl
  · have hr5 : Room 5 _ := hr.mono (by omega)
    refine ⟨_, PSs.nox (pss_cons (ps_if (pt_cmpR op_eq (pe_ix ix_tup (pv 0) pe_int (fun _ _ => rfl)) pe_str (nomark _))
      (pss_one (ps_ret (pe_newS G.kWord hr5 (fun σ => passAt takes0 σ) (by rfl) (pa_cons (pe_ix ix_tup (pv 0) pe_int (fun _ _ => rfl)) (pa_cons (pe_ix ix_tup (pv 0) pe_int (fun _ _ => rfl)) (pa_cons (pe_ix ix_tup (pv 0) pe_int (fun _ _ => rfl)) pa_nil))))))
      pss_nil)
    (pss_cons (ps_if (pt_cmpR op_eq (pe_ix ix_tup (pv 0) pe_int (fun _ _ => rfl)) pe_str (nomark _))
      (pss_one (ps_ret (pe_newS G.kNumber hr5 (fun σ => passAt takes0 σ) (by rfl) (pa_cons (pe_ix ix_tup (pv 0) pe_int (fun _ _ => rfl)) (pa_cons (pe_ix ix_tup (pv 0) pe_int (fun _ _ => rfl)) pa_nil)))))
      pss_nil)
    (pss_cons (ps_if (pt_cmpR op_eq (pe_ix ix_tup (pv 0) pe_int (fun _ _ => rfl)) pe_str (nomark _))
      (pss_one (ps_ret (pe_newS G.kFixed hr5 (fun σ => passAt takes0 σ) (by rfl) (pa_cons (pe_ix ix_tup (pv 0) pe_int (fun _ _ => rfl)) pa_nil))))
      pss_nil)
    (pss_cons (ps_if (pt_cmpR op_eq (pe_ix ix_tup (pv 0) pe_int (fun _ _ => rfl)) pe_str (nomark _))
      (pss_one (ps_ret (pe_newS G.kListed hr5 (fun σ => passAt takes0 σ) (by rfl) (pa_cons (pe_ix ix_tup (pv 0) pe_int (fun _ _ => rfl)) pa_nil))))
      pss_nil)
    (pss_cons (ps_if (pt_cmpR op_eq (pe_ix ix_tup (pv 0) pe_int (fun _ _ => rfl)) pe_str (nomark _))
      (pss_one (ps_ret (pe_newS G.kEnded hr5 (fun σ => passAt takes0 σ) (by rfl) (pa_cons (pe_ix ix_tup (pv 0) pe_int (fun _ _ => rfl)) (pa_cons (pe_ix ix_tup (pv 0) pe_int (fun _ _ => rfl)) (pa_cons (pe_ix ix_tup (pv 0) pe_int (fun _ _ => rfl)) (pa_cons (pe_ix ix_tup (pv 0) pe_int (fun _ _ => rfl)) pa_nil)))))))
      pss_nil)
    (pss_one (ps_ret (pe_newS G.kMarked hr5 (fun σ => passAt takes0 σ) (by rfl) (pa_cons (pe_ix ix_tup (pv 0) pe_int (fun _ _ => rfl)) (pa_cons (pe_ix ix_tup (pv 0) pe_int (fun _ _ => rfl)) (pa_cons (pe_fn AM hr pass0 (by rfl) (pa_cons (pe_ix ix_tup (pv 0) pe_int (fun _ _ => rfl)) pa_nil)) pa_nil))))))))))), ?_⟩
    obtain ⟨s0, v, d, rfl, hP, hg, hdep, q⟩ := h
    cases d with
    | mk n m d =>
      obtain ⟨b, u, rfl, hne, hb, hI⟩ := hP
      obtain ⟨hin, hd, hn, hm, hod⟩ := hg
      obtain ⟨sn, sm⟩ := mk_due hod
      refine ⟨_, rfl, b, _, _, _, rfl, rfl, SqT.of hb, atI_nat (j := 0) rfl, rfl, _, rfl, itN (by decide +kernel) ?_⟩
      refine ⟨_, rfl, b, _, _, _, rfl, rfl, SqT.of hb, atI_nat (j := 0) rfl, rfl, _, rfl, itN (by decide +kernel) ?_⟩
      refine ⟨_, rfl, b, _, _, _, rfl, rfl, SqT.of hb, atI_nat (j := 0) rfl, rfl, _, rfl, itN (by decide +kernel) ?_⟩
      refine ⟨_, rfl, b, _, _, _, rfl, rfl, SqT.of hb, atI_nat (j := 0) rfl, rfl, _, rfl, itN (by decide +kernel) ?_⟩
      refine ⟨_, rfl, b, _, _, _, rfl, rfl, SqT.of hb, atI_nat (j := 0) rfl, rfl, _, rfl, itN (by decide +kernel) ?_⟩
      refine ⟨_, rfl, b, _, _, _, rfl, rfl, SqT.of hb, atI_nat (j := 1) rfl, _, rfl, b, _, _, _, rfl, rfl, SqT.of hb, atI_nat (j := 2) rfl, _, rfl, b, _, _, _, rfl, rfl, SqT.of hb, atI_nat (j := 3) rfl, s0, u, .pl d, rfl, hI, ⟨hin, hd⟩, Nat.lt_of_succ_lt_succ hdep, fun r H1 S1 hR => ?_⟩
      intro a dx ha hx ne
      refine ⟨a, dx, n, m, .ref r, .pl d, rfl, upd_same, hn, hm, ⟨r, rfl, hR.1.same (same_new ha hx), hin, hd⟩, fun e H2 S2 => ⟨rfl, ?_⟩, fun z e => (by have e3 := hod.symm.trans e; cases e3)⟩
      have SH : Same H1 H2 := (same_new ha hx).trans S2
      exact q _ _ (S1.trans (same_put SH ha)) ⟨⟨dx, r, upd_same, hR.1.same (same_put SH ha)⟩, hin, hd, ⟨_, (sign_one sn).1⟩, _, (sign_one sm).1⟩
    | pl d =>
    obtain ⟨hin, hd⟩ := hg
    cases d with
    | word s l m =>
      obtain ⟨b, rfl, hn, hb⟩ := hP
      have hin0 := hin
      obtain ⟨hs, hl, hm⟩ := hin
      refine ⟨_, rfl, b, _, _, _, rfl, rfl, SqT.of hb, atI_nat (j := 0) rfl, rfl, _, rfl, itY ?_⟩
      refine ⟨_, rfl, b, _, _, _, rfl, rfl, SqT.of hb, atI_nat (j := 1) rfl, _, rfl, b, _, _, _, rfl, rfl, SqT.of hb, atI_nat (j := 2) rfl, _, rfl, b, _, _, _, rfl, rfl, SqT.of hb, atI_nat (j := 3) rfl, fun a dx ha hx ne => ?_⟩
      exact ⟨a, dx, s, l, m, rfl, upd_same, hs, hl, hm, fun e => ⟨rfl, q _ _ (same_put (same_new ha hx) ha) ⟨⟨dx, upd_same⟩, hin0, hd⟩⟩, fun z e => (by have e3 := hd.symm.trans e; cases e3)⟩
    | number l m =>
      obtain ⟨b, rfl, hn, hb⟩ := hP
      have hin0 := hin
      obtain ⟨hl, hm⟩ := hin
      refine ⟨_, rfl, b, _, _, _, rfl, rfl, SqT.of hb, atI_nat (j := 0) rfl, rfl, _, rfl, itN (by decide +kernel) ?_⟩
      refine ⟨_, rfl, b, _, _, _, rfl, rfl, SqT.of hb, atI_nat (j := 0) rfl, rfl, _, rfl, itY ?_⟩
      refine ⟨_, rfl, b, _, _, _, rfl, rfl, SqT.of hb, atI_nat (j := 1) rfl, _, rfl, b, _, _, _, rfl, rfl, SqT.of hb, atI_nat (j := 2) rfl, fun a dx ha hx ne => ?_⟩
      exact ⟨a, dx, l, m, rfl, upd_same, hl, hm, fun e => ⟨rfl, q _ _ (same_put (same_new ha hx) ha) ⟨⟨dx, upd_same⟩, hin0, hd⟩⟩, fun z e => (by have e3 := hd.symm.trans e; cases e3)⟩
    | fixed w =>
      obtain ⟨b, rfl, hn, hb⟩ := hP
      have hin0 := hin
      refine ⟨_, rfl, b, _, _, _, rfl, rfl, SqT.of hb, atI_nat (j := 0) rfl, rfl, _, rfl, itN (by decide +kernel) ?_⟩
      refine ⟨_, rfl, b, _, _, _, rfl, rfl, SqT.of hb, atI_nat (j := 0) rfl, rfl, _, rfl, itN (by decide +kernel) ?_⟩
      refine ⟨_, rfl, b, _, _, _, rfl, rfl, SqT.of hb, atI_nat (j := 0) rfl, rfl, _, rfl, itY ?_⟩
      refine ⟨_, rfl, b, _, _, _, rfl, rfl, SqT.of hb, atI_nat (j := 1) rfl, fun a dx ha hx ne => ?_⟩
      exact ⟨a, dx, w, rfl, upd_same, hin, fun e => ⟨rfl, q _ _ (same_put (same_new ha hx) ha) ⟨⟨dx, upd_same⟩, hin0, hd⟩⟩, fun z e => (by have e3 := hd.symm.trans e; cases e3)⟩
    | ended s e l m =>
      obtain ⟨b, rfl, hn, hb⟩ := hP
      have hin0 := hin
      obtain ⟨hs, he, hl, hm⟩ := hin
      refine ⟨_, rfl, b, _, _, _, rfl, rfl, SqT.of hb, atI_nat (j := 0) rfl, rfl, _, rfl, itN (by decide +kernel) ?_⟩
      refine ⟨_, rfl, b, _, _, _, rfl, rfl, SqT.of hb, atI_nat (j := 0) rfl, rfl, _, rfl, itN (by decide +kernel) ?_⟩
      refine ⟨_, rfl, b, _, _, _, rfl, rfl, SqT.of hb, atI_nat (j := 0) rfl, rfl, _, rfl, itN (by decide +kernel) ?_⟩
      refine ⟨_, rfl, b, _, _, _, rfl, rfl, SqT.of hb, atI_nat (j := 0) rfl, rfl, _, rfl, itN (by decide +kernel) ?_⟩
      refine ⟨_, rfl, b, _, _, _, rfl, rfl, SqT.of hb, atI_nat (j := 0) rfl, rfl, _, rfl, itY ?_⟩
      refine ⟨_, rfl, b, _, _, _, rfl, rfl, SqT.of hb, atI_nat (j := 1) rfl, _, rfl, b, _, _, _, rfl, rfl, SqT.of hb, atI_nat (j := 2) rfl, _, rfl, b, _, _, _, rfl, rfl, SqT.of hb, atI_nat (j := 3) rfl, _, rfl, b, _, _, _, rfl, rfl, SqT.of hb, atI_nat (j := 4) rfl, fun a dx ha hx ne => ?_⟩
      exact ⟨a, dx, s, e, l, m, rfl, upd_same, hs, he, hl, hm, fun e => ⟨rfl, q _ _ (same_put (same_new ha hx) ha) ⟨⟨dx, upd_same⟩, hin0, hd⟩⟩, fun z e => (by have e3 := hd.symm.trans e; cases e3)⟩
    | listed x =>
      obtain ⟨b, u, rfl, hn, hb, hL, _⟩ := hP
      refine ⟨_, rfl, b, _, _, _, rfl, rfl, SqT.of hb, atI_nat (j := 0) rfl, rfl, _, rfl, itN (by decide +kernel) ?_⟩
      refine ⟨_, rfl, b, _, _, _, rfl, rfl, SqT.of hb, atI_nat (j := 0) rfl, rfl, _, rfl, itN (by decide +kernel) ?_⟩
      refine ⟨_, rfl, b, _, _, _, rfl, rfl, SqT.of hb, atI_nat (j := 0) rfl, rfl, _, rfl, itN (by decide +kernel) ?_⟩
      refine ⟨_, rfl, b, _, _, _, rfl, rfl, SqT.of hb, atI_nat (j := 0) rfl, rfl, _, rfl, itY ?_⟩
      refine ⟨_, rfl, b, _, _, _, rfl, rfl, SqT.of hb, atI_nat (j := 1) rfl, fun a dx ha hx ne => ?_⟩
      refine ⟨a, dx, u, x, rfl, upd_same, hin, hL.same (same_new ha hx), fun e t H2 S2 e2 => ⟨rfl, ?_⟩, fun z e => (by have e3 := hd.symm.trans e; cases e3)⟩
      have SH : Same H H2 := (same_new ha hx).trans S2
      obtain ⟨ob, c1, c2, c3⟩ := e2
      have nt : t ≠ a := ne_of c3 (S2 _ _ upd_same) (fun z => by cases z)
      exact q _ _ (same_put SH ha) ⟨⟨dx, t, upd_same, ob, c1, c2, by rw [upd_ne nt]; exact c3⟩, hin, hd⟩


theorem nat_log : ∀ n ∈ List.range 400, (n : Int).natAbs.log2 < 1920 := by decide +kernel
theorem nat_dg : ∀ n ∈ List.range 400, dg (n : Nat) = (toString (n : Int) : Str) := by decide +kernel
theorem nat_fix : ∀ n ∈ List.range 10, (toString (n : Int) : Str).length = 1 ∧ repS "0" 0 ++ (toString (n : Int) : Str) = Txt.zfill (dg (n : Nat)) 1 := by decide +kernel


end
end L2.K76

set_option Elab.async false
set_option linter.all false
set_option maxRecDepth 100000
set_option maxHeartbeats 4000000
/-! The law: the text of a row as the law writes it. -/
namespace L2.K76
open PySem PySem.W PySem.Spec PySem.Calls PyProof.Rows L2.Jk
theorem add_empty (a : Str) : a ++ ("" : Str) = a := by
  obtain ⟨x⟩ := a
  show Str.mk (x ++ #[]) = _
  simp
theorem empty_add (a : Str) : ("" : Str) ++ a = a := by
  obtain ⟨x⟩ := a
  show Str.mk (#[] ++ x) = _
  simp
theorem add_assoc (a b c : Str) : a ++ (b ++ c) = (a ++ b) ++ c := by
  show Str.mk (a.cps ++ (b.cps ++ c.cps)) = Str.mk ((a.cps ++ b.cps) ++ c.cps)
  rw [Array.append_assoc]
theorem glue_snoc (l : List Str) (a : Str) : Txt.join "" (l ++ [a]) = Txt.join "" l ++ a := by
  show Builtin.Str.glued _ _ = Builtin.Str.glued _ _ ++ a
  rw [PySem.StrLaws.glued_eq_join, PySem.StrLaws.glued_eq_join, PyProof.Rows.FinIter.join_snoc]
  by_cases h : l = []
  · subst h
    rw [if_pos rfl]
    exact (empty_add a).symm
  · rw [if_neg h, add_empty]
/-- the law's fields, at a list -/
def SpsAt (s0 : Addr) (H : Hp) (vs : List V) (ds : List FD) : Prop := vs.length = ds.length ∧ ∀ (i : Nat) (v : V) (d : FD), vs[i]? = some v → ds[i]? = some d → FIn s0 H v d
theorem SpsAt.same {s0 : Addr} {H H' : Hp} {vs : List V} {ds : List FD} (S : Same H H') (h : SpsAt s0 H vs ds) : SpsAt s0 H' vs ds := ⟨h.1, fun i v d a b => (h.2 i v d a b).same S⟩
theorem SpsAt.but {s0 : Addr} {H H' : Hp} {vs : List V} {ds : List FD} (B : But s0 H H') (h : SpsAt s0 H vs ds) : SpsAt s0 H' vs ds := ⟨h.1, fun i v d a b => (h.2 i v d a b).but B⟩
theorem SpsAt.get {s0 : Addr} {H : Hp} {vs : List V} {ds : List FD} (h : SpsAt s0 H vs ds) {i : Nat} {v : V} (e : vs[i]? = some v) : ∃ d, ds[i]? = some d ∧ FIn s0 H v d := by
  have hi := (List.getElem?_eq_some_iff.mp e).1
  have e2 := List.getElem?_eq_getElem (show i < ds.length by rw [← h.1]; exact hi)
  exact ⟨_, e2, h.2 i v _ e e2⟩
/-- a row of the fields -/
def RwOk (ds : List FD) (xs : List V) : Prop := xs.length = ds.length ∧ ∀ (i : Nat) (d : FD) (x : V), ds[i]? = some d → xs[i]? = some x → VlF d x
structure G7 (P : Program) (w : World) (K : Frag) (mg : Str → Option Value) (base : Heap) : Prop extends G6 P w K mg base where
  law_pick : FnAt P w K mg base CX0 2 "_law_pick" ["_law_source_here", "_law_items"] spPick
  law_made : FnAt P w K mg base CX0 7 "_law_made" ["_law_spec"] (spMd K 2)
  enumerate : mg "enumerate" = none
theorem FD.dep_lt : ∀ d : FD, d.dep < 2
  | .pl _ => by show 0 < 2; decide
  | .mk .. => by show 1 < 2; decide
theorem glue_len {ds : List FD} {js : List Str} {xs : List V} (ok : LyOk ds js) (hT : RowT ds xs) : ∀ n, (Txt.join "" ((List.range n).map (piece ds js xs))).length ≤ n * 901
  | 0 => Nat.zero_le _
  | n + 1 => by
    rw [List.range_succ, List.map_append]
    show (Txt.join "" (_ ++ [piece ds js xs n])).length ≤ _
    rw [glue_snoc, append_len, Nat.succ_mul]
    have h1 := glue_len ok hT n
    have h2 := piece_len ok hT (xs := xs) n
    omega
theorem RwOk.rowT {ds : List FD} {xs : List V} (hd : ∀ d ∈ ds, DrF d) (h : RwOk ds xs) : RowT ds xs := fun i d x e1 e2 => by
  have ok := (h.2 i d x e1 e2).ok (hd d (List.mem_of_getElem? e1))
  have := ok.tx
  exact ⟨ok.va, ok.tf, by omega⟩
end L2.K76

set_option Elab.async false
set_option linter.all false
set_option maxRecDepth 100000
set_option maxHeartbeats 4000000
/-! The law: all strings of some signs. -/
namespace L2.K76
open PySem PySem.W PySem.Spec PySem.Calls PyProof.Rows L2.Jk
theorem allS_small {z : Str} {l n m : Nat} (h : n ≤ m) (k : (allS z l m).length < 64) : (allS z l n).length < 64 := by
  obtain ⟨d, rfl⟩ := Nat.exists_eq_add_of_le h
  induction d with
  | zero => exact k
  | succ d ih =>
    refine ih (Nat.le_add_right _ _) ?_
    rw [← Nat.add_assoc, allS_succ, List.length_append] at k
    omega
theorem none_of {H H' : Hp} {p : Addr} (S : Same H H') (h : H' p = none) : H p = none := by
  cases e : H p with
  | none => rfl
  | some o => rw [S _ _ e] at h; cases h
structure GS (P : Program) (w : World) (K : Frag) (mg : Str → Option Value) (base : Heap) : Prop extends G7 P w K mg base where
  sorted : mg "sorted" = none
def spStrs : Sp := fun vs H Q _ => ∃ (z : Str) (l m : Nat), vs = [.str z, .int (l : Nat), .int (m : Nat)] ∧ z.cps.size ≤ 3 ∧ m ≤ 3 ∧ (allS z l (m + 1)).length < 64 ∧ (∀ i, i ≤ 4 → (lay z i).length ≤ 100 ∧ ∀ t ∈ lay z i, t.length ≤ 10) ∧
  ∀ p (ys : List Str) H', H p = none → ys.Perm (allS z l (m + 1)) → Same H H' → H' p = some (.lst (ys.map V.str)) → Q (.ref p) H'
section
variable {P : Program} {w : World} {K : Frag} {mg : Str → Option Value} {base : Heap} {f : Addr} {fd : FuncData}

abbrev s_law_strings : Stmt := top 49
theorem sc_law_strings : FnScope ["_law_signs", "_law_least", "_law_most", "_law_found", "_law_last", "_law_length", "_law_longer", "_law_begin", "_law_sign"] ["_law_signs", "_law_least", "_law_most"] (defScope s_law_strings) := ⟨rfl, rfl, rfl, by decide +kernel, rfl, by decide +kernel, by decide +kernel⟩

theorem ok_law_strings (F : FunD K "_law_strings" "_law_strings" (defArgs s_law_strings) (defBody s_law_strings) (defScope s_law_strings) [] [] f fd) (G : GS P w K mg base) : FnOk P w K mg base CX0 1 f fd ["_law_signs", "_law_least", "_law_most"] spStrs := by
  refine F.ok (CX := CX0) sc_law_strings (fun vs H Q E h => ?_) (fun cdv A outer s H vs Q E hr h => ?_)
  · obtain ⟨z, l, m, rfl, _⟩ := h
    rfl
  · refine ⟨_, PSs.nox (pss_cons (ps_par (i := 3) (j := 4) (by rfl) sc_law_strings.nd rfl rfl (by decide) rfl rfl (pa_cons (pe_lstS pa_nil) (pa_cons (pe_lstS (pa_cons pe_str pa_nil)) pa_nil)) (by rfl))
    (pss_cons (ps_for PassesOwn.never rfl (pi_range1 (by rfl) G.range (pa_cons (pe_op op_add (pv 2) pe_int) pa_nil)) (pg_name (i := 5) sc_law_strings.nd rfl (Or.inl rfl))
      (pss_cons (ps_if (pt_cmpR op_ge (pv 5) (pv 1) (nomark _))
        (pss_one (ps_set (i := 3) sc_law_strings.nd rfl (Or.inl rfl) (pe_op op_catS (pv 3) (pv 4))))
        pss_nil)
      (pss_cons (ps_set (i := 6) sc_law_strings.nd rfl (Or.inl rfl) (pe_lstS pa_nil))
      (pss_cons (ps_for PassesOwn.never rfl (pi_list (pv 4)) (pg_name (i := 7) sc_law_strings.nd rfl (Or.inr rfl))
        (pss_one (ps_expr (pe_bm PySem.F.plainAttrs_list PySem.F.slot_list_extend PySem.F.type_list_extend mt_extend (pv 6) (pa_cons (pe_lc (own := [("_law_sign", 8)]) (g := gName 8) (tt := tYes) rfl sc_law_strings.nd (pi_str (pv 0)) (blkOk_by (N := ["_law_signs", "_law_least", "_law_most", "_law_found", "_law_last", "_law_length", "_law_longer", "_law_begin", "_law_sign"]) (sc := defScope s_law_strings) (by decide +kernel)) (fun _ _ _ _ _ => pg_name (i := 8) sc_law_strings.nd rfl (Or.inl rfl)) (fun _ _ _ _ _ => pts_nil) (fun _ _ _ _ _ => (pe_op op_add_str (pv 7) (pv 8)))) pa_nil)))))
      (pss_one (ps_set (i := 4) sc_law_strings.nd rfl (Or.inl rfl) (pv 6)))))))
    (pss_one (ps_ret (pe_callB cr_sortedS (by rfl) G.sorted (by decide +kernel) (pa_cons (pv 3) pa_nil)))))), ?_⟩
    obtain ⟨z, l, m, rfl, hz, hm, hs, hb, q⟩ := h
    refine ⟨by show 0 ≤ 1000; decide, fun p1 H1 hp1 S1 e1 => ⟨by show 1 ≤ 1000; decide, fun p2 H2 hp2 S2 e2 => ⟨_, _, rfl, ?_⟩⟩⟩
    refine ⟨_, rfl, _, _, rfl, rfl, (m : Int) + 1, rfl, by omega, by omega, ?_⟩
    rw [show ((m : Int) + 1).toNat = m + 1 by omega]
    refine for_range (n := m + 1) (fun i σ H' => ∃ (pf pl : Addr) (v5 v6 v7 v8 : Option V), σ = [some (.str z), some (.int (l : Nat)), some (.int (m : Nat)), some (.ref pf), some (.ref pl), v5, v6, v7, v8] ∧ Same H H' ∧ H' pf = some (.lst ((allS z l i).map V.str)) ∧ H' pl = some (.lst ((lay z i).map V.str)))
      ⟨p1, p2, _, _, _, _, rfl, S1.trans S2, S2 _ _ e1, e2⟩ ?_ ?_
    · rintro i σ H3 hi ⟨pf, pl, v5, v6, v7, v8, rfl, S3, ef, el⟩
      have hsm := allS_small (show i + 1 ≤ m + 1 by omega) hs
      refine ⟨_, rfl, _, rfl, _, _, rfl, rfl, _, rfl, ?_⟩
      refine ite2 (fun h1 => ?_) (fun h1 => ?_)
      · have hle : l ≤ i := by have := of_decide_eq_true h1; omega
        have ll := (hb i (by omega)).1
        refine ⟨_, rfl, _, rfl, pf, pl, _, _, rfl, rfl, SqL.of ef, SqL.of el, ?_, fun pg H4 hpg S34 eg => ?_⟩
        · rw [List.length_map, List.length_map, sizeLine_eq]
          have := allS_small (show i ≤ m + 1 by omega) hs
          omega
        have S4 := S3.trans S34
        have eg4 : H4 pg = some (.lst ((allS z l (i + 1)).map V.str)) := by rw [eg, allS_succ, if_pos hle, List.map_append]
        have el4 := S34 _ _ el
        refine ⟨by show 0 ≤ 1000; decide, fun pn H5 hpn S5 e5 => ?_⟩
        refine ⟨_, rfl, pl, rfl, ⟨_, SqL.of (S5 _ _ el4)⟩, for_list (K := K) (a := pl) (xs := (lay z i).map V.str) (fun j σ H' => ∃ (v7 v8 : Option V), σ = [some (.str z), some (.int (l : Nat)), some (.int (m : Nat)), some (.ref pg), some (.ref pl), some (.int (0 + (i : Int))), some (.ref pn), v7, v8] ∧ Same H4 H' ∧ H' pn = some (.lst ((((lay z i).take j).flatMap fun t => (sgT z).map fun s => t ++ s).map V.str)))
          ⟨_, _, rfl, S5, e5⟩ (fun j σ H' _ ⟨_, _, _, S, _⟩ => SqL.of (S _ _ el4)) ?_ ?_⟩
        · rintro j x0 σ H6 hx ⟨v7, v8, rfl, S6, e6⟩
          obtain ⟨t, ht, rfl⟩ : ∃ t, (lay z i)[j]? = some t ∧ x0 = .str t := by
            rw [List.getElem?_map] at hx
            obtain ⟨t, h1, h2⟩ := Option.map_eq_some_iff.mp hx
            exact ⟨t, h1, h2.symm⟩
          have tl := (hb i (by omega)).2 t (List.mem_of_getElem? ht)
          have jl := (List.getElem?_eq_some_iff.mp ht).1
          have ll := (hb i (by omega)).1
          refine ⟨_, rfl, .inl ⟨rfl, _, SqL.of e6⟩, _, rfl, z, rfl, fun D hD => ?_⟩
          refine lc_str (x := z) (LcP H6 D fun n => ((sgT z).take n).map fun s => V.str (t ++ s)) (LcP.start hD rfl) ?_ ?_
          · intro k c J hc pJ
            have hk : k < z.cps.size := (Array.getElem?_eq_some_iff.mp hc).1
            have hg : (sgT z)[k]? = some ⟨#[c]⟩ := by
              unfold sgT
              rw [List.getElem?_map]
              have e : z.cps.toList[k]? = some c := by rw [← hc]; simp
              rw [e]
              rfl
            refine ⟨rfl, _, rfl, _, rfl, t, ⟨#[c]⟩, rfl, rfl, by rw [sizeLine_eq]; show t.length + 1 ≤ 16777216; omega, pJ.put (Same.refl _) ?_ (by omega)⟩
            show ((sgT z).take (k + 1)).map _ = _
            rw [List.take_add_one, hg, List.map_append]
            rfl
          · rintro J ⟨S7, _, e7, _⟩
            have sz : (sgT z).length = z.cps.size := by unfold sgT; rw [List.length_map, Array.length_toList]
            have e7' : J D = some (.lst ((sgT z).map fun s => V.str (t ++ s))) := by
              rw [e7]
              show some (HO.lst (((sgT z).take z.cps.size).map _)) = _
              rw [← sz, List.take_length]
            refine ⟨pn, D, _, _, rfl, rfl, S7 _ _ e6, e7', ?_, _, _, rfl, same_put (S6.trans S7) hpn, ?_⟩
            · rw [List.length_map, List.length_map, sizeLine_eq, sz]
              have : (((lay z i).take j).flatMap fun t => (sgT z).map fun s => t ++ s).length ≤ 1000 := by
                rw [List.length_flatMap]
                have h1 : (((lay z i).take j).map fun t => ((sgT z).map fun s => t ++ s).length).sum = ((lay z i).take j).length * (sgT z).length := by
                  simp [List.map_const']
                have h2 : ((lay z i).take j).length ≤ 100 := by rw [List.length_take]; omega
                rw [h1, sz]
                exact Nat.le_trans (Nat.mul_le_mul h2 hz) (by decide)
              omega
            · rw [upd_same, List.take_add_one, ht, List.flatMap_append, List.map_append]
              simp
        · rintro σ H6 ⟨v7, v8, rfl, S6, e6⟩
          refine ⟨_, rfl, pg, pn, _, _, _, _, rfl, S4.trans S6, S6 _ _ eg4, ?_⟩
          rw [e6, List.length_map, List.take_length]
          rfl
      · have hle : ¬ l ≤ i := fun z => h1 (decide_eq_true (by omega))
        obtain ⟨pg, H4, S4, eg4, el4, eH⟩ : ∃ pg H4, Same H H4 ∧ H4 pg = some (.lst ((allS z l (i + 1)).map V.str)) ∧ H4 pl = some (.lst ((lay z i).map V.str)) ∧ (pg = pf ∧ H4 = H3) := ⟨pf, H3, S3, by rw [ef, allS_succ, if_neg hle, List.append_nil], el, rfl, rfl⟩
        obtain ⟨rfl, rfl⟩ := eH
        refine ⟨by show 0 ≤ 1000; decide, fun pn H5 hpn S5 e5 => ?_⟩
        refine ⟨_, rfl, pl, rfl, ⟨_, SqL.of (S5 _ _ el4)⟩, for_list (K := K) (a := pl) (xs := (lay z i).map V.str) (fun j σ H' => ∃ (v7 v8 : Option V), σ = [some (.str z), some (.int (l : Nat)), some (.int (m : Nat)), some (.ref pg), some (.ref pl), some (.int (0 + (i : Int))), some (.ref pn), v7, v8] ∧ Same H4 H' ∧ H' pn = some (.lst ((((lay z i).take j).flatMap fun t => (sgT z).map fun s => t ++ s).map V.str)))
          ⟨_, _, rfl, S5, e5⟩ (fun j σ H' _ ⟨_, _, _, S, _⟩ => SqL.of (S _ _ el4)) ?_ ?_⟩
        · rintro j x0 σ H6 hx ⟨v7, v8, rfl, S6, e6⟩
          obtain ⟨t, ht, rfl⟩ : ∃ t, (lay z i)[j]? = some t ∧ x0 = .str t := by
            rw [List.getElem?_map] at hx
            obtain ⟨t, h1, h2⟩ := Option.map_eq_some_iff.mp hx
            exact ⟨t, h1, h2.symm⟩
          have tl := (hb i (by omega)).2 t (List.mem_of_getElem? ht)
          have jl := (List.getElem?_eq_some_iff.mp ht).1
          have ll := (hb i (by omega)).1
          refine ⟨_, rfl, .inl ⟨rfl, _, SqL.of e6⟩, _, rfl, z, rfl, fun D hD => ?_⟩
          refine lc_str (x := z) (LcP H6 D fun n => ((sgT z).take n).map fun s => V.str (t ++ s)) (LcP.start hD rfl) ?_ ?_
          · intro k c J hc pJ
            have hk : k < z.cps.size := (Array.getElem?_eq_some_iff.mp hc).1
            have hg : (sgT z)[k]? = some ⟨#[c]⟩ := by
              unfold sgT
              rw [List.getElem?_map]
              have e : z.cps.toList[k]? = some c := by rw [← hc]; simp
              rw [e]
              rfl
            refine ⟨rfl, _, rfl, _, rfl, t, ⟨#[c]⟩, rfl, rfl, by rw [sizeLine_eq]; show t.length + 1 ≤ 16777216; omega, pJ.put (Same.refl _) ?_ (by omega)⟩
            show ((sgT z).take (k + 1)).map _ = _
            rw [List.take_add_one, hg, List.map_append]
            rfl
          · rintro J ⟨S7, _, e7, _⟩
            have sz : (sgT z).length = z.cps.size := by unfold sgT; rw [List.length_map, Array.length_toList]
            have e7' : J D = some (.lst ((sgT z).map fun s => V.str (t ++ s))) := by
              rw [e7]
              show some (HO.lst (((sgT z).take z.cps.size).map _)) = _
              rw [← sz, List.take_length]
            refine ⟨pn, D, _, _, rfl, rfl, S7 _ _ e6, e7', ?_, _, _, rfl, same_put (S6.trans S7) hpn, ?_⟩
            · rw [List.length_map, List.length_map, sizeLine_eq, sz]
              have : (((lay z i).take j).flatMap fun t => (sgT z).map fun s => t ++ s).length ≤ 1000 := by
                rw [List.length_flatMap]
                have h1 : (((lay z i).take j).map fun t => ((sgT z).map fun s => t ++ s).length).sum = ((lay z i).take j).length * (sgT z).length := by
                  simp [List.map_const']
                have h2 : ((lay z i).take j).length ≤ 100 := by rw [List.length_take]; omega
                rw [h1, sz]
                exact Nat.le_trans (Nat.mul_le_mul h2 hz) (by decide)
              omega
            · rw [upd_same, List.take_add_one, ht, List.flatMap_append, List.map_append]
              simp
        · rintro σ H6 ⟨v7, v8, rfl, S6, e6⟩
          refine ⟨_, rfl, pg, pn, _, _, _, _, rfl, S4.trans S6, S6 _ _ eg4, ?_⟩
          rw [e6, List.length_map, List.take_length]
          rfl
    · rintro σ H3 ⟨pf, pl, v5, v6, v7, v8, rfl, S3, ef, el⟩
      exact ⟨_, rfl, pf, _, rfl, SqL.of ef, hs, fun ys p perm srt hp => q p ys _ (none_of S3 hp) perm (S3.trans (same_upd hp)) upd_same⟩

end
end L2.K76

set_option Elab.async false
set_option linter.all false
set_option maxRecDepth 100000
set_option maxHeartbeats 4000000
/-! range(n) as a value; list(range(..)). -/
namespace L2.Jk
open PySem PySem.W PySem.Spec PySem.Calls PyProof.Rows
section
variable {X : Cx}
theorem cr_range1 : CallR X (.type "range") (fun vs H Q => ∃ j, vs = [V.int j] ∧ ∀ p, H p = none → Q (.ref p) (upd H p (.rng 0 j))) := by
  intro pins s σ H vs us Q I r h
  obtain ⟨j, rfl, q⟩ := h
  obtain ⟨u1, rfl, ri⟩ := vals1 r
  obtain ⟨t, rfl⟩ := ri
  refine call_range_1 ⟨.ref s.heap.objs.size, upd H s.heap.objs.size (.rng 0 j), I.laid (t' := s.toks + 1 + 1) (fun b o e => Heap.get?_push_of_some _ e) (Nat.le_refl _) ?_, rfl, q _ (I.hok.fresh (Nat.le_refl _))⟩
  exact ⟨s.toks, t, s.toks + 1, Heap.get?_push_size _ rfl⟩
def intsV (lo : Int) (n : Nat) : List V := (List.range n).map fun i : Nat => V.int (lo + (i : Int))
theorem rng_size (lo : Int) (n : Nat) : Builtin.Range.rangeSize lo (lo + n) 1 = (n : Int) := by
  unfold Builtin.Range.rangeSize
  rw [if_pos (by decide)]
  split
  · rw [Int.ediv_one]
    omega
  · omega
theorem call_list_rng (hc : X.calm = true) : CallR X (.type "list") (fun xs H Q => ∃ (p : Addr) (lo : Int) (n : Nat), xs = [.ref p] ∧ H p = some (.rng lo (lo + n)) ∧ -1000 ≤ lo ∧ lo ≤ 1000 ∧ n ≤ 1000 ∧
    ∀ l H', H l = none → Same H H' → H' l = some (.lst (intsV lo n)) → Q (.ref l) H') := by
  intro pins s σ H xs us Q I r h
  obtain ⟨p, lo, n, rfl, hp, h0, h1, hn, q⟩ := h
  obtain ⟨u, rfl, ru⟩ := vals1 r
  cases ru
  obtain ⟨t, u, v, e⟩ := (show ObjOk X.prog X.w H s.heap p (.rng lo (lo + n)) from I.hok p _ hp)
  refine call_list_range (n := n) (I.ok.hd hc) e (small_one (by omega) (by omega) (by omega) (by omega)) (rng_size lo n) (by omega) (fun h' tk acc c k hp2 ha => ?_)
  obtain ⟨al, ai⟩ := ha
  have vs : Vals (intsV lo n) acc.toList := by
    refine paired_of (show (intsV lo n).length = acc.toList.length by
      have e : acc.toList.length = acc.size := Array.length_toList
      rw [e, al]
      simp [intsV]) fun i x v hx hv => ?_
    have hi : i < n := by
      have := (List.getElem?_eq_some_iff.mp hx).1
      simpa [intsV] using this
    obtain ⟨t', e⟩ := ai i v (by rw [← Array.getElem?_toList]; exact hv)
    subst e
    have e2 : x = V.int (lo + (i : Int)) := by
      unfold intsV at hx
      rw [List.getElem?_map, List.getElem?_range hi] at hx
      exact (Option.some.inj hx).symm
    subst e2
    exact ⟨t', by rw [Int.mul_one]⟩
  have nf := I.fresh
  refine ⟨.ref s.heap.objs.size, _, I.laid (t' := tk) (h' := h') (o := .lst (intsV lo n)) k (Nat.le_refl _) ⟨?_, acc.toList, c, vs, by simpa using hp2⟩, rfl, q _ _ nf (same_upd nf) upd_same⟩
  simp only [intsV, List.length_map, List.length_range]
  rw [sizeLine_eq]
  omega
end
end L2.Jk

set_option Elab.async false
set_option linter.all false
set_option maxRecDepth 100000
set_option maxHeartbeats 4000000
/-! The law: all values of a field. -/
namespace L2.K76
open PySem PySem.W PySem.Spec PySem.Calls PyProof.Rows L2.Jk
theorem lay_small {z : Str} (h : z.cps.size ≤ 2) : (∀ l m, m ≤ 3 → (allS z l (m + 1)).length < 64) ∧ ∀ i, i ≤ 4 → (lay z i).length ≤ 100 ∧ ∀ t ∈ lay z i, t.length ≤ 10 := by
  have p : ∀ i, (lay z i).length ≤ 2 ^ i := fun i => by rw [lay_length]; exact Nat.pow_le_pow_left h i
  refine ⟨fun l m hm => ?_, fun i hi => ⟨Nat.le_trans (p i) (Nat.le_trans (Nat.pow_le_pow_right (by decide) hi) (by decide)), fun t ht => by rw [lay_len ht]; omega⟩⟩
  have k : ∀ n, (allS z l n).length ≤ 2 ^ n := fun n => by
    induction n with
    | zero => exact Nat.zero_le _
    | succ n ih =>
      rw [allS_succ, List.length_append, Nat.pow_succ]
      have := p n
      split
      · omega
      · show _ + 0 ≤ _
        omega
  have := k (m + 1)
  have : 2 ^ (m + 1) ≤ 2 ^ 4 := Nat.pow_le_pow_right (by decide) (by omega)
  omega
theorem word_sz : ∀ z ∈ wordZ, z.cps.size ≤ 2 ∧ 1 ≤ z.cps.size := by decide +kernel
theorem end_sz : ∀ z ∈ endZ, z.cps.size ≤ 2 ∧ 1 ≤ z.cps.size := by decide +kernel
theorem lay_pos {z : Str} (h : 1 ≤ z.cps.size) (l m : Nat) (hlm : l ≤ m) : allS z l (m + 1) ≠ [] := fun e => by
  rw [allS_succ, if_pos hlm] at e
  have e2 := (List.append_eq_nil_iff.mp e).2
  have e3 := lay_length z m
  rw [e2] at e3
  have : 0 < z.cps.size ^ m := Nat.pow_pos h
  have e3 : 0 = z.cps.size ^ m := e3
  omega
/-- the values of a field, at a list -/
structure VsOk (d : FD) (xs : List V) : Prop where
  ne : xs ≠ []
  few : xs.length ≤ 70 + d.dep
  all : ∀ x ∈ xs, VlF d x
def spVals (n : Nat) : Sp := fun vs H Q _ => ∃ (s0 : Addr) (v : V) (d : FD), vs = [v] ∧ FIn s0 H v d ∧ DrF d ∧ d.dep < n ∧ ∀ p xs H', H p = none → VsOk d xs → Same H H' → H' p = some (.lst xs) → Q (.ref p) H'
structure GV (P : Program) (w : World) (K : Frag) (mg : Str → Option Value) (base : Heap) : Prop extends GS P w K mg base where
  law_strings : FnAt P w K mg base CX0 1 "_law_strings" ["_law_signs", "_law_least", "_law_most"] spStrs
theorem strs_ok {z : Str} {l m : Nat} {ys : List Str} {D : PD} (h1 : 1 ≤ z.cps.size) (h2 : z.cps.size ≤ 2) (hlm : l ≤ m) (hm : m ≤ 3) (hp : ys.Perm (allS z l (m + 1))) (hD : ∀ i t, l ≤ i → i ≤ m → t ∈ lay z i → Vl D (.str t)) : VsOk (.pl D) (ys.map V.str) := by
  refine ⟨fun e => lay_pos h1 l m hlm ?_, ?_, fun x hx => ?_⟩
  · have e2 := List.map_eq_nil_iff.mp e
    rw [e2] at hp
    exact hp.symm.eq_nil
  · rw [List.length_map, hp.length_eq]
    have := (lay_small h2).1 l m hm
    show _ ≤ 70
    omega
  · obtain ⟨t, ht, rfl⟩ := List.mem_map.mp hx
    obtain ⟨i, a, b, c⟩ := mem_allS (hp.mem_iff.mp ht)
    exact .pl (hD i t b (by omega) c)
section
variable {P : Program} {w : World} {K : Frag} {mg : Str → Option Value} {base : Heap} {f : Addr} {fd : FuncData}

abbrev s_law_values : Stmt := top 50
theorem sc_law_values : FnScope ["_law_spec"] ["_law_spec"] (defScope s_law_values) := ⟨rfl, rfl, rfl, by decide +kernel, rfl, by decide +kernel, by decide +kernel⟩

theorem ok_law_values (F : FunD K "_law_values" "_law_values" (defArgs s_law_values) (defBody s_law_values) (defScope s_law_values) [] [] f fd) (G : GV P w K mg base) {n : Nat} (AM : FnAt P w K mg base CX0 (n + 1) "_law_values" ["_law_spec"] (spVals n)) : FnOk P w K mg base CX0 (n + 1 + 1) f fd ["_law_spec"] (spVals (n + 1)) := by
  refine F.ok (CX := CX0) sc_law_values (fun vs H Q E h => ?_) (fun cdv A outer s H vs Q E hr h => ?_)
  · obtain ⟨s0, v, d, rfl, _⟩ := h
    rfl
  · refine ⟨_, PSs.nox (pss_cons (ps_if (pt_cmpR op_in_seq (pe_ix ix_tup (pv 0) pe_int (fun _ _ => rfl)) (pe_tupS (pa_cons pe_str (pa_cons pe_str pa_nil))) (by rfl))
      (pss_one (ps_ret (pe_fn G.law_strings (hr.mono (by omega)) pass0 (by rfl) (pa_cons (pe_ix ix_tup (pv 0) pe_int (fun _ _ => rfl)) (pa_cons (pe_ix ix_tup (pv 0) (pe_un un_neg pe_int) (fun _ _ => rfl)) (pa_cons (pe_ix ix_tup (pv 0) (pe_un un_neg pe_int) (fun _ _ => rfl)) pa_nil))))))
      pss_nil)
    (pss_cons (ps_if (pt_cmpR op_eq (pe_ix ix_tup (pv 0) pe_int (fun _ _ => rfl)) pe_str (nomark _))
      (pss_one (ps_ret (pe_callTy (call_list_rng rfl) (by rfl) G.list (by decide +kernel) (pa_cons (pe_callTy cr_range2 (by rfl) G.range (by decide +kernel) (pa_cons (pe_ix ix_tup (pv 0) pe_int (fun _ _ => rfl)) (pa_cons (pe_op op_add (pe_ix ix_tup (pv 0) pe_int (fun _ _ => rfl)) pe_int) pa_nil))) pa_nil))))
      pss_nil)
    (pss_cons (ps_if (pt_cmpR op_eq (pe_ix ix_tup (pv 0) pe_int (fun _ _ => rfl)) pe_str (nomark _))
      (pss_one (ps_ret (pe_callTy (call_list_rng rfl) (by rfl) G.list (by decide +kernel) (pa_cons (pe_callTy cr_range1 (by rfl) G.range (by decide +kernel) (pa_cons (pe_callTy call_int_str (by rfl) G.int (by decide +kernel) (pa_cons (pe_op op_add_str pe_str (pe_op op_mulStr pe_str (pe_ix ix_tup (pv 0) pe_int (fun _ _ => rfl)))) pa_nil)) pa_nil)) pa_nil))))
      pss_nil)
    (pss_one (ps_ret (pe_ifExp (pt_cmpR op_eq (pe_ix ix_tup (pv 0) pe_int (fun _ _ => rfl)) pe_str (nomark _)) (pe_callTy call_list_of (by rfl) G.list (by decide +kernel) (pa_cons (pe_ix ix_tup (pv 0) pe_int (fun _ _ => rfl)) pa_nil)) (pe_op op_catS (pe_lstS (pa_cons pe_non pa_nil)) (pe_fn AM hr pass0 (by rfl) (pa_cons (pe_ix ix_tup (pv 0) pe_int (fun _ _ => rfl)) pa_nil))))))))), ?_⟩
    obtain ⟨s0, v, d, rfl, hP, hd, hdep, q⟩ := h
    cases hd with
    | @mk nn d hn hd =>
      obtain ⟨b, u, rfl, hne, hb, hI⟩ := hP
      refine ⟨_, rfl, b, _, _, _, rfl, rfl, SqT.of hb, atI_nat (j := 0) rfl, by show 2 ≤ 1000; decide, fun pt Ht hpt St et => ⟨pt, _, rfl, .inr (SqT.of et), rfl, rfl, _, rfl, itC (by decide +kernel) ?_⟩⟩
      replace hb := St _ _ hb
      refine ⟨_, rfl, b, _, _, _, rfl, rfl, SqT.of hb, atI_nat (j := 0) rfl, rfl, _, rfl, itN (by decide +kernel) ?_⟩
      refine ⟨_, rfl, b, _, _, _, rfl, rfl, SqT.of hb, atI_nat (j := 0) rfl, rfl, _, rfl, itN (by decide +kernel) ?_⟩
      refine ⟨_, rfl, b, _, _, _, rfl, rfl, SqT.of hb, atI_nat (j := 0) rfl, rfl, _, rfl, itN (by decide +kernel) ?_⟩
      refine ⟨by show 1 ≤ 1000; decide, fun p1 H1 hp1 S1 e1 => ?_⟩
      replace hb := S1 _ _ hb
      have S2 := St.trans S1
      refine ⟨_, rfl, b, _, _, _, rfl, rfl, SqT.of hb, atI_nat (j := 3) rfl, s0, u, .pl d, rfl, (hI.same S2), .pl hd, Nat.lt_of_succ_lt_succ hdep, fun p xs H3 hp ok S3 e3 => ?_⟩
      refine ⟨p1, p, _, _, rfl, rfl, SqL.of (S3 _ _ e1), SqL.of e3, ?_, fun p4 H4 hp4 S4 e4 => ?_⟩
      · rw [sizeLine_eq]
        have k : xs.length ≤ 70 := ok.few
        show 1 + xs.length ≤ 16777216
        omega
      have S := (S2.trans S3)
      refine q p4 _ H4 (none_of S hp4) ⟨fun e => (by cases e), ?_, fun x hx => ?_⟩ (S.trans S4) e4
      · have k : xs.length ≤ 70 := ok.few
        show xs.length + 1 ≤ 71
        omega
      · rcases List.mem_cons.mp hx with rfl | hx
        · exact .non
        · cases ok.all x hx with
          | pl h => exact .mk h
    | pl hd =>
    cases hd with
    | @word z l j h1 h2 h3 =>
      obtain ⟨b, rfl, hne, hb⟩ := hP
      obtain ⟨k1, k2⟩ := word_sz z h1
      obtain ⟨k3, k4⟩ := lay_small k1
      refine ⟨_, rfl, b, _, _, _, rfl, rfl, SqT.of hb, atI_nat (j := 0) rfl, by show 2 ≤ 1000; decide, fun pt Ht hpt St et => ⟨pt, _, rfl, .inr (SqT.of et), rfl, rfl, _, rfl, itB (by decide +kernel) ?_⟩⟩
      replace hb := St _ _ hb
      refine ⟨_, rfl, b, _, _, _, rfl, rfl, SqT.of hb, atI_nat (j := 1) rfl, _, rfl, _, rfl, b, _, _, _, rfl, rfl, SqT.of hb, rfl, _, rfl, _, rfl, b, _, _, _, rfl, rfl, SqT.of hb, rfl, z, l, l + j, rfl, by omega, by omega, k3 l _ (by omega), k4, fun p ys H2 hp perm S2 e2 => ?_⟩
      exact q p _ H2 (none_of St hp) (strs_ok k2 k1 (Nat.le_add_right _ _) (by omega) perm fun i t a b c => .word (e := .non) a b c) (St.trans S2) e2
    | @ended z e l j h1 h2 h3 h4 =>
      obtain ⟨b, rfl, hne, hb⟩ := hP
      obtain ⟨k1, k2⟩ := end_sz z h1
      obtain ⟨k3, k4⟩ := lay_small k1
      refine ⟨_, rfl, b, _, _, _, rfl, rfl, SqT.of hb, atI_nat (j := 0) rfl, by show 2 ≤ 1000; decide, fun pt Ht hpt St et => ⟨pt, _, rfl, .inr (SqT.of et), rfl, rfl, _, rfl, itB (by decide +kernel) ?_⟩⟩
      replace hb := St _ _ hb
      refine ⟨_, rfl, b, _, _, _, rfl, rfl, SqT.of hb, atI_nat (j := 1) rfl, _, rfl, _, rfl, b, _, _, _, rfl, rfl, SqT.of hb, rfl, _, rfl, _, rfl, b, _, _, _, rfl, rfl, SqT.of hb, rfl, z, l, l + j, rfl, by omega, by omega, k3 l _ (by omega), k4, fun p ys H2 hp perm S2 e2 => ?_⟩
      exact q p _ H2 (none_of St hp) (strs_ok k2 k1 (Nat.le_add_right _ _) (by omega) perm fun i t a b c => .ended (e := .str e) a b c) (St.trans S2) e2
    | @number l j h1 h2 =>
      obtain ⟨b, rfl, hne, hb⟩ := hP
      have k1 := num_le.1 l h1
      have k2 := num_le.2 j h2
      refine ⟨_, rfl, b, _, _, _, rfl, rfl, SqT.of hb, atI_nat (j := 0) rfl, by show 2 ≤ 1000; decide, fun pt Ht hpt St et => ⟨pt, _, rfl, .inr (SqT.of et), rfl, rfl, _, rfl, itC (by decide +kernel) ?_⟩⟩
      replace hb := St _ _ hb
      refine ⟨_, rfl, b, _, _, _, rfl, rfl, SqT.of hb, atI_nat (j := 0) rfl, rfl, _, rfl, itY ?_⟩
      refine ⟨_, rfl, b, _, _, _, rfl, rfl, SqT.of hb, atI_nat (j := 1) rfl, _, rfl, b, _, _, _, rfl, rfl, SqT.of hb, atI_nat (j := 2) rfl, _, _, rfl, rfl, _, _, rfl, fun pr hpr => ?_⟩
      rw [show ((l + j : Nat) : Int) + 1 = (l : Int) + ((j + 1 : Nat) : Int) by omega]
      refine ⟨pr, (l : Int), j + 1, rfl, upd_same, by omega, by omega, by omega, fun p H2 hp S2 e2 => ?_⟩
      have S := St.trans (same_upd (o := .rng (l : Int) ((l : Int) + ((j + 1 : Nat) : Int))) hpr)
      refine q p _ H2 (none_of S hp) ⟨fun e => ?_, by unfold intsV; rw [List.length_map, List.length_range]; show _ ≤ 70; omega, fun x hx => ?_⟩ (S.trans S2) e2
      · have z := congrArg List.length e
        unfold intsV at z
        rw [List.length_map, List.length_range] at z
        cases z
      · obtain ⟨i, hi, rfl⟩ := List.mem_map.mp hx
        have hi := List.mem_range.mp hi
        have z := Vl.number (l := l) (m := l + j) (n := l + i) (by omega) (by omega)
        exact .pl z
    | fixed =>
      obtain ⟨b, rfl, hne, hb⟩ := hP
      refine ⟨_, rfl, b, _, _, _, rfl, rfl, SqT.of hb, atI_nat (j := 0) rfl, by show 2 ≤ 1000; decide, fun pt Ht hpt St et => ⟨pt, _, rfl, .inr (SqT.of et), rfl, rfl, _, rfl, itC (by decide +kernel) ?_⟩⟩
      replace hb := St _ _ hb
      refine ⟨_, rfl, b, _, _, _, rfl, rfl, SqT.of hb, atI_nat (j := 0) rfl, rfl, _, rfl, itN (by decide +kernel) ?_⟩
      refine ⟨_, rfl, b, _, _, _, rfl, rfl, SqT.of hb, atI_nat (j := 0) rfl, rfl, _, rfl, itY ?_⟩
      refine ⟨_, rfl, b, _, _, _, rfl, rfl, SqT.of hb, atI_nat (j := 1) rfl, "0", 1, rfl, rfl, by decide +kernel, "1", repS "0" 1, rfl, rfl, by rw [sizeLine_eq]; decide +kernel, _, 10, rfl, by decide +kernel, by decide +kernel, _, rfl, fun pr hpr => ?_⟩
      refine ⟨pr, 0, 10, rfl, upd_same, by omega, by omega, by omega, fun p H2 hp S2 e2 => ?_⟩
      have S := St.trans (same_upd (o := .rng 0 10) hpr)
      refine q p _ H2 (none_of S hp) ⟨fun e => ?_, by unfold intsV; rw [List.length_map, List.length_range]; show _ ≤ 70; omega, fun x hx => ?_⟩ (S.trans S2) e2
      · have z := congrArg List.length e
        unfold intsV at z
        rw [List.length_map, List.length_range] at z
        cases z
      · obtain ⟨i, hi, rfl⟩ := List.mem_map.mp hx
        have hi := List.mem_range.mp hi
        have z := Vl.fixed (n := i) hi
        rw [show (0 : Int) + (i : Int) = (i : Nat) by omega]
        exact .pl z
    | @listed ts h1 h2 h3 h4 =>
      obtain ⟨b, u, rfl, hne, hb, ⟨b2, rfl, hb2⟩, hc⟩ := hP
      refine ⟨_, rfl, b, _, _, _, rfl, rfl, SqT.of hb, atI_nat (j := 0) rfl, by show 2 ≤ 1000; decide, fun pt Ht hpt St et => ⟨pt, _, rfl, .inr (SqT.of et), rfl, rfl, _, rfl, itC (by decide +kernel) ?_⟩⟩
      replace hb := St _ _ hb
      refine ⟨_, rfl, b, _, _, _, rfl, rfl, SqT.of hb, atI_nat (j := 0) rfl, rfl, _, rfl, itN (by decide +kernel) ?_⟩
      refine ⟨_, rfl, b, _, _, _, rfl, rfl, SqT.of hb, atI_nat (j := 0) rfl, rfl, _, rfl, itN (by decide +kernel) ?_⟩
      refine ⟨_, rfl, b, _, _, _, rfl, rfl, SqT.of hb, atI_nat (j := 0) rfl, rfl, _, rfl, itY ?_⟩
      refine ⟨_, rfl, b, _, _, _, rfl, rfl, SqT.of hb, atI_nat (j := 1) rfl, b2, _, rfl, .inl (SqL.of (St _ _ hb2)), fun p hp => ?_⟩
      have S := St.trans (same_upd (o := .lst (ts.map V.str)) hp)
      refine q p _ _ (none_of St hp) ⟨fun e => h3 (List.map_eq_nil_iff.mp e), by rw [List.length_map]; show _ ≤ 70; omega, fun x hx => ?_⟩ S upd_same
      obtain ⟨t, ht, rfl⟩ := List.mem_map.mp hx
      exact .pl (.listed ht)

end
end L2.K76

set_option Elab.async false
set_option linter.all false
set_option maxRecDepth 100000
set_option maxHeartbeats 4000000
/-! The law: shuffled, small. -/
namespace L2.K76
open PySem PySem.W PySem.Spec PySem.Calls PyProof.Rows L2.Jk
def spShuf : Sp := fun vs H Q _ => ∃ (a p : Addr) (ts : List Str), vs = [.ref a, .ref p] ∧ StAt H a ∧ p ≠ a ∧ H p = some (.lst (ts.map V.str)) ∧ (∀ t ∈ ts, t ∈ nines) ∧ ts.length ≤ 9 ∧
  ∀ r (ys : List Str) H', H r = none → ys.Perm ts → But a H H' → StAt H' a → H' r = some (.lst (ys.map V.str)) → Q (.ref r) H'
theorem dp_strs {K : Frag} {H : Hp} {p : Addr} {ts : List Str} (h : H p = some (.lst (ts.map V.str))) : Dp K H (.ref p) (.list ((ts.map V.str).map dV)) := .lst (SqL.of h) (dpAll_flat (by rw [List.all_map]; exact List.all_eq_true.mpr fun _ _ => rfl))
theorem sh_strs {ts : List Str} (h : ∀ t ∈ ts, t ∈ nines) : SeqAt.shaped (.list ((ts.map V.str).map dV)) = true := by
  obtain ⟨l1, l2⟩ := lay_strs ts fun t ht => (nines_are t (h t ht)).2.2
  refine Bool.and_eq_true_iff.mpr ⟨l1, decide_eq_true ?_⟩
  show PyData.depthAll ((ts.map V.str).map dV) + 1 ≤ 64
  omega
theorem eqv_nil : ∀ ts : List Str, PyData.eqv (.list ((ts.map V.str).map dV)) (.list []) = decide (ts = [])
  | [] => rfl
  | _ :: _ => rfl
theorem StAt.put {H : Hp} {a p : Addr} {o : HO} (st : StAt H a) (n : p ≠ a) : StAt (upd H p o) a := by
  obtain ⟨x, y, z, e, r⟩ := st
  exact ⟨x, y, z, by rw [upd_ne (Ne.symm n)]; exact e, r⟩
theorem but_put {H H1 : Hp} {a p : Addr} {o : HO} (B : But a H H1) (n : H p = none) : But a H (upd H1 p o) := fun b u h e => by
  rw [upd_ne (ne_of_none e n)]
  exact B b u h e
structure GZ (P : Program) (w : World) (K : Frag) (mg : Str → Option Value) (base : Heap) : Prop extends GV P w K mg base where
  law_values : FnAt P w K mg base CX0 3 "_law_values" ["_law_spec"] (spVals 2)
section
variable {P : Program} {w : World} {K : Frag} {mg : Str → Option Value} {base : Heap} {f : Addr} {fd : FuncData}

abbrev s_law_shuffled : Stmt := top 51
theorem sc_law_shuffled : FnScope ["_law_source_here", "_law_items", "_law_left", "_law_found"] ["_law_source_here", "_law_items"] (defScope s_law_shuffled) := ⟨rfl, rfl, rfl, by decide +kernel, rfl, by decide +kernel, by decide +kernel⟩

theorem ok_law_shuffled (F : FunD K "_law_shuffled" "_law_shuffled" (defArgs s_law_shuffled) (defBody s_law_shuffled) (defScope s_law_shuffled) [] [] f fd) (G : GZ P w K mg base) : FnOk P w K mg base CX0 2 f fd ["_law_source_here", "_law_items"] spShuf := by
  refine F.ok (CX := CX0) sc_law_shuffled (fun vs H Q E h => ?_) (fun cdv A outer s H vs Q E hr h => ?_)
  · obtain ⟨a, p, ts, rfl, _⟩ := h
    rfl
  · refine ⟨_, PSs.nox (pss_cons (ps_par (i := 2) (j := 3) (by rfl) sc_law_shuffled.nd rfl rfl (by decide) rfl rfl (pa_cons (pe_callTy call_list_of (by rfl) G.list (by decide +kernel) (pa_cons (pv 1) pa_nil)) (pa_cons (pe_lstS pa_nil) pa_nil)) (by rfl))
    (pss_cons (ps_while PassesOwn.never (pt_cmpR (op_neD hr.units) (pv 2) (pe_lstS pa_nil) (nomark _))
      (pss_one (ps_expr (pe_bm PySem.F.plainAttrs_list PySem.F.slot_list_append PySem.F.type_list_append mt_append (pv 3) (pa_cons (pe_bm PySem.F.plainAttrs_list PySem.F.slot_list_pop PySem.F.type_list_pop mt_popAt (pv 2) (pa_cons (pe_fn G.law_draw hr pass0 (by rfl) (pa_cons (pv 0) (pa_cons (pe_callB call_len_seq (by rfl) G.len (by decide +kernel) (pa_cons (pv 2) pa_nil)) pa_nil))) pa_nil)) pa_nil)))))
    (pss_one (ps_ret (pv 3))))), ?_⟩
    obtain ⟨a, p, ts, rfl, st, hpa, hp, hn, hl, q⟩ := h
    refine ⟨_, rfl, p, _, rfl, .inl (SqL.of hp), fun pl hpl => ?_⟩
    refine ⟨by show 0 ≤ 1000; decide, fun pf H2 hpf S2 e2 => ⟨_, _, rfl, ?_⟩⟩
    have S1 : Same H (upd H pl (.lst (ts.map V.str))) := same_upd hpl
    have npl : pl ≠ a := st.ne hpl
    have st2 : StAt H2 a := (st.same S1).same S2
    have hpf0 : H pf = none := none_of S1 hpf
    have npf : pf ≠ a := st.ne hpf0
    have nlf : pf ≠ pl := fun e => by rw [e, upd_same] at hpf; cases hpf
    refine ⟨fun m σ' H' => ∃ left found : List Str, left.length = m ∧ σ' = [some (.ref a), some (.ref p), some (.ref pl), some (.ref pf)] ∧ H' pl = some (.lst (left.map V.str)) ∧ H' pf = some (.lst (found.map V.str)) ∧ (found ++ left).Perm ts ∧ But a H H' ∧ StAt H' a,
      ⟨ts.length, ts, [], rfl, rfl, S2 _ _ upd_same, e2, List.Perm.refl _, But.of_same (S1.trans S2), st2⟩, ?_⟩
    rintro m σ' H' ⟨left, found, hm, rfl, el, ef, perm, B, st'⟩
    have hsub : ∀ t ∈ left, t ∈ nines := fun t ht => hn t (perm.mem_iff.mp (List.mem_append_right _ ht))
    have hlen := perm.length_eq
    rw [List.length_append] at hlen
    refine ⟨_, rfl, by show 0 ≤ 1000; decide, fun pe H3 hpe S3 e3 => ⟨_, _, dp_strs (S3 _ _ el), .lst (SqL.of e3) .nil, sh_strs hsub, by decide +kernel, _, rfl, ?_⟩⟩
    rw [eqv_nil]
    refine ite2 (fun c => ?_) (fun c => ?_)
    · have hne : left ≠ [] := fun e => by rw [decide_eq_true e] at c; cases c
      have hpos := List.length_pos_iff.mpr hne
      have st3 := st'.same S3
      refine ⟨fun σ2 H2 => ∃ left found : List Str, left.length < m ∧ σ2 = [some (.ref a), some (.ref p), some (.ref pl), some (.ref pf)] ∧ H2 pl = some (.lst (left.map V.str)) ∧ H2 pf = some (.lst (found.map V.str)) ∧ (found ++ left).Perm ts ∧ But a H H2 ∧ StAt H2 a,
        fun σ2 H2 ⟨l2, f2, h⟩ => ⟨l2.length, h.1, l2, f2, rfl, h.2⟩, ?_⟩
      refine ⟨_, rfl, .inl ⟨rfl, _, SqL.of (S3 _ _ ef)⟩, _, rfl, .inl ⟨rfl, _, SqL.of (S3 _ _ el)⟩, _, rfl, _, rfl, pl, _, rfl, .inl (SqL.of (S3 _ _ el)), a, _, rfl, st3, ?_, ?_, fun d H4 h0 h1 B4 st4 => ?_⟩
      · rw [List.length_map]
        omega
      · rw [List.length_map]
        omega
      obtain ⟨k, rfl⟩ : ∃ k : Nat, d = (k : Int) := ⟨d.toNat, by omega⟩
      rw [List.length_map] at h1
      have hk : k < left.length := by omega
      obtain ⟨y, hy, my⟩ := pick hk
      have el4 := B4 _ _ npl (S3 _ _ el)
      have ef4 := B4 _ _ npf (S3 _ _ ef)
      refine ⟨pl, _, _, k, .str y, rfl, rfl, el4, by omega, by omega, ?_, by rw [List.getElem?_map, hy]; rfl, pf, _, _, rfl, rfl, by rw [upd_ne nlf]; exact ef4, by rw [List.length_map, sizeLine_eq]; omega, left.eraseIdx k, found ++ [y], ?_, rfl, ?_, ?_, ?_, ?_, ?_⟩
      · refine (ixN_seq ?_).1
        unfold ixN
        rw [List.length_map, if_pos (by omega), if_pos (by omega)]
        simp
      · rw [List.length_eraseIdx_of_lt hk]
        omega
      · rw [upd_ne (Ne.symm nlf), upd_same, map_eraseIdx']
      · rw [upd_same, List.map_append]
        rfl
      · have e1 := erase_perm left k hk
        have e2 : left[k] = y := by
          have z := List.getElem?_eq_getElem hk
          rw [hy] at z
          exact (Option.some.inj z).symm
        rw [e2] at e1
        rw [List.append_assoc]
        exact (List.Perm.append_left found e1).trans perm
      · exact but_put (but_put ((B.trans (But.of_same S3)).trans B4) hpl) hpf0
      · exact (st4.put npl).put npf
    · have he : left = [] := by
        cases left with
        | nil => rfl
        | cons x xs => exact absurd rfl c
      subst he
      rw [List.append_nil] at perm
      exact ⟨_, rfl, q pf found H3 hpf0 perm (B.trans (But.of_same S3)) (st'.same S3) (S3 _ _ ef)⟩

end
end L2.K76

set_option Elab.async false
set_option linter.all false
set_option maxRecDepth 100000
set_option maxHeartbeats 4000000
/-! The law: a drawn field. -/
namespace L2.K76
open PySem PySem.W PySem.Spec PySem.Calls PyProof.Rows L2.Jk
def spSm (n : Nat) : Sp := fun vs H Q _ => ∃ (a : Addr) (b : Bool), vs = [.ref a, .bl b] ∧ StAt H a ∧ (if b = true then 1 else 2) ≤ n ∧
  ∀ v d H', DrF d → (b = true → ∃ d', d = .pl d' ∧ Dr d') → FIn a H' v d → But a H H' → StAt H' a → Q v H'
structure GM (P : Program) (w : World) (K : Frag) (mg : Str → Option Value) (base : Heap) : Prop extends GZ P w K mg base where
  law_shuffled : FnAt P w K mg base CX0 2 "_law_shuffled" ["_law_source_here", "_law_items"] spShuf
theorem ne_lit {d : Int} {k : Nat} (h : ¬ decide (V.int d = V.int (k : Nat)) = true) : d ≠ (k : Int) := fun e => h (decide_eq_true (by rw [e]))
theorem eq_lit {d : Int} {k : Nat} (h : decide (V.int d = V.int (k : Nat)) = true) : d = (k : Int) := by
  have z := of_decide_eq_true h
  injection z
theorem cut_take {ys : List Str} {j : Nat} (h : 1 ≤ ys.length) : ∃ zs : List Str, cutV (ys.map V.str) none (some (1 + (j : Int))) = zs.map V.str ∧ zs.Sublist ys ∧ zs ≠ [] := by
  refine ⟨ys.take (HT.sIx ys.length ys.length (some (1 + (j : Int)))), ?_, List.take_sublist _ _, fun e => ?_⟩
  · unfold cutV
    rw [List.length_map, List.map_take]
    show ((ys.map V.str).drop 0).take (_ - 0) = _
    rw [List.drop_zero, Nat.sub_zero]
  · have z := congrArg List.length e
    rw [List.length_take] at z
    have k : 1 ≤ HT.sIx ys.length ys.length (some (1 + (j : Int))) := by
      rw [show 1 + (j : Int) = ((1 + j : Nat) : Int) by omega, HT.sIx_nat]
      omega
    have z : min (HT.sIx ys.length ys.length (some (1 + (j : Int)))) ys.length = 0 := z
    omega
section
variable {P : Program} {w : World} {K : Frag} {mg : Str → Option Value} {base : Heap} {f : Addr} {fd : FuncData}

abbrev s_law_small : Stmt := top 52
theorem sc_law_small : FnScope ["_law_source_here", "_law_is_inner", "_law_way", "_law_least", "_law_some", "_law_signs", "_law_sign"] ["_law_source_here", "_law_is_inner"] (defScope s_law_small) := ⟨rfl, rfl, rfl, by decide +kernel, rfl, by decide +kernel, by decide +kernel⟩

theorem ok_law_small (F : FunD K "_law_small" "_law_small" (defArgs s_law_small) (defBody s_law_small) (defScope s_law_small) [] [] f fd) (G : GM P w K mg base) {n : Nat} (AM : FnAt P w K mg base CX0 (n + 2) "_law_small" ["_law_source_here", "_law_is_inner"] (spSm n)) : FnOk P w K mg base CX0 (n + 2 + 1) f fd ["_law_source_here", "_law_is_inner"] (spSm (n + 1)) := by
  refine F.ok (CX := CX0) sc_law_small (fun vs H Q E h => ?_) (fun cdv A outer s H vs Q E hr h => ?_)
  · obtain ⟨a, b, rfl, _⟩ := h
    rfl
  · refine ⟨_, PSs.nox (pss_cons (ps_set (i := 2) sc_law_small.nd rfl (Or.inl rfl) (pe_fn G.law_draw (hr.mono (by omega)) pass0 (by rfl) (pa_cons (pv 0) (pa_cons (pe_ifExp (pt_val (pv 1)) pe_int pe_int) pa_nil))))
    (pss_cons (ps_set (i := 3) sc_law_small.nd rfl (Or.inl rfl) (pe_fn G.law_draw (hr.mono (by omega)) pass0 (by rfl) (pa_cons (pv 0) (pa_cons pe_int pa_nil))))
    (pss_cons (ps_if (pt_cmpR op_eq (pv 2) pe_int (nomark _))
      (pss_one (ps_ret (pe_tupS (pa_cons pe_str (pa_cons (pe_fn G.law_pick (hr.mono (by omega)) pass0 (by rfl) (pa_cons (pv 0) (pa_cons (pe_lstS (pa_cons pe_str (pa_cons pe_str (pa_cons pe_str (pa_cons pe_str pa_nil))))) pa_nil))) (pa_cons (pv 3) (pa_cons (pe_op op_add (pv 3) (pe_fn G.law_draw (hr.mono (by omega)) pass0 (by rfl) (pa_cons (pv 0) (pa_cons pe_int pa_nil)))) pa_nil)))))))
      pss_nil)
    (pss_cons (ps_if (pt_cmpR op_eq (pv 2) pe_int (nomark _))
      (pss_cons (ps_set (i := 3) sc_law_small.nd rfl (Or.inl rfl) (pe_fn G.law_pick (hr.mono (by omega)) pass0 (by rfl) (pa_cons (pv 0) (pa_cons (pe_lstS (pa_cons pe_int (pa_cons pe_int (pa_cons pe_int (pa_cons pe_int (pa_cons pe_int pa_nil)))))) pa_nil))))
      (pss_one (ps_ret (pe_tupS (pa_cons pe_str (pa_cons (pv 3) (pa_cons (pe_op op_add (pv 3) (pe_fn G.law_pick (hr.mono (by omega)) pass0 (by rfl) (pa_cons (pv 0) (pa_cons (pe_lstS (pa_cons pe_int (pa_cons pe_int (pa_cons pe_int (pa_cons pe_int pa_nil))))) pa_nil)))) pa_nil)))))))
      pss_nil)
    (pss_cons (ps_if (pt_cmpR op_eq (pv 2) pe_int (nomark _))
      (pss_one (ps_ret (pe_tupS (pa_cons pe_str (pa_cons pe_int pa_nil)))))
      pss_nil)
    (pss_cons (ps_if (pt_cmpR op_eq (pv 2) pe_int (nomark _))
      (pss_cons (ps_set (i := 4) sc_law_small.nd rfl (Or.inl rfl) (pe_fn G.law_shuffled (hr.mono (by omega)) pass0 (by rfl) (pa_cons (pv 0) (pa_cons (pe_lstS (pa_cons pe_str (pa_cons pe_str (pa_cons pe_str (pa_cons pe_str (pa_cons pe_str (pa_cons pe_str (pa_cons pe_str (pa_cons pe_str (pa_cons pe_str pa_nil)))))))))) pa_nil))))
      (pss_one (ps_ret (pe_tupS (pa_cons pe_str (pa_cons (pe_slice sl_listS (pv 4) po_none (po_some (pe_op op_add pe_int (pe_fn G.law_draw (hr.mono (by omega)) pass0 (by rfl) (pa_cons (pv 0) (pa_cons pe_int pa_nil)))))) pa_nil))))))
      pss_nil)
    (pss_cons (ps_if (pt_cmpR op_eq (pv 2) pe_int (nomark _))
      (pss_cons (ps_par (i := 5) (j := 6) (by rfl) sc_law_small.nd rfl rfl (by decide) rfl rfl (pa_cons (pe_fn G.law_pick (hr.mono (by omega)) pass0 (by rfl) (pa_cons (pv 0) (pa_cons (pe_lstS (pa_cons pe_str (pa_cons pe_str pa_nil))) pa_nil))) (pa_cons (pe_fn G.law_pick (hr.mono (by omega)) pass0 (by rfl) (pa_cons (pv 0) (pa_cons (pe_lstS (pa_cons pe_str (pa_cons pe_str pa_nil))) pa_nil))) pa_nil)) (by rfl))
      (pss_one (ps_ret (pe_tupS (pa_cons pe_str (pa_cons (pv 5) (pa_cons (pv 6) (pa_cons (pv 3) (pa_cons (pe_op op_add (pv 3) (pe_fn G.law_draw (hr.mono (by omega)) pass0 (by rfl) (pa_cons (pv 0) (pa_cons pe_int pa_nil)))) pa_nil)))))))))
      pss_nil)
    (pss_one (ps_ret (pe_tupS (pa_cons pe_str (pa_cons (pe_fn G.law_pick (hr.mono (by omega)) pass0 (by rfl) (pa_cons (pv 0) (pa_cons (pe_lstS (pa_cons pe_str (pa_cons pe_str pa_nil))) pa_nil))) (pa_cons pe_str (pa_cons (pe_fn AM hr pass0 (by rfl) (pa_cons (pv 0) (pa_cons pe_bl pa_nil))) pa_nil)))))))))))))), ?_⟩
    obtain ⟨a, b, rfl, st, hn, q⟩ := h
    refine ⟨_, rfl, _, rfl, _, rfl, ?_⟩
    cases b with
    | true =>
      refine iteT ⟨a, 5, rfl, st, by decide, by decide, fun d0 H0 h00 h10 B0 st0 => ⟨_, rfl, a, 2, rfl, st0, by decide, by decide, fun d1 H1 h01 h11 B1 st1 => ?_⟩⟩
      obtain ⟨l, rfl⟩ : ∃ l : Nat, d1 = (l : Int) := ⟨d1.toNat, by omega⟩
      have hl : l < 2 := by omega
      have B1 := B0.trans B1
      refine ⟨_, rfl, rfl, _, rfl, ?_⟩
      refine ite2 (fun c0 => ?_) (fun c0 => ?_)
      · refine ⟨_, rfl, by show 4 ≤ 1000; decide, fun p2 H2 hp2 S2 e2 => ⟨a, p2, wordZ.map V.str, rfl, st1.same S2, st1.ne hp2, e2, by decide, by decide, fun v2 G2 hv2 B2 st2 => ?_⟩⟩
        obtain ⟨z, hz, rfl⟩ := List.mem_map.mp hv2
        refine ⟨_, rfl, _, rfl, _, rfl, a, 3, rfl, st2, by decide, by decide, fun d4 H4 h04 h14 B4 st4 => ⟨_, _, rfl, rfl, by show 4 ≤ 1000; decide, fun t H5 ht S5 e5 => ?_⟩⟩
        obtain ⟨j, rfl⟩ : ∃ j : Nat, d4 = (j : Int) := ⟨d4.toNat, by omega⟩
        dsimp only at e5
        rw [show (l : Int) + (j : Int) = ((l + j : Nat) : Int) by omega] at e5
        exact q _ (.pl (.word (.str z) (.int (l : Nat)) (.int ((l + j : Nat) : Int)))) _ (.pl (.word hz hl (by omega))) (fun _ => ⟨_, rfl, .word hz hl (by omega)⟩) ⟨t, rfl, st4.ne ht, e5⟩ ((((B1.trans (But.of_same S2)).trans B2).trans B4).trans (But.of_same S5)) (st4.same S5)
      refine ⟨_, rfl, rfl, _, rfl, ?_⟩
      refine ite2 (fun c1 => ?_) (fun c1 => ?_)
      · refine ⟨_, rfl, by show 5 ≤ 1000; decide, fun p2 H2 hp2 S2 e2 => ⟨a, p2, (numL.map fun l : Nat => V.int (l : Int)), rfl, st1.same S2, st1.ne hp2, e2, by decide, by decide, fun v2 G2 hv2 B2 st2 => ?_⟩⟩
        obtain ⟨l2, hl2, rfl⟩ := List.mem_map.mp hv2
        refine ⟨_, rfl, _, rfl, _, rfl, by show 4 ≤ 1000; decide, fun p4 H4 hp4 S4 e4 => ⟨a, p4, (numM.map fun l : Nat => V.int (l : Int)), rfl, st2.same S4, st2.ne hp4, e4, by decide, by decide, fun v4 G4 hv4 B4 st4 => ?_⟩⟩
        obtain ⟨j, hj, rfl⟩ := List.mem_map.mp hv4
        refine ⟨_, _, rfl, rfl, by show 3 ≤ 1000; decide, fun t H5 ht S5 e5 => ?_⟩
        dsimp only at e5
        rw [show (l2 : Int) + (j : Int) = ((l2 + j : Nat) : Int) by omega] at e5
        exact q _ (.pl (.number (.int (l2 : Nat)) (.int ((l2 + j : Nat) : Int)))) _ (.pl (.number hl2 hj)) (fun _ => ⟨_, rfl, .number hl2 hj⟩) ⟨t, rfl, st4.ne ht, e5⟩ (((((B1.trans (But.of_same S2)).trans B2).trans (But.of_same S4)).trans B4).trans (But.of_same S5)) (st4.same S5)
      refine ⟨_, rfl, rfl, _, rfl, ?_⟩
      refine ite2 (fun c2 => ?_) (fun c2 => ?_)
      · refine ⟨by show 2 ≤ 1000; decide, fun t H5 ht S5 e5 => ?_⟩
        exact q _ (.pl (.fixed (.int ((1 : Nat) : Int)))) _ (.pl (.fixed)) (fun _ => ⟨_, rfl, .fixed⟩) ⟨t, rfl, st1.ne ht, e5⟩ (B1.trans (But.of_same S5)) (st1.same S5)
      refine ⟨_, rfl, rfl, _, rfl, ?_⟩
      refine ite2 (fun c3 => ?_) (fun c3 => ?_)
      · refine ⟨_, rfl, by show 9 ≤ 1000; decide, fun p2 H2 hp2 S2 e2 => ⟨a, p2, nines, rfl, st1.same S2, st1.ne hp2, e2, fun t ht => ht, by decide, fun r2 ys G2 hr2 perm B2 st2 er => ?_⟩⟩
        have nr : r2 ≠ a := (st1.same S2).ne hr2
        refine ⟨_, rfl, _, rfl, a, 4, rfl, st2, by decide, by decide, fun d4 H4 h04 h14 B4 st4 => ⟨_, _, rfl, rfl, ?_⟩⟩
        obtain ⟨j, rfl⟩ : ∃ j : Nat, d4 = (j : Int) := ⟨d4.toNat, by omega⟩
        refine ⟨_, rfl, r2, _, rfl, SqL.of (B4 _ _ nr er), fun pc Hc hpc Sc ec => ⟨by show 2 ≤ 1000; decide, fun t H5 ht S5 e5 => ?_⟩⟩
        obtain ⟨zs, ez, sub, zne⟩ := cut_take (ys := ys) (j := j) (by rw [perm.length_eq]; decide)
        rw [ez] at ec
        have nd : zs.Nodup := (perm.symm.nodup (by decide +kernel)).sublist sub
        have ztn : ∀ t ∈ zs, t ∈ nines := fun t ht => perm.mem_iff.mp (sub.subset ht)
        have zl : zs.length ≤ 9 := Nat.le_trans sub.length_le (by rw [perm.length_eq]; decide)
        have stc := st4.same Sc
        exact q _ (.pl (.listed (.lst (zs.map V.str)))) _ (.pl (.listed nd ztn zne zl)) (fun _ => ⟨_, rfl, .listed nd ztn zne zl⟩) ⟨t, .ref pc, rfl, stc.ne ht, e5, ⟨pc, rfl, S5 _ _ ec⟩, fun c hc => by cases hc; exact st4.ne hpc⟩ (((((B1.trans (But.of_same S2)).trans B2).trans B4).trans (But.of_same Sc)).trans (But.of_same S5)) (stc.same S5)
      refine ⟨_, rfl, rfl, _, rfl, ?_⟩
      refine ite2 (fun c4 => ?_) (fun c4 => ?_)
      · refine ⟨_, rfl, by show 2 ≤ 1000; decide, fun p2 H2 hp2 S2 e2 => ⟨a, p2, endZ.map V.str, rfl, st1.same S2, st1.ne hp2, e2, by decide, by decide, fun v2 G2 hv2 B2 st2 => ?_⟩⟩
        obtain ⟨z, hz, rfl⟩ := List.mem_map.mp hv2
        refine ⟨_, rfl, by show 2 ≤ 1000; decide, fun p4 H4 hp4 S4 e4 => ⟨a, p4, endE.map V.str, rfl, st2.same S4, st2.ne hp4, e4, by decide, by decide, fun v4 G4 hv4 B4 st4 => ?_⟩⟩
        obtain ⟨e, he, rfl⟩ := List.mem_map.mp hv4
        refine ⟨_, _, rfl, _, rfl, _, rfl, _, rfl, _, rfl, _, rfl, a, 2, rfl, st4, by decide, by decide, fun d6 H6 h06 h16 B6 st6 => ⟨_, _, rfl, rfl, by show 5 ≤ 1000; decide, fun t H5 ht S5 e5 => ?_⟩⟩
        obtain ⟨j, rfl⟩ : ∃ j : Nat, d6 = (j : Int) := ⟨d6.toNat, by omega⟩
        dsimp only at e5
        rw [show (l : Int) + (j : Int) = ((l + j : Nat) : Int) by omega] at e5
        exact q _ (.pl (.ended (.str z) (.str e) (.int (l : Nat)) (.int ((l + j : Nat) : Int)))) _ (.pl (.ended hz he hl (by omega))) (fun _ => ⟨_, rfl, .ended hz he hl (by omega)⟩) ⟨t, rfl, st6.ne ht, e5⟩ ((((((B1.trans (But.of_same S2)).trans B2).trans (But.of_same S4)).trans B4).trans B6).trans (But.of_same S5)) (st6.same S5)
      exfalso
      have n0 := ne_lit (k := 0) c0
      have n1 := ne_lit (k := 1) c1
      have n2 := ne_lit (k := 2) c2
      have n3 := ne_lit (k := 3) c3
      have n4 := ne_lit (k := 4) c4
      omega

    | false =>
      refine iteF ⟨a, 6, rfl, st, by decide, by decide, fun d0 H0 h00 h10 B0 st0 => ⟨_, rfl, a, 2, rfl, st0, by decide, by decide, fun d1 H1 h01 h11 B1 st1 => ?_⟩⟩
      obtain ⟨l, rfl⟩ : ∃ l : Nat, d1 = (l : Int) := ⟨d1.toNat, by omega⟩
      have hl : l < 2 := by omega
      have B1 := B0.trans B1
      refine ⟨_, rfl, rfl, _, rfl, ?_⟩
      refine ite2 (fun c0 => ?_) (fun c0 => ?_)
      · refine ⟨_, rfl, by show 4 ≤ 1000; decide, fun p2 H2 hp2 S2 e2 => ⟨a, p2, wordZ.map V.str, rfl, st1.same S2, st1.ne hp2, e2, by decide, by decide, fun v2 G2 hv2 B2 st2 => ?_⟩⟩
        obtain ⟨z, hz, rfl⟩ := List.mem_map.mp hv2
        refine ⟨_, rfl, _, rfl, _, rfl, a, 3, rfl, st2, by decide, by decide, fun d4 H4 h04 h14 B4 st4 => ⟨_, _, rfl, rfl, by show 4 ≤ 1000; decide, fun t H5 ht S5 e5 => ?_⟩⟩
        obtain ⟨j, rfl⟩ : ∃ j : Nat, d4 = (j : Int) := ⟨d4.toNat, by omega⟩
        dsimp only at e5
        rw [show (l : Int) + (j : Int) = ((l + j : Nat) : Int) by omega] at e5
        exact q _ (.pl (.word (.str z) (.int (l : Nat)) (.int ((l + j : Nat) : Int)))) _ (.pl (.word hz hl (by omega))) (fun _ => ⟨_, rfl, .word hz hl (by omega)⟩) ⟨t, rfl, st4.ne ht, e5⟩ ((((B1.trans (But.of_same S2)).trans B2).trans B4).trans (But.of_same S5)) (st4.same S5)
      refine ⟨_, rfl, rfl, _, rfl, ?_⟩
      refine ite2 (fun c1 => ?_) (fun c1 => ?_)
      · refine ⟨_, rfl, by show 5 ≤ 1000; decide, fun p2 H2 hp2 S2 e2 => ⟨a, p2, (numL.map fun l : Nat => V.int (l : Int)), rfl, st1.same S2, st1.ne hp2, e2, by decide, by decide, fun v2 G2 hv2 B2 st2 => ?_⟩⟩
        obtain ⟨l2, hl2, rfl⟩ := List.mem_map.mp hv2
        refine ⟨_, rfl, _, rfl, _, rfl, by show 4 ≤ 1000; decide, fun p4 H4 hp4 S4 e4 => ⟨a, p4, (numM.map fun l : Nat => V.int (l : Int)), rfl, st2.same S4, st2.ne hp4, e4, by decide, by decide, fun v4 G4 hv4 B4 st4 => ?_⟩⟩
        obtain ⟨j, hj, rfl⟩ := List.mem_map.mp hv4
        refine ⟨_, _, rfl, rfl, by show 3 ≤ 1000; decide, fun t H5 ht S5 e5 => ?_⟩
        dsimp only at e5
        rw [show (l2 : Int) + (j : Int) = ((l2 + j : Nat) : Int) by omega] at e5
        exact q _ (.pl (.number (.int (l2 : Nat)) (.int ((l2 + j : Nat) : Int)))) _ (.pl (.number hl2 hj)) (fun _ => ⟨_, rfl, .number hl2 hj⟩) ⟨t, rfl, st4.ne ht, e5⟩ (((((B1.trans (But.of_same S2)).trans B2).trans (But.of_same S4)).trans B4).trans (But.of_same S5)) (st4.same S5)
      refine ⟨_, rfl, rfl, _, rfl, ?_⟩
      refine ite2 (fun c2 => ?_) (fun c2 => ?_)
      · refine ⟨by show 2 ≤ 1000; decide, fun t H5 ht S5 e5 => ?_⟩
        exact q _ (.pl (.fixed (.int ((1 : Nat) : Int)))) _ (.pl (.fixed)) (fun _ => ⟨_, rfl, .fixed⟩) ⟨t, rfl, st1.ne ht, e5⟩ (B1.trans (But.of_same S5)) (st1.same S5)
      refine ⟨_, rfl, rfl, _, rfl, ?_⟩
      refine ite2 (fun c3 => ?_) (fun c3 => ?_)
      · refine ⟨_, rfl, by show 9 ≤ 1000; decide, fun p2 H2 hp2 S2 e2 => ⟨a, p2, nines, rfl, st1.same S2, st1.ne hp2, e2, fun t ht => ht, by decide, fun r2 ys G2 hr2 perm B2 st2 er => ?_⟩⟩
        have nr : r2 ≠ a := (st1.same S2).ne hr2
        refine ⟨_, rfl, _, rfl, a, 4, rfl, st2, by decide, by decide, fun d4 H4 h04 h14 B4 st4 => ⟨_, _, rfl, rfl, ?_⟩⟩
        obtain ⟨j, rfl⟩ : ∃ j : Nat, d4 = (j : Int) := ⟨d4.toNat, by omega⟩
        refine ⟨_, rfl, r2, _, rfl, SqL.of (B4 _ _ nr er), fun pc Hc hpc Sc ec => ⟨by show 2 ≤ 1000; decide, fun t H5 ht S5 e5 => ?_⟩⟩
        obtain ⟨zs, ez, sub, zne⟩ := cut_take (ys := ys) (j := j) (by rw [perm.length_eq]; decide)
        rw [ez] at ec
        have nd : zs.Nodup := (perm.symm.nodup (by decide +kernel)).sublist sub
        have ztn : ∀ t ∈ zs, t ∈ nines := fun t ht => perm.mem_iff.mp (sub.subset ht)
        have zl : zs.length ≤ 9 := Nat.le_trans sub.length_le (by rw [perm.length_eq]; decide)
        have stc := st4.same Sc
        exact q _ (.pl (.listed (.lst (zs.map V.str)))) _ (.pl (.listed nd ztn zne zl)) (fun _ => ⟨_, rfl, .listed nd ztn zne zl⟩) ⟨t, .ref pc, rfl, stc.ne ht, e5, ⟨pc, rfl, S5 _ _ ec⟩, fun c hc => by cases hc; exact st4.ne hpc⟩ (((((B1.trans (But.of_same S2)).trans B2).trans B4).trans (But.of_same Sc)).trans (But.of_same S5)) (stc.same S5)
      refine ⟨_, rfl, rfl, _, rfl, ?_⟩
      refine ite2 (fun c4 => ?_) (fun c4 => ?_)
      · refine ⟨_, rfl, by show 2 ≤ 1000; decide, fun p2 H2 hp2 S2 e2 => ⟨a, p2, endZ.map V.str, rfl, st1.same S2, st1.ne hp2, e2, by decide, by decide, fun v2 G2 hv2 B2 st2 => ?_⟩⟩
        obtain ⟨z, hz, rfl⟩ := List.mem_map.mp hv2
        refine ⟨_, rfl, by show 2 ≤ 1000; decide, fun p4 H4 hp4 S4 e4 => ⟨a, p4, endE.map V.str, rfl, st2.same S4, st2.ne hp4, e4, by decide, by decide, fun v4 G4 hv4 B4 st4 => ?_⟩⟩
        obtain ⟨e, he, rfl⟩ := List.mem_map.mp hv4
        refine ⟨_, _, rfl, _, rfl, _, rfl, _, rfl, _, rfl, _, rfl, a, 2, rfl, st4, by decide, by decide, fun d6 H6 h06 h16 B6 st6 => ⟨_, _, rfl, rfl, by show 5 ≤ 1000; decide, fun t H5 ht S5 e5 => ?_⟩⟩
        obtain ⟨j, rfl⟩ : ∃ j : Nat, d6 = (j : Int) := ⟨d6.toNat, by omega⟩
        dsimp only at e5
        rw [show (l : Int) + (j : Int) = ((l + j : Nat) : Int) by omega] at e5
        exact q _ (.pl (.ended (.str z) (.str e) (.int (l : Nat)) (.int ((l + j : Nat) : Int)))) _ (.pl (.ended hz he hl (by omega))) (fun _ => ⟨_, rfl, .ended hz he hl (by omega)⟩) ⟨t, rfl, st6.ne ht, e5⟩ ((((((B1.trans (But.of_same S2)).trans B2).trans (But.of_same S4)).trans B4).trans B6).trans (But.of_same S5)) (st6.same S5)
      refine ⟨_, rfl, by show 2 ≤ 1000; decide, fun p2 H2 hp2 S2 e2 => ⟨a, p2, marks.map V.str, rfl, st1.same S2, st1.ne hp2, e2, by decide, by decide, fun v2 G2 hv2 B2 st2 => ?_⟩⟩
      obtain ⟨nn, hnn, rfl⟩ := List.mem_map.mp hv2
      refine ⟨_, rfl, a, true, rfl, st2, by have hn : 2 ≤ n + 1 := hn; show 1 ≤ n; omega, fun v d H4 hd hpl hF B4 st4 => ?_⟩
      obtain ⟨d', rfl, hd'⟩ := hpl rfl
      refine ⟨by show 4 ≤ 1000; decide, fun t H5 ht S5 e5 => ?_⟩
      exact q _ (.mk (.str nn) (.str "M") d') _ (.mk hnn hd') (fun z => by cases z) ⟨t, v, rfl, st4.ne ht, e5, PDAt.same S5 hF⟩ ((((B1.trans (But.of_same S2)).trans B2).trans B4).trans (But.of_same S5)) (st4.same S5)


end
end L2.K76

set_option Elab.async false
set_option linter.all false
set_option maxRecDepth 100000
set_option maxHeartbeats 4000000
/-! The law: a drawn layout. -/
namespace L2.K76
open PySem PySem.W PySem.Spec PySem.Calls PyProof.Rows L2.Jk
def datP : PD → PyData
  | .word s l m => .tuple [.str "word", dV s, dV l, dV m]
  | .number l m => .tuple [.str "number", dV l, dV m]
  | .fixed w => .tuple [.str "fixed", dV w]
  | .listed x => .tuple [.str "listed", .list (x.els.map dV)]
  | .ended s e l m => .tuple [.str "ended", dV s, dV e, dV l, dV m]
def datF : FD → PyData
  | .pl d => datP d
  | .mk n m d => .tuple [.str "marked", dV n, dV m, datP d]
theorem dp_pd {K : Frag} {H : Hp} {s0 : Addr} {v : V} {d : PD} (hd : Dr d) (h : PDAt s0 H v d) : Dp K H v (datP d) := by
  cases hd with
  | word a b c =>
    obtain ⟨b, rfl, _, h⟩ := h
    exact .tup (SqT.of h) (.cons (.str _) (.cons (.str _) (.cons (.int _) (.cons (.int _) .nil))))
  | number a b =>
    obtain ⟨b, rfl, _, h⟩ := h
    exact .tup (SqT.of h) (.cons (.str _) (.cons (.int _) (.cons (.int _) .nil)))
  | fixed =>
    obtain ⟨b, rfl, _, h⟩ := h
    exact .tup (SqT.of h) (.cons (.str _) (.cons (.int _) .nil))
  | listed a b c e =>
    obtain ⟨b, u, rfl, _, h, ⟨b2, rfl, h2⟩, _⟩ := h
    exact .tup (SqT.of h) (.cons (.str _) (.cons (dp_strs h2) .nil))
  | ended a b c e =>
    obtain ⟨b, rfl, _, h⟩ := h
    exact .tup (SqT.of h) (.cons (.str _) (.cons (.str _) (.cons (.str _) (.cons (.int _) (.cons (.int _) .nil)))))
theorem dp_fd {K : Frag} {H : Hp} {s0 : Addr} {v : V} {d : FD} (hd : DrF d) (h : FIn s0 H v d) : Dp K H v (datF d) := by
  cases hd with
  | pl hd => exact dp_pd hd h
  | mk hn hd =>
    obtain ⟨b, u, rfl, _, h, hI⟩ := h
    exact .tup (SqT.of h) (.cons (.str _) (.cons (.str _) (.cons (.str _) (.cons (dp_pd hd hI) .nil))))
theorem dp_specs {K : Frag} {H : Hp} {s0 : Addr} : ∀ {vs : List V} {ds : List FD}, (∀ d ∈ ds, DrF d) → SpsAt s0 H vs ds → DpAll K H vs (ds.map datF)
  | [], [], _, _ => .nil
  | [], _ :: _, _, h => by cases h.1
  | _ :: _, [], _, h => by cases h.1
  | v :: vs, d :: ds, hd, h => .cons (dp_fd (hd d (List.mem_cons_self ..)) (h.2 0 v d rfl rfl)) (dp_specs (fun x hx => hd x (List.mem_cons_of_mem _ hx)) ⟨Nat.succ.inj h.1, fun i a b h1 h2 => h.2 (i + 1) a b h1 h2⟩)
theorem lay_menu : (∀ z ∈ wordZ, (PyData.str z).canLay0 = true) ∧ (∀ z ∈ endZ, (PyData.str z).canLay0 = true) ∧ (∀ z ∈ endE, (PyData.str z).canLay0 = true) ∧ (∀ z ∈ marks, (PyData.str z).canLay0 = true) ∧
  (PyData.str "word").canLay0 = true ∧ (PyData.str "number").canLay0 = true ∧ (PyData.str "fixed").canLay0 = true ∧ (PyData.str "listed").canLay0 = true ∧ (PyData.str "ended").canLay0 = true ∧ (PyData.str "marked").canLay0 = true ∧ (PyData.str "M").canLay0 = true := by decide +kernel
theorem and_t {a b : Bool} (h : a = true) (k : b = true) : (a && b) = true := Bool.and_eq_true_iff.mpr ⟨h, k⟩
theorem sh_pd {d : PD} (hd : Dr d) : (datP d).canLay0 = true ∧ (datP d).depth ≤ 3 := by
  obtain ⟨m1, m2, m3, m4, s1, s2, s3, s4, s5, s6, s7⟩ := lay_menu
  cases hd with
  | word a b c => exact ⟨and_t s1 (and_t (m1 _ a) rfl), by show max 0 (max 0 (max 0 (max 0 0))) + 1 ≤ 3; decide⟩
  | number a b => exact ⟨and_t s2 rfl, by show max 0 (max 0 (max 0 0)) + 1 ≤ 3; decide⟩
  | fixed => exact ⟨and_t s3 rfl, by show max 0 (max 0 0) + 1 ≤ 3; decide⟩
  | @listed ts a b c e =>
    obtain ⟨l1, l2⟩ := lay_strs ts fun t ht => (nines_are t (b t ht)).2.2
    refine ⟨and_t s4 (and_t l1 rfl), ?_⟩
    show max 0 (max (PyData.depthAll ((ts.map V.str).map dV) + 1) 0) + 1 ≤ 3
    omega
  | ended a b c e => exact ⟨and_t s5 (and_t (m2 _ a) (and_t (m3 _ b) rfl)), by show max 0 (max 0 (max 0 (max 0 (max 0 0)))) + 1 ≤ 3; decide⟩
theorem sh_fd {d : FD} (hd : DrF d) : (datF d).canLay0 = true ∧ (datF d).depth ≤ 4 := by
  obtain ⟨m1, m2, m3, m4, s1, s2, s3, s4, s5, s6, s7⟩ := lay_menu
  cases hd with
  | pl hd =>
    obtain ⟨h1, h2⟩ := sh_pd hd
    exact ⟨h1, Nat.le_trans h2 (by decide)⟩
  | @mk n d hn hd =>
    obtain ⟨h1, h2⟩ := sh_pd hd
    refine ⟨and_t s6 (and_t (m4 _ hn) (and_t s7 (and_t h1 rfl))), ?_⟩
    show max 0 (max 0 (max 0 (max (datP d).depth 0))) + 1 ≤ 4
    omega
theorem sh_all : ∀ ds : List FD, (∀ d ∈ ds, DrF d) → PyData.canLayAll0 (ds.map datF) = true ∧ PyData.depthAll (ds.map datF) ≤ 4
  | [], _ => ⟨rfl, by decide⟩
  | d :: ds, h => by
    obtain ⟨h1, h2⟩ := sh_all ds fun x hx => h x (List.mem_cons_of_mem _ hx)
    obtain ⟨h3, h4⟩ := sh_fd (h d (List.mem_cons_self ..))
    exact ⟨and_t h3 h1, Nat.max_le.mpr ⟨h4, h2⟩⟩
theorem sh_specs {ds : List FD} (h : ∀ d ∈ ds, DrF d) : SeqAt.shaped (.list (ds.map datF)) = true := by
  obtain ⟨l1, l2⟩ := sh_all ds h
  refine Bool.and_eq_true_iff.mpr ⟨l1, decide_eq_true ?_⟩
  show PyData.depthAll (ds.map datF) + 1 ≤ 64
  omega
theorem eqv_nilF : ∀ ds : List FD, PyData.eqv (.list (ds.map datF)) (.list []) = decide (ds.length = 0)
  | [] => rfl
  | _ :: _ => rfl
theorem FIn.ref {s : Addr} {H : Hp} {v : V} : ∀ {d : FD}, FIn s H v d → ∃ b, v = .ref b
  | .pl (.word ..), ⟨b, e, _⟩ => ⟨b, e⟩
  | .pl (.number ..), ⟨b, e, _⟩ => ⟨b, e⟩
  | .pl (.fixed _), ⟨b, e, _⟩ => ⟨b, e⟩
  | .pl (.listed _), ⟨b, _, e, _⟩ => ⟨b, e⟩
  | .pl (.ended ..), ⟨b, e, _⟩ => ⟨b, e⟩
  | .mk .., ⟨b, _, e, _⟩ => ⟨b, e⟩
theorem upd_but {H : Hp} {p c : Addr} {o u : HO} {vsp : List V} (hp : H p = some (.lst vsp)) (hc : H c = some u) (n : u ≠ .lst vsp) : upd H p o c = some u := by
  rw [upd_ne (fun e => ?_)]
  · exact hc
  · rw [e, hp] at hc
    exact n (Option.some.inj hc).symm
theorem PDAt.put {s p : Addr} {H : Hp} {o : HO} {vsp : List V} {v : V} (hp : H p = some (.lst vsp)) (hr : ∀ x ∈ vsp, ∃ b, x = .ref b) : ∀ {d : PD}, Dr d → PDAt s H v d → PDAt s (upd H p o) v d
  | _, .word .., ⟨b, e, n, h⟩ => ⟨b, e, n, upd_but hp h (by intro z; cases z)⟩
  | _, .number .., ⟨b, e, n, h⟩ => ⟨b, e, n, upd_but hp h (by intro z; cases z)⟩
  | _, .fixed, ⟨b, e, n, h⟩ => ⟨b, e, n, upd_but hp h (by intro z; cases z)⟩
  | _, .listed (ts := ts) _ _ hne _, ⟨b, u, e, n, h, ⟨b2, e2, l⟩, k⟩ => ⟨b, u, e, n, upd_but hp h (by intro z; cases z), ⟨b2, e2, upd_but hp l (fun z => by
      injection z with z
      cases ts with
      | nil => exact hne rfl
      | cons t ts =>
        obtain ⟨c, hc⟩ := hr (.str t) (z ▸ List.mem_cons_self ..)
        cases hc)⟩, k⟩
  | _, .ended .., ⟨b, e, n, h⟩ => ⟨b, e, n, upd_but hp h (by intro z; cases z)⟩
theorem FIn.put2 {s p : Addr} {H H6 : Hp} {o : HO} {vsp : List V} {v : V} {d : FD} (h : FIn s H v d) (S : Same H H6) (hp : H6 p = some (.lst vsp)) (hr : ∀ x ∈ vsp, ∃ b, x = .ref b) (hd : DrF d) : FIn s (upd H6 p o) v d := by
  cases hd with
  | pl hd => exact PDAt.put hp hr hd (PDAt.same S h)
  | mk hn hd =>
    obtain ⟨b, u, e, n, h, k⟩ := h
    exact ⟨b, u, e, n, upd_but hp (S _ _ h) (by intro z; cases z), PDAt.put hp hr hd (PDAt.same S k)⟩
theorem SpsAt.put2 {s p : Addr} {H H6 : Hp} {o : HO} {vsp : List V} {vs : List V} {ds : List FD} (h : SpsAt s H vs ds) (S : Same H H6) (hp : H6 p = some (.lst vsp)) (hr : ∀ x ∈ vsp, ∃ b, x = .ref b) (hd : ∀ d ∈ ds, DrF d) : SpsAt s (upd H6 p o) vs ds :=
  ⟨h.1, fun i v d a b => (h.2 i v d a b).put2 S hp hr (hd d (List.mem_of_getElem? b))⟩
theorem SpsAt.snoc {s : Addr} {H : Hp} {vs : List V} {ds : List FD} {v : V} {d : FD} (h : SpsAt s H vs ds) (k : FIn s H v d) : SpsAt s H (vs ++ [v]) (ds ++ [d]) := by
  refine ⟨by rw [List.length_append, List.length_append, h.1]; rfl, fun i x y hx hy => ?_⟩
  have hl := h.1
  by_cases hi : i < vs.length
  · rw [List.getElem?_append_left hi] at hx
    rw [List.getElem?_append_left (by omega)] at hy
    exact h.2 i x y hx hy
  · rw [List.getElem?_append_right (by omega)] at hx
    rw [List.getElem?_append_right (by omega)] at hy
    have e : i - vs.length = 0 := by
      have := (List.getElem?_eq_some_iff.mp hx).1
      have : i - vs.length < 1 := this
      omega
    rw [← hl, e] at hy
    rw [e] at hx
    cases hx
    cases hy
    exact k
theorem VsOk.len {d : FD} {xs : List V} (ok : VsOk d xs) : 1 ≤ xs.length ∧ xs.length ≤ 71 := ⟨List.length_pos_iff.mpr ok.ne, by
  have := ok.few
  have := d.dep_lt
  omega⟩
theorem but_put0 {H H1 : Hp} {a p : Addr} {o : HO} (B : But a H H1) (n : H p = none) : But a H (upd H1 p o) := but_put B n
theorem joints_jn : ∀ j ∈ (["", "", "", "!", "~"] : List Str), j ∈ JN := by decide +kernel
theorem cut_tail (vs : List V) : (cutV vs (some 1) none).length = vs.length - 1 := by
  unfold cutV
  have e : HT.sIx vs.length 0 (some 1) = min 1 vs.length := HT.sIx_nat vs.length 0 1
  rw [e, HT.sIx_none, List.length_take, List.length_drop]
  omega
/-- what a layout is made of, as the law holds it: specs at ps, joints at pj, not at the law's numbers -/
structure LyAt (a : Addr) (H : Hp) (ps pj : Addr) (vsp : List V) (ds : List FD) (js : List Str) : Prop where
  ns : ps ≠ a
  nj : pj ≠ a
  sp : H ps = some (.lst vsp)
  sps : SpsAt a H vsp ds
  jt : H pj = some (.lst (js.map V.str))
  dr : ∀ d ∈ ds, DrF d
  ok : LyOk ds js
theorem LyAt.same {a : Addr} {H H' : Hp} {ps pj : Addr} {vsp : List V} {ds : List FD} {js : List Str} (S : Same H H') (h : LyAt a H ps pj vsp ds js) : LyAt a H' ps pj vsp ds js := ⟨h.ns, h.nj, S _ _ h.sp, h.sps.same S, S _ _ h.jt, h.dr, h.ok⟩
theorem LyAt.but {a : Addr} {H H' : Hp} {ps pj : Addr} {vsp : List V} {ds : List FD} {js : List Str} (B : But a H H') (h : LyAt a H ps pj vsp ds js) : LyAt a H' ps pj vsp ds js := ⟨h.ns, h.nj, B _ _ h.ns h.sp, h.sps.but B, B _ _ h.nj h.jt, h.dr, h.ok⟩
theorem none_but {a D : Addr} {H H' : Hp} (n : D ≠ a) (B : But a H H') (h : H' D = none) : H D = none := by
  cases e : H D with
  | none => rfl
  | some o => rw [B _ _ n e] at h; cases h
def spLy : Sp := fun vs H Q _ => ∃ a : Addr, vs = [.ref a, .int 4, .int 1000000000] ∧ StAt H a ∧ ∀ T ps pj vsp ds js H', T ≠ a → H ps = none → H pj = none → LyAt a H' ps pj vsp ds js → ds.length ≤ 4 → H' T = some (.tup [.ref ps, .ref pj]) → But a H H' → StAt H' a → Q (.ref T) H'
structure GL (P : Program) (w : World) (K : Frag) (mg : Str → Option Value) (base : Heap) : Prop extends GM P w K mg base where
  law_small : FnAt P w K mg base CX0 4 "_law_small" ["_law_source_here", "_law_is_inner"] (spSm 2)
section
variable {P : Program} {w : World} {K : Frag} {mg : Str → Option Value} {base : Heap} {f : Addr} {fd : FuncData}

abbrev s_law_layout : Stmt := top 53
theorem sc_law_layout : FnScope ["_law_source_here", "_law_most", "_law_limit", "_law_specs", "_law_many", "_law_turn", "_law_spec"] ["_law_source_here", "_law_most", "_law_limit"] (defScope s_law_layout) := ⟨rfl, rfl, rfl, by decide +kernel, rfl, by decide +kernel, by decide +kernel⟩

theorem ok_law_layout (F : FunD K "_law_layout" "_law_layout" (defArgs s_law_layout) (defBody s_law_layout) (defScope s_law_layout) [] [] f fd) (G : GL P w K mg base) : FnOk P w K mg base CX0 5 f fd ["_law_source_here", "_law_most", "_law_limit"] spLy := by
  refine F.ok (CX := CX0) sc_law_layout (fun vs H Q E h => ?_) (fun cdv A outer s H vs Q E hr h => ?_)
  · obtain ⟨a, rfl, _⟩ := h
    rfl
  · refine ⟨_, PSs.nox (pss_cons (ps_par (i := 3) (j := 4) (by rfl) sc_law_layout.nd rfl rfl (by decide) rfl rfl (pa_cons (pe_lstS pa_nil) (pa_cons pe_int pa_nil)) (by rfl))
    (pss_cons (ps_for PassesOwn.never rfl (pi_range1 (by rfl) G.range (pa_cons (pe_op op_add pe_int (pe_fn G.law_draw (hr.mono (by decide)) pass0 (by rfl) (pa_cons (pv 0) (pa_cons (pv 1) pa_nil)))) pa_nil)) (pg_name (i := 5) sc_law_layout.nd rfl (Or.inl rfl))
      (pss_cons (ps_set (i := 6) sc_law_layout.nd rfl (Or.inl rfl) (pe_fn G.law_small hr pass0 (by rfl) (pa_cons (pv 0) (pa_cons pe_bl pa_nil))))
      (pss_one (ps_if (PW.pt (pw_or (pt_cmpR (op_eqD hr.units) (pv 3) (pe_lstS pa_nil) (nomark _)) (pw_or1 (pt_cmpR op_le (pe_op op_mul (pv 4) (pe_callB call_len_seq (by rfl) G.len (by decide +kernel) (pa_cons (pe_fn G.law_values (hr.mono (by decide)) pass0 (by rfl) (pa_cons (pv 6) pa_nil)) pa_nil))) (pv 2) (nomark _)))))
        (pss_cons (ps_expr (pe_bm PySem.F.plainAttrs_list PySem.F.slot_list_append PySem.F.type_list_append mt_append (pv 3) (pa_cons (pv 6) pa_nil)))
        (pss_one (ps_set (i := 4) sc_law_layout.nd rfl (Or.inl rfl) (pe_op op_mul (pv 4) (pe_callB call_len_seq (by rfl) G.len (by decide +kernel) (pa_cons (pe_fn G.law_values (hr.mono (by decide)) pass0 (by rfl) (pa_cons (pv 6) pa_nil)) pa_nil))))))
        pss_nil))))
    (pss_one (ps_ret (pe_tupS (pa_cons (pv 3) (pa_cons (pe_lc (own := [("_law_spec", 6)]) (g := gName 6) (tt := tYes) rfl sc_law_layout.nd (pi_list (pe_slice sl_listS (pv 3) (po_some pe_int) po_none)) (blkOk_by (N := ["_law_source_here", "_law_most", "_law_limit", "_law_specs", "_law_many", "_law_turn", "_law_spec"]) (sc := defScope s_law_layout) (by decide +kernel)) (fun _ _ _ _ _ => pg_name (i := 6) sc_law_layout.nd rfl (Or.inl rfl)) (fun _ _ _ _ _ => pts_nil) (fun _ _ _ _ _ => (pe_fn G.law_pick (hr.mono (by decide)) pass0 (by rfl) (pa_cons (pv 0) (pa_cons (pe_lstS (pa_cons pe_str (pa_cons pe_str (pa_cons pe_str (pa_cons pe_str (pa_cons pe_str pa_nil)))))) pa_nil))))) pa_nil))))))), ?_⟩
    obtain ⟨a, rfl, st, q⟩ := h
    refine ⟨by show 0 ≤ 1000; decide, fun ps H1 hps S1 e1 => ⟨_, _, rfl, ?_⟩⟩
    have nps : ps ≠ a := st.ne hps
    refine ⟨_, rfl, _, rfl, a, 4, rfl, st.same S1, by decide, by decide, fun d0 H2 h00 h10 B2 st2 => ⟨_, _, rfl, rfl, ?_⟩⟩
    obtain ⟨m, rfl⟩ : ∃ m : Nat, d0 = (m : Int) := ⟨d0.toNat, by omega⟩
    have hm : m < 4 := by omega
    refine ⟨_, rfl, by omega, by omega, ?_⟩
    rw [show ((fun i j : Int => i + j) 1 (m : Int)).toNat = m + 1 by dsimp only; omega]
    refine for_range (n := m + 1) (fun i σ H' => ∃ (v5 v6 : Option V) (vsp : List V) (ds : List FD) (mn : Nat), σ = [some (.ref a), some (.int 4), some (.int 1000000000), some (.ref ps), some (.int (mn : Nat)), v5, v6] ∧ H' ps = some (.lst vsp) ∧ SpsAt a H' vsp ds ∧ (∀ d ∈ ds, DrF d) ∧ ds.length ≤ i ∧ (i ≠ 0 → ds ≠ []) ∧ 1 ≤ mn ∧ mn ≤ 71 ^ i ∧ But a H H' ∧ StAt H' a)
      ⟨_, _, [], [], 1, rfl, B2 _ _ nps e1, ⟨rfl, fun i v d h => (by cases h)⟩, (fun d hd => (by cases hd)), Nat.zero_le _, fun z => absurd rfl z, by decide, by decide, (But.of_same S1).trans B2, st2⟩ ?_ ?_
    · rintro i σ H3 hi ⟨v5, v6, vsp, ds, mn, rfl, es, hS, hD, hl, hne, hm1, hm2, B3, st3⟩
      refine ⟨_, rfl, a, false, rfl, st3, by decide, fun v d H4 hd _ hF B4 st4 => ?_⟩
      have es4 := B4 _ _ nps es
      have hS4 := hS.but B4
      refine ⟨_, rfl, by show 0 ≤ 1000; decide, fun pe H5 hpe S5 e5 => ⟨_, _, .lst (SqL.of (S5 _ _ es4)) (dp_specs hD (hS4.same S5)), .lst (SqL.of e5) .nil, sh_specs hD, by decide +kernel, _, rfl, ?_⟩⟩
      have st5 := st4.same S5
      have hF5 := hF.same S5
      have es5 := S5 _ _ es4
      have hS5 := hS4.same S5
      have p71 : 71 ^ i ≤ 71 ^ 4 := Nat.pow_le_pow_right (by decide) (by omega)
      have p71e : 71 ^ (i + 1) = 71 ^ i * 71 := Nat.pow_succ ..
      have href : ∀ x ∈ vsp, ∃ b, x = .ref b := fun x hx => by
        obtain ⟨k, hk, e⟩ := List.mem_iff_getElem.mp hx
        obtain ⟨d', _, h'⟩ := hS.get (show vsp[k]? = some x by rw [List.getElem?_eq_getElem hk, e])
        exact h'.ref
      have hps0 : H ps = none := hps
      have mulok : ∀ {xs : List V}, VsOk d xs → -(2 ^ 64) < (xs.length : Int) ∧ (xs.length : Int) < 2 ^ 64 := fun ok => by
        have := VsOk.len ok
        omega
      refine ite2 (fun c1 => ?_) (fun c1 => ?_)
      · refine iteT ⟨_, rfl, .inl ⟨rfl, _, SqL.of (es5)⟩, _, rfl, ps, vsp, v, rfl, rfl, es5, by rw [sizeLine_eq, hS.1]; omega, _, rfl, _, rfl, a, v, d, rfl, hF5.put2 (Same.refl _) (es5) href hd, hd, d.dep_lt, fun p2 xs2 H8 hp2 ok2 S8 e8 => ⟨p2, xs2, rfl, .inl (SqL.of e8), _, _, rfl, rfl, .inr (mulok ok2), ?_⟩⟩
        have l2 := VsOk.len ok2
        refine ⟨_, _, vsp ++ [v], ds ++ [d], mn * xs2.length, rfl, S8 _ _ upd_same, ?_, fun x hx => ?_, ?_, fun _ z => ?_, ?_, ?_, ?_, ?_⟩
        · exact ((hS5.put2 (Same.refl _) (es5) href hD).snoc (hF5.put2 (Same.refl _) (es5) href hd)).same S8
        · rcases List.mem_append.mp hx with h | h
          · exact hD x h
          · cases List.mem_singleton.mp h
            exact hd
        · rw [List.length_append]
          exact Nat.succ_le_succ hl
        · have := congrArg List.length z
          rw [List.length_append] at this
          cases this
        · exact Nat.mul_pos hm1 (by omega)
        · rw [p71e]
          exact Nat.mul_le_mul hm2 l2.2
        · exact (but_put0 ((B3.trans B4).trans (But.of_same (S5.trans (Same.refl _)))) hps0).trans (But.of_same S8)
        · exact ((st5.same (Same.refl _)).put nps).same S8
      · have hdne : ds ≠ [] := fun e => by
          rw [e] at c1
          exact c1 rfl
        refine ⟨_, rfl, _, rfl, a, v, d, rfl, hF5, hd, d.dep_lt, fun p xs H6 hp ok S6 e6 => ⟨p, xs, rfl, .inl (SqL.of e6), _, _, rfl, rfl, .inr (mulok ok), _, rfl, _, _, rfl, rfl, _, rfl, ?_⟩⟩
        refine ite2 (fun c2 => ?_) (fun c2 => ?_)
        · refine ⟨_, rfl, .inl ⟨rfl, _, SqL.of (S6 _ _ es5)⟩, _, rfl, ps, vsp, v, rfl, rfl, S6 _ _ es5, by rw [sizeLine_eq, hS.1]; omega, _, rfl, _, rfl, a, v, d, rfl, hF5.put2 (S6) (S6 _ _ es5) href hd, hd, d.dep_lt, fun p2 xs2 H8 hp2 ok2 S8 e8 => ⟨p2, xs2, rfl, .inl (SqL.of e8), _, _, rfl, rfl, .inr (mulok ok2), ?_⟩⟩
          have l2 := VsOk.len ok2
          refine ⟨_, _, vsp ++ [v], ds ++ [d], mn * xs2.length, rfl, S8 _ _ upd_same, ?_, fun x hx => ?_, ?_, fun _ z => ?_, ?_, ?_, ?_, ?_⟩
          · exact ((hS5.put2 (S6) (S6 _ _ es5) href hD).snoc (hF5.put2 (S6) (S6 _ _ es5) href hd)).same S8
          · rcases List.mem_append.mp hx with h | h
            · exact hD x h
            · cases List.mem_singleton.mp h
              exact hd
          · rw [List.length_append]
            exact Nat.succ_le_succ hl
          · have := congrArg List.length z
            rw [List.length_append] at this
            cases this
          · exact Nat.mul_pos hm1 (by omega)
          · rw [p71e]
            exact Nat.mul_le_mul hm2 l2.2
          · exact (but_put0 ((B3.trans B4).trans (But.of_same (S5.trans (S6)))) hps0).trans (But.of_same S8)
          · exact ((st5.same (S6)).put nps).same S8
        · exact ⟨_, _, vsp, ds, mn, rfl, S6 _ _ es5, hS5.same S6, hD, Nat.le_succ_of_le hl, fun _ => hdne, hm1, Nat.le_trans hm2 (by rw [p71e]; exact Nat.le_mul_of_pos_right _ (by decide)), (B3.trans B4).trans (But.of_same (S5.trans S6)), st5.same S6⟩
    · rintro σ H3 ⟨v5, v6, vsp, ds, mn, rfl, es, hS, hD, hl, hne, hm1, hm2, B3, st3⟩
      have hdne := hne (Nat.succ_ne_zero m)
      have hd1 := List.length_pos_iff.mpr hdne
      refine ⟨_, rfl, _, rfl, _, rfl, ps, vsp, rfl, SqL.of es, fun pc Hc hpc Sc ec => ⟨pc, rfl, ⟨_, SqL.of ec⟩, fun D hD2 => ?_⟩⟩
      have npc : pc ≠ a := st3.ne hpc
      have stc := st3.same Sc
      have nD : D ≠ a := stc.ne hD2
      refine lc_list (K := K) (a := pc) (xs := cutV vsp (some 1) none) (fun n J => ∃ js : List Str, js.length = n ∧ (∀ j ∈ js, j ∈ JN) ∧ J D = some (.lst (js.map V.str)) ∧ But a Hc J ∧ StAt J a) ⟨[], rfl, (fun j h => by cases h), upd_same, but_put (But.refl _ _) hD2, stc.put nD⟩ (fun i J hi ⟨_, _, _, _, B, _⟩ => SqL.of (B _ _ npc ec)) ?_ ?_
      · rintro i x J hx ⟨js, hjl, hj, eD, B, stJ⟩
        have hi := (List.getElem?_eq_some_iff.mp hx).1
        have hcl := cutV_length vsp (some 1) none
        have hvl : vsp.length = ds.length := hS.1
        refine ⟨rfl, _, rfl, by show 5 ≤ 1000; decide, fun p5 H5 hp5 S5 e5 => ⟨a, p5, (["", "", "", "!", "~"] : List Str).map V.str, rfl, stJ.same S5, stJ.ne hp5, e5, by decide, by decide, fun v G hv BG stG => ?_⟩⟩
        obtain ⟨j, hjm, rfl⟩ := List.mem_map.mp hv
        have eG := BG _ _ nD (S5 _ _ eD)
        refine ⟨_, eG, by rw [List.length_map, sizeLine_eq]; omega, js ++ [j], by rw [List.length_append, hjl]; rfl, fun k hk => ?_, by rw [upd_same, List.map_append]; rfl, but_put ((B.trans (But.of_same S5)).trans BG) hD2, stG.put nD⟩
        rcases List.mem_append.mp hk with h | h
        · exact hj k h
        · cases List.mem_singleton.mp h
          exact joints_jn j hjm
      · rintro J ⟨js, hjl, hj, eD, B, stJ⟩
        refine ⟨by show 2 ≤ 1000; decide, fun T HT hT ST eT => ?_⟩
        have hcl : (cutV vsp (some 1) none).length = ds.length - 1 := by rw [cut_tail, hS.1]
        rw [hcl] at hjl
        have BT := B.trans (But.of_same ST)
        exact q T ps D vsp ds js HT (stJ.ne hT) hps (none_but nD (B3.trans (But.of_same Sc)) hD2) ⟨nps, nD, BT _ _ nps (Sc _ _ es), (hS.same Sc).but BT, ST _ _ eD, hD, ⟨by omega, hdne, by omega, hj⟩⟩ (by omega) eT ((B3.trans (But.of_same Sc)).trans BT) (stJ.same ST)

end
end L2.K76

set_option Elab.async false
set_option linter.all false
set_option maxRecDepth 100000
set_option maxHeartbeats 4000000
/-! Rows with a separator at each joint have texts of their own; data that are equal are the same. -/
namespace L2.K76
open PySem PySem.W PySem.Spec PySem.Calls PyProof.Rows L2.Jk
/-! ### texts of values -/
def noB (t : Str) : Prop := (33 : Nat) ∉ t.cps.toList
instance (t : Str) : Decidable (noB t) := inferInstanceAs (Decidable (¬ _))
theorem dg_facts : ∀ n ∈ List.range 400, noB (dg (n : Nat)) ∧ PySem.intText? (dg (n : Nat)) = some ((n : Nat) : Int) := by decide +kernel
theorem zf_facts : ∀ n ∈ List.range 10, noB (Txt.zfill (dg (n : Nat)) 1) ∧ PySem.intText? (Txt.zfill (dg (n : Nat)) 1) = some ((n : Nat) : Int) := by decide +kernel
theorem z_facts : (∀ z ∈ wordZ, noB z ∧ ∀ c ∈ z.cps.toList, c < 200) ∧ (∀ z ∈ endZ, noB z ∧ ∀ c ∈ z.cps.toList, c < 200) ∧ (∀ e ∈ endE, noB e) ∧ (∀ t ∈ nines, noB t ∧ ∀ c ∈ t.cps.toList, c < 200) ∧ (∀ n ∈ marks, noB n) ∧ noB "M" := by decide +kernel
theorem noB_app {a b : Str} (h : noB a) (k : noB b) : noB (a ++ b) := fun z => by
  have e : (a ++ b).cps.toList = a.cps.toList ++ b.cps.toList := by
    show (a.cps ++ b.cps).toList = _
    simp
  rw [e] at z
  exact (List.mem_append.mp z).elim h k
theorem noB_lay {z t : Str} {i : Nat} (h : noB z) (m : t ∈ lay z i) : noB t := fun k => h (lay_chars m _ k)
theorem app_list (a b : Str) : (a ++ b).cps.toList = a.cps.toList ++ b.cps.toList := by
  show (a.cps ++ b.cps).toList = _
  simp
theorem app_inj {a b c : Str} (h : a ++ c = b ++ c) : a = b := by
  have e := congrArg (fun s : Str => s.cps.toList) h
  simp only [app_list] at e
  exact str_ext (List.append_cancel_right e)
theorem app_inj2 {a b c : Str} (h : c ++ a = c ++ b) : a = b := by
  have e := congrArg (fun s : Str => s.cps.toList) h
  simp only [app_list] at e
  exact str_ext (List.append_cancel_left e)
theorem num_small {l m n : Nat} (hd : Dr (.number (.int (l : Nat)) (.int (m : Nat)))) (h : n ≤ m) : n < 400 := by
  generalize em : (V.int (m : Nat)) = M at hd
  cases hd with
  | @number l j a b =>
    have h1 := num_le.1 l a
    have h2 := num_le.2 j b
    injection em with em
    omega
theorem lst_mem {ts ts2 : List Str} {t : Str} (e : LX.lst (ts.map V.str) = LX.lst (ts2.map V.str)) (h : t ∈ ts) : t ∈ ts2 := by
  injection e with e
  have z : V.str t ∈ ts2.map V.str := e ▸ List.mem_map.mpr ⟨t, h, rfl⟩
  obtain ⟨u, hu, e⟩ := List.mem_map.mp z
  injection e with e
  exact e ▸ hu
theorem Vl.noB {d : PD} {v : V} (hd : Dr d) (h : Vl d v) : noB (d.textF v) := by
  obtain ⟨z1, z2, z3, z4, z5, z6⟩ := z_facts
  cases h with
  | @word z l m e i t h1 h2 h3 =>
    generalize em : (V.int (m : Nat)) = M at hd
    cases hd with
    | word a b c => exact noB_lay (z1 _ a).1 h3
  | @ended z l m e i t h1 h2 h3 =>
    generalize em : (V.int (m : Nat)) = M at hd
    cases hd with
    | ended a b c f => exact noB_app (noB_lay (z2 _ a).1 h3) (z3 _ b)
  | @number l m n h1 h2 => exact (dg_facts n (List.mem_range.mpr (num_small hd h2))).1
  | @fixed n h => exact (zf_facts n (List.mem_range.mpr h)).1
  | @listed ts t h =>
    generalize ex : (LX.lst (ts.map V.str)) = X at hd
    cases hd with
    | @listed ts2 a b c e => exact (z4 t (b t (lst_mem ex h))).1
theorem Vl.inj {d : PD} {v u : V} (hd : Dr d) (h : Vl d v) (k : Vl d u) (e : d.textF v = d.textF u) : v = u := by
  cases h with
  | @word z l m e0 i t h1 h2 h3 =>
    generalize em : (V.int (m : Nat)) = M at k
    cases k with
    | word => exact congrArg V.str e
  | @ended z l m e0 i t h1 h2 h3 =>
    generalize em : (V.int (m : Nat)) = M at k
    cases k with
    | ended => exact congrArg V.str (app_inj e)
  | @number l m n h1 h2 =>
    generalize em : (V.int (m : Nat)) = M at k hd
    generalize el : (V.int (l : Nat)) = L at k hd
    cases k with
    | @number l' m' n' k1 k2 =>
      injection em with em
      injection el with el
      obtain rfl : m = m' := by omega
      obtain rfl : l = l' := by omega
      have e1 := (dg_facts n (List.mem_range.mpr (num_small hd h2))).2
      have e2 := (dg_facts n' (List.mem_range.mpr (num_small hd k2))).2
      have e3 : dg (n : Nat) = dg (n' : Nat) := e
      rw [e3, e2] at e1
      injection e1 with e1
      exact congrArg V.int e1.symm
  | @fixed n h =>
    cases k with
    | @fixed n' k =>
      have e1 := (zf_facts n (List.mem_range.mpr h)).2
      have e2 := (zf_facts n' (List.mem_range.mpr k)).2
      have e3 : Txt.zfill (dg (n : Nat)) 1 = Txt.zfill (dg (n' : Nat)) 1 := e
      rw [e3, e2] at e1
      injection e1 with e1
      exact congrArg V.int e1.symm
  | @listed ts t h =>
    generalize ex : (LX.lst (ts.map V.str)) = X at k
    cases k with
    | listed => exact congrArg V.str e
theorem Vl.ne_non {d : PD} {v : V} (h : Vl d v) : v ≠ .non := by
  cases h <;> exact fun z => by cases z
theorem mk_text {n m : V} {d : PD} {v : V} (h : v ≠ .non) : FD.textF v (.mk n m d) = strV m ++ d.textF v := by
  show (if decide (v = .non) = true then strV n else strV m ++ d.textF v) = _
  rw [decide_eq_false h]
  rfl
theorem VlF.noB {d : FD} {v : V} (hd : DrF d) (h : VlF d v) : noB (d.textF v) := by
  obtain ⟨z1, z2, z3, z4, z5, z6⟩ := z_facts
  cases h with
  | pl h =>
    cases hd with
    | pl hd => exact h.noB hd
  | @non n m d =>
    cases hd with
    | @mk n d hn hd => exact z5 n hn
  | @mk n m d v h =>
    cases hd with
    | @mk n d hn hd =>
      rw [mk_text h.ne_non]
      exact noB_app z6 (h.noB hd)
theorem mark_ne : ∀ n ∈ marks, ∃ c, n.cps.toList = [c] ∧ c ≠ 77 := by
  have z : ∀ n ∈ marks, n.cps.toList = [n.cps.getD 0 0] ∧ n.cps.getD 0 0 ≠ 77 := by decide +kernel
  exact fun n h => ⟨_, z n h⟩
theorem VlF.inj {d : FD} {v u : V} (hd : DrF d) (h : VlF d v) (k : VlF d u) (e : d.textF v = d.textF u) : v = u := by
  have cross : ∀ {n : Str} {d : PD} {v : V}, n ∈ marks → Vl d v → n ≠ ("M" : Str) ++ d.textF v := fun {n d v} hn hv z => by
    obtain ⟨c, e1, e2⟩ := mark_ne n hn
    have e3 := congrArg (fun s : Str => s.cps.toList) z
    simp only [app_list] at e3
    rw [e1, show ("M" : Str).cps.toList = [77] by decide +kernel] at e3
    injection e3 with e3
    exact e2 e3
  cases h with
  | pl h =>
    cases hd with
    | pl hd =>
      cases k with
      | pl k => exact h.inj hd k e
  | @non n m d =>
    cases hd with
    | @mk n d hn hd =>
      cases k with
      | non => rfl
      | mk k =>
        rw [mk_text k.ne_non] at e
        exact absurd e (cross hn k)
  | @mk n m d v h =>
    cases hd with
    | @mk n d hn hd =>
      cases k with
      | non =>
        rw [mk_text h.ne_non] at e
        exact absurd e.symm (cross hn h)
      | mk k =>
        rw [mk_text h.ne_non, mk_text k.ne_non] at e
        exact h.inj hd k (app_inj2 e)
/-! ### rows -/
theorem split33 : ∀ (u v a b : List Nat), 33 ∉ u → 33 ∉ v → u ++ 33 :: a = v ++ 33 :: b → u = v ∧ a = b
  | [], [], a, b, _, _, h => by
    injection h with _ h
    exact ⟨rfl, h⟩
  | [], y :: v, a, b, _, k, h => by
    injection h with h _
    exact absurd (List.mem_cons.mpr (.inl h)) k
  | x :: u, [], a, b, k, _, h => by
    injection h with h _
    exact absurd (List.mem_cons.mpr (.inl h.symm)) k
  | x :: u, y :: v, a, b, k1, k2, h => by
    injection h with h1 h2
    obtain ⟨e1, e2⟩ := split33 u v a b (fun z => k1 (List.mem_cons_of_mem _ z)) (fun z => k2 (List.mem_cons_of_mem _ z)) h2
    exact ⟨by rw [h1, e1], e2⟩
theorem split33r {u v a b : List Nat} (hu : 33 ∉ u) (hv : 33 ∉ v) (h : (a ++ [33]) ++ u = (b ++ [33]) ++ v) : u = v ∧ a = b := by
  have h2 := congrArg List.reverse h
  simp only [List.reverse_append, List.reverse_cons, List.reverse_nil, List.nil_append, List.append_assoc, List.cons_append] at h2
  obtain ⟨e1, e2⟩ := split33 u.reverse v.reverse a.reverse b.reverse (fun z => hu (List.mem_reverse.mp z)) (fun z => hv (List.mem_reverse.mp z)) h2
  exact ⟨List.reverse_inj.mp e1, List.reverse_inj.mp e2⟩
theorem join_list (f : Nat → Str) : ∀ n, (Txt.join "" ((List.range n).map f)).cps.toList = ((List.range n).map fun i => (f i).cps.toList).flatten
  | 0 => rfl
  | n + 1 => by
    rw [List.range_succ, List.map_append, List.map_append, List.flatten_append]
    show (Txt.join "" (_ ++ [f n])).cps.toList = _
    rw [glue_snoc, app_list, join_list f n]
    simp
/-- with a separator behind each but the last -/
theorem bang_inj (f g : Nat → List Nat) : ∀ (n : Nat) (u v : List Nat), (∀ i, i < n → 33 ∉ f i) → (∀ i, i < n → 33 ∉ g i) → 33 ∉ u → 33 ∉ v →
    ((List.range n).map fun i => f i ++ [33]).flatten ++ u = ((List.range n).map fun i => g i ++ [33]).flatten ++ v → u = v ∧ ∀ i, i < n → f i = g i
  | 0, u, v, _, _, _, _, h => ⟨by simpa using h, fun i hi => absurd hi (Nat.not_lt_zero _)⟩
  | n + 1, u, v, hf, hg, hu, hv, h => by
    rw [List.range_succ, List.map_append, List.map_append, List.flatten_append, List.flatten_append] at h
    simp only [List.map_cons, List.map_nil, List.flatten_cons, List.flatten_nil, List.append_nil, ← List.append_assoc] at h
    obtain ⟨e1, e2⟩ := split33r hu hv h
    obtain ⟨e3, e4⟩ := bang_inj f g n _ _ (fun i hi => hf i (by omega)) (fun i hi => hg i (by omega)) (hf n (by omega)) (hg n (by omega)) e2
    refine ⟨e1, fun i hi => ?_⟩
    rcases Nat.lt_or_ge i n with k | k
    · exact e4 i k
    · rw [show i = n by omega]
      exact e3
theorem row_inj {ds : List FD} {xs ys : List V} (hd : ∀ d ∈ ds, DrF d) (h0 : ds ≠ []) (hx : RwOk ds xs) (hy : RwOk ds ys) (e : rowText ds (List.replicate (ds.length - 1) "!") xs = rowText ds (List.replicate (ds.length - 1) "!") ys) : xs = ys := by
  have hp := List.length_pos_iff.mpr h0
  obtain ⟨n, hn⟩ : ∃ n, ds.length = n + 1 := ⟨ds.length - 1, by omega⟩
  have hjs : (List.replicate (ds.length - 1) ("!" : Str) ++ [("" : Str)]).length = ds.length := by rw [List.length_append, List.length_replicate]; show ds.length - 1 + 1 = _; omega
  let T (zs : List V) (i : Nat) : List Nat := match ds[i]?, zs[i]? with
    | some d, some x => (d.textF x).cps.toList
    | _, _ => []
  have pc : ∀ zs, RwOk ds zs → ∀ i, i < n → (piece ds (List.replicate (ds.length - 1) "!") zs i).cps.toList = T zs i ++ [33] := fun zs hz i hi => by
    obtain ⟨d, hdd⟩ : ∃ d, ds[i]? = some d := ⟨_, List.getElem?_eq_getElem (by omega)⟩
    obtain ⟨x, hxx⟩ : ∃ x, zs[i]? = some x := ⟨_, List.getElem?_eq_getElem (by rw [hz.1]; omega)⟩
    have hj : (List.replicate (ds.length - 1) ("!" : Str) ++ [("" : Str)])[i]? = some ("!" : Str) := by
      rw [List.getElem?_append_left (by rw [List.length_replicate]; omega), List.getElem?_replicate, if_pos (by omega)]
    unfold piece
    show _ = (match ds[i]?, zs[i]? with
      | some d, some x => (d.textF x).cps.toList
      | _, _ => []) ++ [33]
    rw [hdd, hxx, hj]
    show (d.textF x ++ "!").cps.toList = _
    rw [app_list]
    rfl
  have pl : ∀ zs, RwOk ds zs → (piece ds (List.replicate (ds.length - 1) "!") zs n).cps.toList = T zs n := fun zs hz => by
    obtain ⟨d, hdd⟩ : ∃ d, ds[n]? = some d := ⟨_, List.getElem?_eq_getElem (by omega)⟩
    obtain ⟨x, hxx⟩ : ∃ x, zs[n]? = some x := ⟨_, List.getElem?_eq_getElem (by rw [hz.1]; omega)⟩
    have hj : (List.replicate (ds.length - 1) ("!" : Str) ++ [("" : Str)])[n]? = some ("" : Str) := by
      rw [List.getElem?_append_right (by rw [List.length_replicate]; omega), List.length_replicate, show n - (ds.length - 1) = 0 by omega]
      rfl
    unfold piece
    show _ = (match ds[n]?, zs[n]? with
      | some d, some x => (d.textF x).cps.toList
      | _, _ => [])
    rw [hdd, hxx, hj]
    show (d.textF x ++ "").cps.toList = _
    rw [add_empty]
  have rt : ∀ zs, RwOk ds zs → (rowText ds (List.replicate (ds.length - 1) "!") zs).cps.toList = ((List.range n).map fun i => T zs i ++ [33]).flatten ++ T zs n := fun zs hz => by
    show (Txt.join "" ((List.range ds.length).map (piece ds _ zs))).cps.toList = _
    rw [join_list, hn, List.range_succ, List.map_append, List.flatten_append]
    have e1 : (List.range n).map (fun i => (piece ds (List.replicate (n + 1 - 1) "!") zs i).cps.toList) = (List.range n).map fun i => T zs i ++ [33] := List.map_congr_left fun i hi => by
      have z := pc zs hz i (List.mem_range.mp hi)
      rw [hn] at z
      exact z
    have e2 := pl zs hz
    rw [hn] at e2
    rw [e1]
    show _ ++ ([(piece ds (List.replicate (n + 1 - 1) "!") zs n).cps.toList]).flatten = _
    rw [e2]
    simp
  have nb : ∀ zs, RwOk ds zs → ∀ i, 33 ∉ T zs i := fun zs hz i => by
    show 33 ∉ (match ds[i]?, zs[i]? with
      | some d, some x => (d.textF x).cps.toList
      | _, _ => [])
    cases e1 : ds[i]? with
    | none => exact List.not_mem_nil
    | some d =>
      cases e2 : zs[i]? with
      | none => exact List.not_mem_nil
      | some x => exact (hz.2 i d x e1 e2).noB (hd d (List.mem_of_getElem? e1))
  have el := congrArg (fun s : Str => s.cps.toList) e
  simp only [rt xs hx, rt ys hy] at el
  obtain ⟨l1, l2⟩ := bang_inj (T xs) (T ys) n _ _ (fun i _ => nb xs hx i) (fun i _ => nb ys hy i) (nb xs hx n) (nb ys hy n) el
  refine List.ext_getElem? fun i => ?_
  rcases Nat.lt_or_ge i (n + 1) with k | k
  · obtain ⟨d, hdd⟩ : ∃ d, ds[i]? = some d := ⟨_, List.getElem?_eq_getElem (by omega)⟩
    obtain ⟨x, hxx⟩ : ∃ x, xs[i]? = some x := ⟨_, List.getElem?_eq_getElem (by rw [hx.1]; omega)⟩
    obtain ⟨y, hyy⟩ : ∃ x, ys[i]? = some x := ⟨_, List.getElem?_eq_getElem (by rw [hy.1]; omega)⟩
    have et : T xs i = T ys i := by
      rcases Nat.lt_or_ge i n with k2 | k2
      · exact l2 i k2
      · rw [show i = n by omega]
        exact l1
    have et2 : (match ds[i]?, xs[i]? with
      | some d, some x => (d.textF x).cps.toList
      | _, _ => []) = (match ds[i]?, ys[i]? with
      | some d, some x => (d.textF x).cps.toList
      | _, _ => []) := et
    rw [hdd, hxx, hyy] at et2
    rw [hxx, hyy, (hx.2 i d x hdd hxx).inj (hd d (List.mem_of_getElem? hdd)) (hy.2 i d y hdd hyy) (str_ext et2)]
  · rw [List.getElem?_eq_none (by rw [hx.1]; omega), List.getElem?_eq_none (by rw [hy.1]; omega)]
/-! ### data without truth values -/
mutual
def nbD : PyData → Bool
  | .bool _ => false
  | .dict _ => false
  | .list xs => nbA xs
  | .tuple xs => nbA xs
  | _ => true
def nbA : List PyData → Bool
  | [] => true
  | x :: xs => nbD x && nbA xs
end
mutual
theorem eqv_eq : ∀ (a b : PyData), nbD a = true → nbD b = true → PyData.eqv a b = true → a = b
  | .none, .none, _, _, _ => rfl
  | .int i, .int j, _, _, h => by
    have h : (i == j) = true := by simpa [PyData.eqv] using h
    rw [beq_iff_eq.mp h]
  | .str x, .str y, _, _, h => by
    have h : (x == y) = true := by simpa [PyData.eqv] using h
    rw [beq_iff_eq.mp h]
  | .list xs, .list ys, k1, k2, h => by rw [eqvAll_eq xs ys (by simpa [nbD] using k1) (by simpa [nbD] using k2) (by simpa [PyData.eqv] using h)]
  | .tuple xs, .tuple ys, k1, k2, h => by rw [eqvAll_eq xs ys (by simpa [nbD] using k1) (by simpa [nbD] using k2) (by simpa [PyData.eqv] using h)]
  | .bool _, _, k, _, _ => by simp [nbD] at k
  | .dict _, _, k, _, _ => by simp [nbD] at k
  | .none, .bool _, _, k, _ => by simp [nbD] at k
  | .none, .int _, _, _, h => by simp [PyData.eqv] at h
  | .none, .str _, _, _, h => by simp [PyData.eqv] at h
  | .none, .list _, _, _, h => by simp [PyData.eqv] at h
  | .none, .tuple _, _, _, h => by simp [PyData.eqv] at h
  | .none, .dict _, _, k, _ => by simp [nbD] at k
  | .int _, .none, _, _, h => by simp [PyData.eqv] at h
  | .int _, .bool _, _, k, _ => by simp [nbD] at k
  | .int _, .str _, _, _, h => by simp [PyData.eqv] at h
  | .int _, .list _, _, _, h => by simp [PyData.eqv] at h
  | .int _, .tuple _, _, _, h => by simp [PyData.eqv] at h
  | .int _, .dict _, _, k, _ => by simp [nbD] at k
  | .str _, .none, _, _, h => by simp [PyData.eqv] at h
  | .str _, .bool _, _, k, _ => by simp [nbD] at k
  | .str _, .int _, _, _, h => by simp [PyData.eqv] at h
  | .str _, .list _, _, _, h => by simp [PyData.eqv] at h
  | .str _, .tuple _, _, _, h => by simp [PyData.eqv] at h
  | .str _, .dict _, _, k, _ => by simp [nbD] at k
  | .list _, .none, _, _, h => by simp [PyData.eqv] at h
  | .list _, .bool _, _, k, _ => by simp [nbD] at k
  | .list _, .int _, _, _, h => by simp [PyData.eqv] at h
  | .list _, .str _, _, _, h => by simp [PyData.eqv] at h
  | .list _, .tuple _, _, _, h => by simp [PyData.eqv] at h
  | .list _, .dict _, _, k, _ => by simp [nbD] at k
  | .tuple _, .none, _, _, h => by simp [PyData.eqv] at h
  | .tuple _, .bool _, _, k, _ => by simp [nbD] at k
  | .tuple _, .int _, _, _, h => by simp [PyData.eqv] at h
  | .tuple _, .str _, _, _, h => by simp [PyData.eqv] at h
  | .tuple _, .list _, _, _, h => by simp [PyData.eqv] at h
  | .tuple _, .dict _, _, k, _ => by simp [nbD] at k
theorem eqvAll_eq : ∀ (xs ys : List PyData), nbA xs = true → nbA ys = true → PyData.eqvAll xs ys = true → xs = ys
  | [], [], _, _, _ => rfl
  | [], _ :: _, _, _, h => by simp [PyData.eqvAll] at h
  | _ :: _, [], _, _, h => by simp [PyData.eqvAll] at h
  | x :: xs, y :: ys, k1, k2, h => by
    have a1 : nbD x = true ∧ nbA xs = true := by simpa [nbA] using k1
    have a2 : nbD y = true ∧ nbA ys = true := by simpa [nbA] using k2
    have a3 : PyData.eqv x y = true ∧ PyData.eqvAll xs ys = true := by simpa [PyData.eqvAll] using h
    rw [eqv_eq x y a1.1 a2.1 a3.1, eqvAll_eq xs ys a1.2 a2.2 a3.2]
end
end L2.K76

set_option Elab.async false
set_option linter.all false
set_option maxRecDepth 100000
set_option maxHeartbeats 4000000
/-! The law's plans: a store, and what the law itself keeps. -/
namespace L2.K76
open PySem PySem.W PySem.Spec PySem.Calls PyProof.Rows L2.Jk
/-! ### data of fields and rows -/
def unV : PyData → V
  | .str z => .str z
  | _ => .non
def undP : PyData → Option PD
  | .tuple [.str _, .str z, .int l, .int m] => some (.word (.str z) (.int l) (.int m))
  | .tuple [.str _, .int l, .int m] => some (.number (.int l) (.int m))
  | .tuple [.str _, .int w] => some (.fixed (.int w))
  | .tuple [.str _, .list xs] => some (.listed (.lst (xs.map unV)))
  | .tuple [.str _, .str z, .str e, .int l, .int m] => some (.ended (.str z) (.str e) (.int l) (.int m))
  | _ => none
def undF : PyData → Option FD
  | .tuple [.str _, .str n, .str m, .tuple xs] => (undP (.tuple xs)).map (FD.mk (.str n) (.str m))
  | d => (undP d).map FD.pl
theorem undP_ok {d : PD} (h : Dr d) : undP (datP d) = some d := by
  cases h with
  | word a b c => rfl
  | number a b => rfl
  | fixed => rfl
  | @listed ts a b c e =>
    show some (PD.listed (.lst (((ts.map V.str).map dV).map unV))) = _
    rw [List.map_map, List.map_map]
    rfl
  | ended a b c e => rfl
theorem undF_ok {d : FD} (h : DrF d) : undF (datF d) = some d := by
  cases h with
  | pl h =>
    have z := undP_ok h
    cases h with
    | word a b c => rfl
    | number a b => rfl
    | fixed => rfl
    | @listed ts a b c e =>
      show (undP (datP (.listed (.lst (ts.map V.str))))).map FD.pl = _
      rw [z]
      rfl
    | ended a b c e => rfl
  | @mk n d hn h =>
    have z := undP_ok h
    obtain ⟨xs, e⟩ : ∃ xs, datP d = .tuple xs := by cases d <;> exact ⟨_, rfl⟩
    show undF (.tuple [.str "marked", .str n, .str "M", datP d]) = _
    rw [e] at z ⊢
    show (undP (.tuple xs)).map _ = _
    rw [z]
    rfl
theorem specs_inj : ∀ {ds es : List FD}, (∀ d ∈ ds, DrF d) → (∀ d ∈ es, DrF d) → ds.map datF = es.map datF → ds = es
  | [], [], _, _, _ => rfl
  | [], _ :: _, _, _, h => by cases h
  | _ :: _, [], _, _, h => by cases h
  | d :: ds, e :: es, h1, h2, h => by
    rw [List.map_cons, List.map_cons] at h
    injection h with h3 h4
    have z := congrArg undF h3
    rw [undF_ok (h1 d (List.mem_cons_self ..)), undF_ok (h2 e (List.mem_cons_self ..))] at z
    rw [Option.some.inj z, specs_inj (fun x hx => h1 x (List.mem_cons_of_mem _ hx)) (fun x hx => h2 x (List.mem_cons_of_mem _ hx)) h4]
theorem nb_strs : ∀ ts : List Str, nbA ((ts.map V.str).map dV) = true
  | [] => rfl
  | _ :: ts => by
    show (true && nbA ((ts.map V.str).map dV)) = true
    rw [nb_strs ts]
    rfl
theorem nb_pd {d : PD} (h : Dr d) : nbD (datP d) = true := by
  cases h with
  | word a b c => rfl
  | number a b => rfl
  | fixed => rfl
  | @listed ts a b c e =>
    show (true && (nbA ((ts.map V.str).map dV) && true)) = true
    rw [nb_strs]
    rfl
  | ended a b c e => rfl
theorem nb_fd {d : FD} (h : DrF d) : nbD (datF d) = true := by
  cases h with
  | pl h => exact nb_pd h
  | @mk n d hn h =>
    show (true && (true && (true && (nbD (datP d) && true)))) = true
    rw [nb_pd h]
    rfl
theorem nb_specs : ∀ {ds : List FD}, (∀ d ∈ ds, DrF d) → nbA (ds.map datF) = true
  | [], _ => rfl
  | d :: ds, h => by
    show (nbD (datF d) && nbA (ds.map datF)) = true
    rw [nb_fd (h d (List.mem_cons_self ..)), nb_specs fun x hx => h x (List.mem_cons_of_mem _ hx)]
    rfl
theorem specs_eqv {ds es : List FD} (h1 : ∀ d ∈ ds, DrF d) (h2 : ∀ d ∈ es, DrF d) (h : PyData.eqv (.list (ds.map datF)) (.list (es.map datF)) = true) : ds = es := by
  have z := eqv_eq _ _ (show nbD (.list (ds.map datF)) = true from nb_specs h1) (show nbD (.list (es.map datF)) = true from nb_specs h2) h
  injection z with z
  exact specs_inj h1 h2 z
theorem strOk_of {t : Str} (h : ∀ c ∈ t.cps.toList, c < 200) : (PyData.str t).canLay0 = true := by
  show PySem.PyData.canLay0 (.str t) = true
  unfold PyData.canLay0
  show (t.cps.all (· < 0x110000)) = true
  rw [Array.all_eq_true]
  intro i hi
  have z := h t.cps[i] (by simp)
  exact decide_eq_true (by omega)
theorem Vl.lay {d : PD} {v : V} (hd : Dr d) (h : Vl d v) : (dV v).canLay0 = true ∧ (dV v).depth = 0 := by
  obtain ⟨z1, z2, z3, z4, z5, z6⟩ := z_facts
  cases h with
  | @word z l m e i t h1 h2 h3 =>
    generalize em : (V.int (m : Nat)) = M at hd
    cases hd with
    | word a b c => exact ⟨strOk_of fun c hc => (z1 _ a).2 c (lay_chars h3 c hc), rfl⟩
  | @ended z l m e i t h1 h2 h3 =>
    generalize em : (V.int (m : Nat)) = M at hd
    cases hd with
    | ended a b c f => exact ⟨strOk_of fun c hc => (z2 _ a).2 c (lay_chars h3 c hc), rfl⟩
  | number h1 h2 => exact ⟨rfl, rfl⟩
  | fixed h => exact ⟨rfl, rfl⟩
  | @listed ts t h =>
    generalize ex : (LX.lst (ts.map V.str)) = X at hd
    cases hd with
    | @listed ts2 a b c e => exact ⟨strOk_of (z4 t (b t (lst_mem ex h))).2, rfl⟩
theorem VlF.lay {d : FD} {v : V} (hd : DrF d) (h : VlF d v) : (dV v).canLay0 = true ∧ (dV v).depth = 0 := by
  cases h with
  | pl h =>
    cases hd with
    | pl hd => exact h.lay hd
  | non => exact ⟨rfl, rfl⟩
  | mk h =>
    cases hd with
    | mk hn hd => exact h.lay hd
theorem RwOk.mem {ds : List FD} {xs : List V} (h : RwOk ds xs) {x : V} (hx : x ∈ xs) : ∃ d ∈ ds, VlF d x := by
  obtain ⟨i, hi, e⟩ := List.mem_iff_getElem.mp hx
  have ed := List.getElem?_eq_getElem (show i < ds.length by rw [← h.1]; exact hi)
  exact ⟨_, List.mem_of_getElem? ed, h.2 i _ x ed (by rw [List.getElem?_eq_getElem hi, e])⟩
theorem lay_flats : ∀ {xs : List V}, (∀ x ∈ xs, (dV x).canLay0 = true ∧ (dV x).depth = 0) → PyData.canLayAll0 (xs.map dV) = true ∧ PyData.depthAll (xs.map dV) = 0
  | [], _ => ⟨rfl, rfl⟩
  | x :: xs, h => by
    obtain ⟨a, b⟩ := lay_flats fun y hy => h y (List.mem_cons_of_mem _ hy)
    obtain ⟨c, d⟩ := h x (List.mem_cons_self ..)
    refine ⟨and_t c a, ?_⟩
    show max (dV x).depth (PyData.depthAll (xs.map dV)) = 0
    rw [b, d]
    rfl
def dE (e : List V × Int) : PyData := .tuple [.tuple (e.1.map dV), .int e.2]
theorem lay_ents {ds : List FD} (hd : ∀ d ∈ ds, DrF d) : ∀ {es : List (List V × Int)}, (∀ e ∈ es, RwOk ds e.1) → PyData.canLayAll0 (es.map dE) = true ∧ PyData.depthAll (es.map dE) ≤ 2
  | [], _ => ⟨rfl, by decide⟩
  | e :: es, h => by
    obtain ⟨a, b⟩ := lay_ents hd fun y hy => h y (List.mem_cons_of_mem _ hy)
    obtain ⟨c1, c2⟩ := lay_flats (xs := e.1) fun x hx => by
      obtain ⟨d, hdm, hv⟩ := (h e (List.mem_cons_self ..)).mem hx
      exact hv.lay (hd d hdm)
    refine ⟨and_t (and_t c1 rfl) a, Nat.max_le.mpr ⟨?_, b⟩⟩
    show max (PyData.depthAll (e.1.map dV) + 1) (max 0 0) + 1 ≤ 2
    rw [c2]
    decide
theorem sh_ents {ds : List FD} (hd : ∀ d ∈ ds, DrF d) {es : List (List V × Int)} (h : ∀ e ∈ es, RwOk ds e.1) : SeqAt.shaped (.list (es.map dE)) = true := by
  obtain ⟨a, b⟩ := lay_ents hd h
  refine Bool.and_eq_true_iff.mpr ⟨a, decide_eq_true ?_⟩
  show PyData.depthAll (es.map dE) + 1 ≤ 64
  omega
theorem dp_flats {K : Frag} {H : Hp} : ∀ {xs : List V}, (∀ x ∈ xs, flatV x = true) → DpAll K H xs (xs.map dV)
  | [], _ => .nil
  | x :: xs, h => .cons (dp_flat (h x (List.mem_cons_self ..))) (dp_flats fun y hy => h y (List.mem_cons_of_mem _ hy))
theorem Ent.dp {K : Frag} {H : Hp} {v : V} {e : List V × Int} (h : Ent H v e) (hf : ∀ x ∈ e.1, flatV x = true) : Dp K H v (dE e) := by
  obtain ⟨r, rr, rfl, a, b⟩ := h
  exact .tup (SqT.of a) (.cons (.tup (SqT.of b) (dp_flats hf)) (.cons (.int _) .nil))
theorem dp_ents {K : Frag} {H : Hp} : ∀ {us : List V} {es : List (List V × Int)}, us.length = es.length → (∀ (k : Nat) v e, us[k]? = some v → es[k]? = some e → Ent H v e ∧ ∀ x ∈ e.1, flatV x = true) → DpAll K H us (es.map dE)
  | [], [], _, _ => .nil
  | [], _ :: _, h, _ => by cases h
  | _ :: _, [], h, _ => by cases h
  | u :: us, e :: es, hl, h => .cons ((h 0 u e rfl rfl).1.dp (h 0 u e rfl rfl).2) (dp_ents (Nat.succ.inj hl) fun k v x a b => h (k + 1) v x a b)
theorem LsIs.dp {K : Frag} {H : Hp} {us : List V} {ts : List Str} {es : List (List V × Int)} {m : Mp} {ds : List FD} (h : LsIs H us ts m) (he : Ents m ts es) (hd : ∀ d ∈ ds, DrF d) (hr : ∀ e ∈ es, RwOk ds e.1) : DpAll K H us (es.map dE) := by
  refine dp_ents (by rw [h.1, he.1]) fun k v e hv hk => ?_
  obtain ⟨t, ht⟩ : ∃ t, ts[k]? = some t := ⟨_, List.getElem?_eq_getElem (by have := (List.getElem?_eq_some_iff.mp hv).1; have := h.1; omega)⟩
  obtain ⟨e', he', hm⟩ := he.2 k t ht
  rw [hk] at he'
  cases he'
  obtain ⟨e2, hm2, hE⟩ := h.2 k v t hv ht
  rw [hm] at hm2
  cases hm2
  refine ⟨hE, fun x hx => ?_⟩
  obtain ⟨d, hdm, hvl⟩ := (hr e (List.mem_of_getElem? hk)).mem hx
  exact (hvl.ok (hd d hdm)).flat
/-- a good row -/
theorem row_due {ds : List FD} {xs : List V} (hd : ∀ d ∈ ds, DrF d) (h : RwOk ds xs) : rowDue ds (some xs) = none := by
  show ((List.range (max xs.length ds.length)).find? (badAt ds xs)).map _ = none
  rw [List.find?_eq_none.mpr]
  · rfl
  · intro i hi
    rw [List.mem_range, h.1, Nat.max_self] at hi
    obtain ⟨d, hdd⟩ : ∃ d, ds[i]? = some d := ⟨_, List.getElem?_eq_getElem hi⟩
    obtain ⟨x, hxx⟩ : ∃ x, xs[i]? = some x := ⟨_, List.getElem?_eq_getElem (by rw [h.1]; exact hi)⟩
    have hv := (h.2 i d x hdd hxx).ok (hd d (List.mem_of_getElem? hdd))
    unfold badAt
    rw [hdd, hxx]
    show ¬ (!d.hasV x) = true
    rw [hv.has]
    decide
theorem row_inn {ds : List FD} {xs : List V} (hd : ∀ d ∈ ds, DrF d) (hf : ds.length ≤ 30) (h : RwOk ds xs) (J : Hp) : RowIn J (some xs) := ⟨by have := h.1; omega, fun x hx => by
  obtain ⟨d, hdm, hv⟩ := h.mem hx
  have ok := hv.ok (hd d hdm)
  exact ⟨.inl ok.flat, by have := ok.len; omega⟩⟩
end L2.K76

set_option Elab.async false
set_option linter.all false
set_option maxRecDepth 100000
set_option maxHeartbeats 4000000
/-! repr of flat values. -/
namespace L2.Jk
open PySem PySem.W PySem.Spec PySem.Calls PyProof.Rows
def reprV : V → Str
  | .non => "None"
  | .bl b => if b then "True" else "False"
  | .int i => (toString i : Str)
  | .str z => reprText z
  | _ => ""
def reprOk : V → Bool
  | .int i => decide (i.natAbs.log2 < 1920)
  | .str z => decide ((reprText z).length ≤ 16777216)
  | _ => true
theorem call_reprV {X : Cx} : CallR X (.builtin "repr") (fun xs H Q => ∃ v, xs = [v] ∧ flatV v = true ∧ reprOk v = true ∧ Q (.str (reprV v)) H) := by
  intro pins s σ H xs us Q I r h
  obtain ⟨v, rfl, hf, hz, q⟩ := h
  obtain ⟨u, rfl, ru⟩ := vals1 r
  cases v with
  | non =>
    cases ru
    exact P.repr_of_none ⟨.str _, H, I.tok _, ⟨_, rfl⟩, q⟩
  | bl b =>
    cases ru
    exact P.repr_of_bool ⟨.str _, H, I.tok _, ⟨_, by cases b <;> rfl⟩, q⟩
  | int i =>
    obtain ⟨t, rfl⟩ := ru
    exact P.repr_of_int (of_decide_eq_true hz) ⟨.str _, H, I.tok _, ⟨_, rfl⟩, q⟩
  | str z =>
    obtain ⟨t, rfl⟩ := ru
    exact P.repr_of_str ⟨.str _, H, I.tok _, ⟨_, rfl⟩, q⟩ (by rw [sizeLine_eq]; exact of_decide_eq_true hz)
  | _ => cases hf
end L2.Jk

set_option Elab.async false
set_option linter.all false
set_option maxRecDepth 100000
set_option maxHeartbeats 4000000
/-! try: several clauses, some with a name, some without, put together clause by clause. -/
namespace L2.Jk
open PySem PySem.W PySem.Spec PySem.Calls PyProof.Rows

section
variable {X : Cx}
/-- an error that was caught here: all that is known where the clauses are looked at -/
structure Hit (X : Cx) (pins : List (Addr × Obj)) (σ : St) (H : Hp) (s' : Shared) (a : Addr) (cls : Value) (d : Option Addr) (B : Heap) (sI : Shared) (h3 : Heap) : Prop where
  hs : X.stack = X.env :: X.outer
  hf : X.env.frame = some X.env.locals
  J : Inv X pins σ H sI
  nb : ∀ b o, sI.heap.get? b = some o → b ∉ frs X.stack → B.get? b = some o
  up : sI.heap.UpToSlots h3
  fl : HandSPX.FlyingZ B (X.env :: X.outer) a (Zc cls d) h3
  na : H a = none
  os : s'.os = sI.os
  ag : AllBare s'.gens
/-- the clauses hds keep the wish w -/
def Hnd (X : Cx) (hds : List ExceptHandler) (w : Ends → WX) : Prop := ∀ (D : Ends) (pins : List (Addr × Obj)) (σ : St) (H : Hp) (s' : Shared) (a : Addr) (cls : Value) (d : Option Addr) (B : Heap) (sI : Shared) (h3 : Heap),
  Hit X pins σ H s' a cls d B sI h3 → w D cls d σ H → wpAny (model X.prog X.w) X.A (handleBy (.ref a) X.env hds) (SP X pins D) X.xe { s' with heap := h3 }
section
variable {pins : List (Addr × Obj)} {σ : St} {H : Hp} {s' : Shared} {a : Addr} {cls : Value} {d : Option Addr} {B : Heap} {sI : Shared} {h3 : Heap}
theorem Hit.inv (t : Hit X pins σ H s' a cls d B sI h3) : Inv X pins σ H { s' with heap := h3 } :=
  t.J.landed t.nb t.fl.1 t.up t.os t.ag
theorem Hit.apart (t : Hit X pins σ H s' a cls d B sI h3) : a ≠ X.env.locals ∧ a ∉ X.fs := by
  obtain ⟨oe, vs, he, hz, hd⟩ := t.fl.there
  have nfr : a ∉ frs (X.env :: X.outer) := fun hm => by
    obtain ⟨_, o', e', hnf⟩ := t.fl.2.2.1.mem hm
    rw [he] at e'
    cases e'
    exact hnf _ hd
  refine ⟨fun z => nfr (List.mem_filterMap.mpr ⟨X.env, List.mem_cons_self, by rw [t.hf, z]⟩), fun hm => ?_⟩
  obtain ⟨e, he, q⟩ := List.mem_filterMap.mp hm
  exact nfr (List.mem_filterMap.mpr ⟨e, List.mem_cons_of_mem _ he, q⟩)
end
theorem hnd_nil {Wout : WX} (tk : Takes X Wout) : Hnd X [] (fun _ => Wout) := by
  intro D pins σ H s' a cls d B sI h3 t w
  refine wpAny_handleBy_nil ?_
  obtain ⟨_, _, _, oe, vs, T, oT, ts', he, hz, hd, h1, hr⟩ := id t.fl
  unfold PySem.passOn
  refine wpAny_bind (wpAny_field he hd h1 ?_)
  have nn : ¬ ((Value.ref T == Value.none) = true) := by simp
  rw [if_neg nn]
  have fin : wpAny (model X.prog X.w) X.A (setFlight (.ref a) X.env.frame) (fun _ s4 => wpAny (model X.prog X.w) X.A (throw (.ref a) : Sem Flow) (SP X pins D) X.xe s4) X.xe { s' with heap := h3 } := by
    rw [t.hf]
    exact HandSPX.setFlight_upZ t.fl fun h4 hh4 up4 => wpAny_throw (tk _ _ ⟨a, B, sI, pins, σ, H, cls, d, rfl, t.J, t.nb, t.up.trans up4, .inr (.inr (by rw [t.hs]; exact hh4)), t.na, t.os, t.ag, w⟩)
  first
    | exact wpAny_bind (wpAny_pure (wpAny_bind fin))
    | exact wpAny_bind fin
section
variable {x n : Str} {c : Value} {np cp : Pos} {pins : List (Addr × Obj)} {σ : St} {H : Hp} {s' : Shared} {a : Addr} {cls : Value} {d : Option Addr} {B : Heap} {sI : Shared} {h3 : Heap} {b₀ : Stmt} {suite : List Stmt} {hds : List ExceptHandler} {w : Ends → WX} {ts : Addr → Value → Option Addr → TS} {i : Nat}
/-- there is an object there, and the suite of a clause may run -/
theorem Hit.go (t : Hit X pins σ H s' a cls d B sI h3) : ∃ oe : Obj, h3.get? a = some oe ∧ Zc cls d oe ∧ (∃ vs, oe.data = .fields vs) ∧ Inv (X.suite a ((a, oe) :: (X.pn ++ pins))) [] σ H { s' with heap := h3 } := by
  obtain ⟨oe, vs, he, hz, hd⟩ := t.fl.there
  exact ⟨oe, he, hz, ⟨vs, hd⟩, t.inv.suite he hd t.na t.apart.1 t.apart.2⟩
theorem Hit.again (t : Hit X pins σ H s' a cls d B sI h3) {h4 : Heap} (fl4 : HandSPX.FlyingZ B (X.env :: X.outer) a (Zc cls d) h4) (up4 : h3.UpToSlots h4) : Hit X pins σ H s' a cls d B sI h4 :=
  ⟨t.hs, t.hf, t.J, t.nb, t.up.trans up4, fl4, t.na, t.os, t.ag⟩
/-- what a clause asks first: whether the error is one of its class -/
theorem hit_test {b : Bool} {Q : Bool → Shared → Prop} {E E2 : Value → Shared → Prop}
    (t : Hit X pins σ H s' a cls d B sI h3) (hc : Names X x c) (hb : exmOne X.K cls c = some b) (q : Q b { s' with heap := h3 }) :
    wpAny (model X.prog X.w) (X.A.mark (some (.ref a))) (eval (.Name x np) X.env) (fun c' s1 => wpAny (model X.prog X.w) (X.A.mark (some (.ref a))) (excMatches (.ref a) c') Q E s1) E2 { s' with heap := h3 } := by
  obtain ⟨oe, he, hz, hd, S3⟩ := t.go
  have LT : Looks (model X.prog X.w) h3 (typeOf (.ref a)) cls := fun A Q E s k q => wpAny_typeOf_ref (k _ _ he) (by rw [hz.1]; exact q)
  have LM := exm_one (M := model X.prog X.w) t.inv.kIn LT hb
  have fin : wpAny (model X.prog X.w) (X.A.mark (some (.ref a))) (excMatches (.ref a) c) Q E { s' with heap := h3 } := LM.here q
  obtain ⟨hg, hdbg, hm | ⟨hm, hv, hnn⟩⟩ := hc
  · exact ld_glob (X := X.suite a ((a, oe) :: (X.pn ++ pins))) S3 hg hm fin hdbg
  · exact ld_blt (X := X.suite a ((a, oe) :: (X.pn ++ pins))) S3 hg hm hv fin hnn hdbg
abbrev SuiteOk (X : Cx) (body : List Stmt) (ts : Addr → Value → Option Addr → TS) : Prop :=
  ∀ (a : Addr) (oe : Obj) (cls : Value) (d : Option Addr) (pn : List (Addr × Obj)), Zc cls d oe → (∃ vs, oe.data = .fields vs) → PSs (X.suite a ((a, oe) :: pn)) body (ts a cls d)
/-- except x: suite, and the clauses behind it -/
theorem hnd_un (hc : Names X x c) (hsu : SuiteOk X (b₀ :: suite) ts) (r : Hnd X hds w) :
    Hnd X (.ExceptHandler (some (.Name x np)) none (b₀ :: suite) cp :: hds) (fun D cls d σ H => ∃ b, exmOne X.K cls c = some b ∧ (b = true → ∀ a, H a = none → ts a cls d D σ H) ∧ (b = false → w D cls d σ H)) := by
  intro D pins σ H s' a cls d B sI h3 t ⟨b, hb, yes, no⟩
  have ok := t.J.ok
  refine wpAny_handleBy_cons (codeAny_handlers_test (hit_test t hc hb ?_)) (by intro q; cases q)
  cases b with
  | false => exact r D pins σ H s' a cls d B sI h3 t (no rfl)
  | true =>
    refine codeAny_handlers_suite (HandSPX.lands_againZ t.fl fun h4 fl4 up4 => ?_)
    obtain ⟨oe4, he4, hz4, hd4, S4⟩ := (t.again fl4 up4).go
    refine wpAny_mono ((hsu a oe4 cls d (X.pn ++ pins) hz4 hd4).run [] _ _ H _ S4 (yes rfl a t.na)) (fun f s6 hsp => ?_) (fun _ _ z => False.elim z)
    cases f with
    | ret u =>
      obtain ⟨v6, σ6, H6, S6, r6, q6⟩ := hsp
      exact ⟨_, _, _, S6.unsuite ok, r6, q6⟩
    | _ =>
      obtain ⟨σ6, H6, S6, q6⟩ := hsp
      exact ⟨_, _, S6.unsuite ok, q6⟩
/-- except x as n: suite, n in slot i, and the clauses behind it -/
theorem hnd_as (hN : X.N.Nodup) (hi : X.N[i]? = some n) (hln : X.env.kindOf n = some .local) (hc : Names X x c) (hsu : SuiteOk X (b₀ :: suite) ts) (r : Hnd X hds w) :
    Hnd X (.ExceptHandler (some (.Name x np)) (some n) (b₀ :: suite) cp :: hds) (fun D cls d σ H => ∃ b, exmOne X.K cls c = some b ∧ (b = true → ∀ a, H a = none → ts a cls d { nx := fun σ' H' => D.nx (σ'.set i none) H', rt := D.rt, bk := fun σ' H' => D.bk (σ'.set i none) H', ct := fun σ' H' => D.ct (σ'.set i none) H' } (σ.set i (some (.ref a))) H) ∧ (b = false → w D cls d σ H)) := by
  intro D pins σ H s' a cls d B sI h3 t ⟨b, hb, yes, no⟩
  have ok := t.J.ok
  refine wpAny_handleBy_cons (codeAny_handlers_test (hit_test t hc hb ?_)) (by intro q; cases q)
  cases b with
  | false => exact r D pins σ H s' a cls d B sI h3 t (no rfl)
  | true =>
    refine codeAny_handlers_suite_as (HandSPX.lands_againZ t.fl fun h4 fl4 up4 => ?_)
    obtain ⟨oe4, he4, hz4, hd4, S4⟩ := (t.again fl4 up4).go
    refine store_ok (X := X.suite a ((a, oe4) :: (X.pn ++ pins))) (v := .ref a) S4 hN hi (.inl hln) rfl (fun s5 S5 => ?_) (.inr hln)
    refine wpAny_mono ((hsu a oe4 cls d (X.pn ++ pins) hz4 hd4).run [] s5 _ H _ S5 (yes rfl a t.na)) (fun f s6 hsp => ?_) (fun _ _ z => False.elim z)
    cases f with
    | ret u =>
      obtain ⟨v6, σ6, H6, S6, r6, q6⟩ := hsp
      exact gone_ok (S6.unsuite ok) hN hi hln fun s7 J7 => ⟨_, _, _, J7, r6, q6⟩
    | _ =>
      obtain ⟨σ6, H6, S6, q6⟩ := hsp
      exact gone_ok (S6.unsuite ok) hN hi hln fun s7 J7 => ⟨_, _, J7, q6⟩
end
/-- the statement -/
theorem ps_try_hnd {body : List Stmt} {h₀ : ExceptHandler} {hds : List ExceptHandler} {w : Ends → WX} {tb : WX → TS} {pos : Pos} (hs : X.stack = X.env :: X.outer) (hf : X.env.frame = some X.env.locals)
    (hb : ∀ (W : WX) (pn : List (Addr × Obj)) (xe : Value → Shared → Prop), Takes (X.tr pn xe) W → PassesOwn (model X.prog X.w) X.A X.env xe → PSs (X.tr pn xe) body (tb W))
    (hh : Hnd X (h₀ :: hds) w) : PS X (.Try body (h₀ :: hds) [] [] pos) (fun D σ H => tb (w D) D σ H) := by
  constructor
  intro pins s σ H D I h
  have ok := I.ok
  have hfr : X.A.frames = some (X.env :: X.outer) := by rw [ok.frames, hs]
  refine wpAny_Try_except (wpAny_mono ((hb (w D) (X.pn ++ pins) (fun e s₁ => wpAny (model X.prog X.w) X.A (noteFrame e X.env) (fun _ s₂ => wpAny (model X.prog X.w) X.A (setFlight e none) (fun _ s₃ =>
    wpAny (model X.prog X.w) X.A (handleBy e X.env (h₀ :: hds)) (SP X pins D) X.xe s₃) X.xe s₂) X.xe s₁) (fun u s' xx => ?_) PassesOwn.looking).run [] s σ H D (I.toTry _) h) (fun f s1 hsp => ?_) (fun e s1 he => he))
  · obtain ⟨a, B, sI, pins', σ', H', cls, d, rfl, J', nb, up, sky, na, os, ag, wd⟩ := xx
    have sky' : Sky B (X.env :: X.outer) a (Zc cls d) X.env.locals s'.heap := by rw [← hs]; exact sky
    exact Sky.land Zc.steady hfr hf sky' fun h3 fl3 up3 => hh D pins σ' H' s' a cls d B sI h3 ⟨hs, hf, J'.ofTry ok, nb, up.trans up3, fl3, na, os, ag⟩ wd
  · cases f with
    | next =>
      obtain ⟨σ', H', J', q⟩ := hsp
      exact wpAny_execs_nil ⟨σ', H', J'.ofTry ok, q⟩
    | ret u =>
      obtain ⟨v, σ', H', J', r, q⟩ := hsp
      exact ⟨v, σ', H', J'.ofTry ok, r, q⟩
    | _ =>
      obtain ⟨σ', H', J', q⟩ := hsp
      exact ⟨σ', H', J'.ofTry ok, q⟩
end
end L2.Jk

set_option Elab.async false
set_option linter.all false
set_option maxRecDepth 100000
set_option maxHeartbeats 4000000
/-! The law: a drawn row; what is said of a row. -/
namespace L2.K76
open PySem PySem.W PySem.Spec PySem.Calls PyProof.Rows L2.Jk
def spRow : Sp := fun vs H Q _ => ∃ (a ps : Addr) (vsp : List V) (ds : List FD), vs = [.ref a, .ref ps] ∧ StAt H a ∧ ps ≠ a ∧ H ps = some (.lst vsp) ∧ SpsAt a H vsp ds ∧ (∀ d ∈ ds, DrF d) ∧ ds.length ≤ 30 ∧
  ∀ r xs H', H r = none → RwOk ds xs → But a H H' → StAt H' a → H' r = some (.tup xs) → Q (.ref r) H'
structure GW (P : Program) (w : World) (K : Frag) (mg : Str → Option Value) (base : Heap) : Prop extends GL P w K mg base where
  row_text : FnAt P w K mg base (L2.CX P w) 6 "row_text" ["layout", "row"] (spRT K)
  mgJ : mg "JointError" = some (.ref (He.ga K "JointError"))
  exm : exmOne K (.ref (NR K)) (.ref (NR K)) = some true
def spSaid (K : Frag) : Sp := fun vs H Q _ => ∃ (L : Addr) (ds : List FD) (js : List Str) (v : V) (o : Option (List V)), vs = [.ref L, v] ∧ LayAt K H L ds js ∧ SeqIs K H v o ∧ RowIn H o ∧
  (rowDue ds o = none → ∀ xs, o = some xs → RowT ds xs ∧ ∀ H', Same H H' → Q (.str (rowText ds js xs)) H') ∧ ∀ z, rowDue ds o = some z → ∀ t H', H t = none → Same H H' → H' t = some (.tup [.int z]) → Q (.ref t) H'
theorem place_look {z : V} : ([(("place" : Str), z)] : List (Str × V)).lookup ("place" : Str) = some z := by rw [lookup_put, if_pos rfl]
section
variable {P : Program} {w : World} {K : Frag} {mg : Str → Option Value} {base : Heap} {f : Addr} {fd : FuncData}

abbrev s_law_row : Stmt := top 54
theorem sc_law_row : FnScope ["_law_source_here", "_law_specs", "_law_spec"] ["_law_source_here", "_law_specs"] (defScope s_law_row) := ⟨rfl, rfl, rfl, by decide +kernel, rfl, by decide +kernel, by decide +kernel⟩

theorem ok_law_row (F : FunD K "_law_row" "_law_row" (defArgs s_law_row) (defBody s_law_row) (defScope s_law_row) [] [] f fd) (G : GL P w K mg base) : FnOk P w K mg base CX0 4 f fd ["_law_source_here", "_law_specs"] spRow := by
  refine F.ok (CX := CX0) sc_law_row (fun vs H Q E h => ?_) (fun cdv A outer s H vs Q E hr h => ?_)
  · obtain ⟨a, ps, vsp, ds, rfl, _⟩ := h
    rfl
  · refine ⟨_, PSs.nox (pss_one (ps_ret (pe_callTy call_tuple_of (by rfl) G.tuple (by decide +kernel) (pa_cons (pe_lc (own := [("_law_spec", 2)]) (g := gName 2) (tt := tYes) rfl sc_law_row.nd (pi_list (pv 1)) (blkOk_by (N := ["_law_source_here", "_law_specs", "_law_spec"]) (sc := defScope s_law_row) (by decide +kernel)) (fun _ _ _ _ _ => pg_name (i := 2) sc_law_row.nd rfl (Or.inl rfl)) (fun _ _ _ _ _ => pts_nil) (fun _ _ _ _ _ => (pe_fn G.law_pick (hr.mono (by decide)) pass0 (by rfl) (pa_cons (pv 0) (pa_cons (pe_fn G.law_values hr pass0 (by rfl) (pa_cons (pv 2) pa_nil)) pa_nil))))) pa_nil)))), ?_⟩
    obtain ⟨a, ps, vsp, ds, rfl, st, nps, hps, hS, hD, hfew, q⟩ := h
    refine ⟨_, rfl, ps, rfl, ⟨_, SqL.of hps⟩, fun D hDn => ?_⟩
    have nD : D ≠ a := st.ne hDn
    refine lc_list (K := K) (a := ps) (xs := vsp) (fun n J => ∃ xs : List V, xs.length = n ∧ (∀ (i : Nat) (d : FD) (x : V), ds[i]? = some d → xs[i]? = some x → VlF d x) ∧ J D = some (.lst xs) ∧ But a H J ∧ StAt J a) ⟨[], rfl, (fun i d x h1 h2 => by cases h2), upd_same, but_put (But.refl _ _) hDn, st.put nD⟩ (fun i J hi ⟨_, _, _, _, B, _⟩ => SqL.of (B _ _ nps hps)) ?_ ?_
    · rintro i v J hv ⟨xs, hxl, hx, eD, B, stJ⟩
      have hi := (List.getElem?_eq_some_iff.mp hv).1
      have hvl : vsp.length = ds.length := hS.1
      obtain ⟨d, hd, hF⟩ := (hS.but B).get hv
      have hdd := hD d (List.mem_of_getElem? hd)
      refine ⟨rfl, _, rfl, _, rfl, a, v, d, rfl, hF, hdd, d.dep_lt, fun p ys H2 hp ok S2 e2 => ?_⟩
      refine ⟨a, p, ys, rfl, stJ.same S2, stJ.ne hp, e2, ok.ne, by have := ok.len; omega, fun x G hxm BG stG => ?_⟩
      refine ⟨xs, BG _ _ nD (S2 _ _ eD), by rw [sizeLine_eq]; omega, xs ++ [x], by rw [List.length_append, hxl]; rfl, fun k d' y h1 h2 => ?_, upd_same, but_put ((B.trans (But.of_same S2)).trans BG) hDn, stG.put nD⟩
      by_cases hk : k < xs.length
      · rw [List.getElem?_append_left hk] at h2
        exact hx k d' y h1 h2
      · rw [List.getElem?_append_right (by omega)] at h2
        have e : k = i := by
          have := (List.getElem?_eq_some_iff.mp h2).1
          have : k - xs.length < 1 := this
          omega
        subst e
        rw [hxl, Nat.sub_self] at h2
        cases h2
        rw [hd] at h1
        cases h1
        exact ok.all _ hxm
    · rintro J ⟨xs, hxl, hx, eD, B, stJ⟩
      refine ⟨D, xs, rfl, .inl ⟨SqL.of eD, fun r hr => ?_⟩⟩
      have hr0 : H r = none := by
        cases e : H r with
        | none => rfl
        | some o =>
          by_cases hra : r = a
          · obtain ⟨_, _, _, es, _⟩ := stJ
            rw [hra, es] at hr
            cases hr
          · rw [B _ _ hra e] at hr
            cases hr
      exact q r xs _ hr0 ⟨by rw [hxl]; exact hS.1, hx⟩ (but_put B hr0) (stJ.put (stJ.ne hr)) upd_same

end
end L2.K76

set_option Elab.async false
set_option linter.all false
set_option maxRecDepth 100000
set_option maxHeartbeats 4000000
/-! Rows that do not fit: the place that is told. -/
namespace L2.K76
open PySem PySem.W PySem.Spec PySem.Calls PyProof.Rows L2.Jk
theorem due_at {ds : List FD} {ys : List V} {i : Nat} (hi : i < max ys.length ds.length) (h1 : badAt ds ys i = true) (h2 : ∀ j, j < i → badAt ds ys j = false) : rowDue ds (some ys) = some (i : Int) := by
  show ((List.range (max ys.length ds.length)).find? (badAt ds ys)).map _ = _
  rw [find_at hi h1 h2]
  rfl
theorem bad_congr {ds : List FD} {ys zs : List V} {i : Nat} (h : ys[i]? = zs[i]?) : badAt ds ys i = badAt ds zs i := by
  unfold badAt
  rw [h]
theorem good_at {ds : List FD} {xs : List V} (hD : ∀ d ∈ ds, DrF d) (h : RwOk ds xs) {i : Nat} (hi : i < ds.length) : badAt ds xs i = false := by
  have e1 := List.getElem?_eq_getElem hi
  have e2 := List.getElem?_eq_getElem (show i < xs.length by rw [h.1]; exact hi)
  have ok := (h.2 i _ _ e1 e2).ok (hD _ (List.getElem_mem hi))
  unfold badAt
  rw [e1, e2]
  show (!FD.hasV _ _) = false
  rw [ok.has]
  rfl
theorem bad_none {ds : List FD} {ys : List V} {i : Nat} (h : ys.length ≤ i ∨ ds.length ≤ i) : badAt ds ys i = true := by
  unfold badAt
  rcases h with h | h
  · rw [List.getElem?_eq_none h]
    cases ds[i]? <;> rfl
  · rw [List.getElem?_eq_none h]
theorem row_good {ds : List FD} {xs : List V} (hD : ∀ d ∈ ds, DrF d) (h : RwOk ds xs) : rowDue ds (some xs) = none := by
  show ((List.range (max xs.length ds.length)).find? (badAt ds xs)).map _ = none
  rw [List.find?_eq_none.mpr fun j hj => ?_]
  · rfl
  · have hj := List.mem_range.mp hj
    rw [good_at hD h (by have := h.1; omega)]
    decide
theorem row_more {ds : List FD} {xs zs : List V} (hD : ∀ d ∈ ds, DrF d) (h : RwOk ds xs) (hz : zs ≠ []) : rowDue ds (some (xs ++ zs)) = some (xs.length : Int) := by
  have h1 := h.1
  have := List.length_pos_iff.mpr hz
  refine due_at (by rw [List.length_append]; omega) (bad_none (.inr (by omega))) fun j hj => ?_
  rw [bad_congr (List.getElem?_append_left hj)]
  exact good_at hD h (by omega)
theorem row_less {ds : List FD} {xs : List V} {k : Nat} (hD : ∀ d ∈ ds, DrF d) (h : RwOk ds xs) (hk : k < xs.length) : rowDue ds (some (xs.take k)) = some (k : Int) := by
  have h1 := h.1
  refine due_at (by omega) (bad_none (.inl (by rw [List.length_take]; omega))) fun j hj => ?_
  rw [bad_congr (List.getElem?_take_of_lt hj)]
  exact good_at hD h (by omega)
/-- a row with something that is none at one place, and at another one -/
structure Bent (ds : List FD) (xs ys : List V) (k1 k2 : Nat) : Prop where
  len : ys.length = xs.length
  b1 : badAt ds ys k1 = true
  b2 : badAt ds ys k2 = true
  oth : ∀ j, j ≠ k1 → j ≠ k2 → ys[j]? = xs[j]?
theorem bent_of {ds : List FD} {xs : List V} {k1 k2 : Nat} {o1 o2 : V} {d1 d2 : FD} (h1 : k1 < xs.length) (h2 : k2 < xs.length) (e1 : ds[k1]? = some d1) (e2 : ds[k2]? = some d2) (n1 : d1.hasV o1 = false) (n2 : d2.hasV o2 = false) : Bent ds xs ((xs.set k1 o1).set k2 o2) k1 k2 := by
  have bad : ∀ {ys : List V} {k : Nat} {d : FD} {o : V}, ds[k]? = some d → ys[k]? = some o → d.hasV o = false → badAt ds ys k = true := fun {ys k d o} a b c => by
    unfold badAt
    rw [a, b]
    show (!FD.hasV _ _) = true
    rw [c]
    rfl
  have g2 : ((xs.set k1 o1).set k2 o2)[k2]? = some o2 := by
    rw [List.getElem?_set_self (by rw [List.length_set]; exact h2)]
  refine ⟨by rw [List.length_set, List.length_set], ?_, bad e2 g2 n2, fun j a b => ?_⟩
  · by_cases h : k1 = k2
    · subst h
      exact bad e2 g2 n2
    · have g1 : ((xs.set k1 o1).set k2 o2)[k1]? = some o1 := by
        rw [List.getElem?_set_ne (Ne.symm h), List.getElem?_set_self h1]
      exact bad e1 g1 n1
  · rw [List.getElem?_set_ne (Ne.symm b), List.getElem?_set_ne (Ne.symm a)]
theorem Bent.good {ds : List FD} {xs ys : List V} {k1 k2 : Nat} (B : Bent ds xs ys k1 k2) (hD : ∀ d ∈ ds, DrF d) (h : RwOk ds xs) {j : Nat} (hj : j < min k2 k1) (hn : j < xs.length) : badAt ds ys j = false := by
  rw [bad_congr (B.oth j (by omega) (by omega))]
  exact good_at hD h (by rw [← h.1]; exact hn)
theorem Bent.first {ds : List FD} {xs ys : List V} {k1 k2 : Nat} (B : Bent ds xs ys k1 k2) : badAt ds ys (min k2 k1) = true := by
  rcases Nat.le_total k2 k1 with h | h
  · rw [Nat.min_eq_left h]
    exact B.b2
  · rw [Nat.min_eq_right h]
    exact B.b1
theorem Bent.due {ds : List FD} {xs ys : List V} {k1 k2 : Nat} (B : Bent ds xs ys k1 k2) (hD : ∀ d ∈ ds, DrF d) (h : RwOk ds xs) (h1 : k1 < xs.length) : rowDue ds (some ys) = some ((min k2 k1 : Nat) : Int) := by
  have hl := B.len
  exact due_at (by omega) B.first fun j hj => B.good hD h hj (by omega)
theorem Bent.more {ds : List FD} {xs ys zs : List V} {k1 k2 : Nat} (B : Bent ds xs ys k1 k2) (hD : ∀ d ∈ ds, DrF d) (h : RwOk ds xs) (h1 : k1 < xs.length) : rowDue ds (some (ys ++ zs)) = some ((min k2 k1 : Nat) : Int) := by
  have hl := B.len
  refine due_at (by rw [List.length_append]; omega) ?_ fun j hj => ?_
  · rw [bad_congr (List.getElem?_append_left (by omega))]
    exact B.first
  · rw [bad_congr (List.getElem?_append_left (by omega))]
    exact B.good hD h hj (by omega)
theorem Bent.less {ds : List FD} {xs ys : List V} {k1 k2 : Nat} (B : Bent ds xs ys k1 k2) (hD : ∀ d ∈ ds, DrF d) (h : RwOk ds xs) (h1 : k1 < xs.length) : rowDue ds (some (ys.take k1)) = some ((if decide (k2 < k1) = true then k2 else k1 : Nat) : Int) := by
  have hl := B.len
  have h2 := h.1
  by_cases c : k2 < k1
  · rw [if_pos (decide_eq_true c)]
    refine due_at (by omega) ?_ fun j hj => ?_
    · rw [bad_congr (List.getElem?_take_of_lt c)]
      exact B.b2
    · rw [bad_congr (List.getElem?_take_of_lt (by omega))]
      exact B.good hD h (by omega) (by omega)
  · rw [if_neg (by rw [decide_eq_false c]; decide)]
    refine due_at (by omega) (bad_none (.inl (by rw [List.length_take]; omega))) fun j hj => ?_
    rw [bad_congr (List.getElem?_take_of_lt hj)]
    exact B.good hD h (by omega) (by omega)
theorem Thg.putl {H : Hp} {p : Addr} {ys : List V} {o : V} (h : Thg H o) : Thg (upd H p (.lst ys)) o := by
  rcases h with h | ⟨q, e, h⟩
  · exact .inl h
  · by_cases hq : q = p
    · exact .inr ⟨q, e, .inl ⟨ys, by rw [hq, upd_same]⟩⟩
    · refine .inr ⟨q, e, ?_⟩
      rw [upd_ne hq]
      exact h
theorem vlf_thg {ds : List FD} {xs : List V} (hD : ∀ d ∈ ds, DrF d) (h : RwOk ds xs) (H : Hp) : ∀ x ∈ xs, Thg H x ∧ lenV x ≤ 10 := fun x hx => by
  obtain ⟨i, hi, e⟩ := List.mem_iff_getElem.mp hx
  have e2 := List.getElem?_eq_getElem hi
  have e1 := List.getElem?_eq_getElem (show i < ds.length by rw [← h.1]; exact hi)
  rw [e] at e2
  have ok := (h.2 i _ _ e1 e2).ok (hD _ (List.getElem_mem _))
  exact ⟨.inl ok.flat, ok.len⟩
theorem sh_one (z : Int) : SeqAt.shaped (.tuple [.int z]) = true := Bool.and_eq_true_iff.mpr ⟨rfl, decide_eq_true (by show max 0 0 + 1 ≤ 64; decide)⟩
theorem dp_one {K : Frag} {H : Hp} {t : Addr} {z : Int} (h : H t = some (.tup [.int z])) : Dp K H (.ref t) (.tuple [.int z]) := .tup (SqT.of h) (.cons (.int _) .nil)
end L2.K76

set_option Elab.async false
set_option linter.all false
set_option maxRecDepth 100000
set_option maxHeartbeats 4000000
/-! Stores: get, of what is no row. -/
namespace L2.K76
open PySem PySem.W PySem.Spec PySem.Calls PyProof.Rows L2.Jk
def spGet (K : Frag) : Sp := fun vs H Q E => ∃ (S L Tx Kd : Addr) (ds : List FD) (js : List Str) (m : Mp) (n : Nat) (v : V) (o : Option (List V)), vs = [.ref S, v] ∧ StA K H S L Tx Kd m n ∧ LayAt K H L ds js ∧ SeqIs K H v o ∧ RowIn H o ∧
  rowDue ds o ≠ none ∧ ∀ z, rowDue ds o = some z → RaiseE (NR K) "place" (.int z) H E
section
variable {P : Program} {w : World} {K : Frag} {mg : Str → Option Value} {base : Heap} {f : Addr} {fd : FuncData}

abbrev s_get : Stmt := inClass (top 43) 3
theorem sc_get : FnScope ["self", "row", "text"] ["self", "row"] (defScope s_get) := ⟨rfl, rfl, rfl, by decide +kernel, rfl, by decide +kernel, by decide +kernel⟩

theorem ok_get (F : FunD K "get" "Store.get" (defArgs s_get) (defBody s_get) (defScope s_get) [] [] f fd) (G : S0 P w K mg base) : FnOk P w K mg base (L2.CX P w) 7 f fd ["self", "row"] (spGet K) := by
  refine F.ok (CX := (L2.CX P w)) sc_get (fun vs H Q E h => ?_) (fun cdv A outer s H vs Q E hr h => ?_)
  · obtain ⟨_, _, _, _, _, _, _, _, _, _, rfl, _⟩ := h
    rfl
  · refine ⟨_, (pss_cons (ps_set (i := 2) sc_get.nd rfl (Or.inl rfl) (pe_fnS G.row_text hr (fun σ => passAt (takes_of rfl rfl rfl rfl) σ) (by rfl) (pa_cons (pe_fld (pv 0) rfl) (pa_cons (pv 1) pa_nil))))
    (pss_one (ps_ret (pe_ifExp (pt_cmp (pc_din (hu_of hr) (pv 2) (pe_fld (pv 0) rfl))) (pe_ix ix_tup (pe_dget (hu_of hr) (pe_fld (pv 0) rfl) (pv 2) (fun _ _ => rfl)) pe_int (fun _ _ => rfl)) pe_non)))), ?_⟩
    obtain ⟨S, L, Tx, Kd, ds, js, m, n, v, o, rfl, hS, hLy, hsq, hR, hne, q⟩ := h
    obtain ⟨⟨dx, eS⟩, _, _⟩ := id hS
    exact ⟨_, rfl, S, _, dx, _, _, rfl, eS, G.cStore.cl, G.cStore.no _ (by decide +kernel), lStore_layout, _, rfl, L, ds, js, v, o, rfl, hLy, hsq, hR, fun gd => absurd gd hne, fun z hz => q z hz⟩

end
end L2.K76

set_option Elab.async false
set_option linter.all false
set_option maxRecDepth 100000
set_option maxHeartbeats 2000000
/-! A lambda whose parameters all have defaults, handed to a def that calls it with nothing. -/
namespace L2.Jk
open PySem PySem.W PySem.Spec PySem.Calls PyProof.Rows
/-- its parameters are none of the maker's names, all else is captured or global -/
structure LamD (N : List Str) (sc scope : Scope) : Prop where
  kd : scope.kind = .function
  co : scope.isCoroutine = false
  ge : scope.isGenerator = false
  cl : ∀ y ∈ scope.names, y.2 ≠ .cell
  nw : ∀ y ∈ scope.names, y.2 = .local → y.1 ∉ N
  fr : ∀ y ∈ scope.names, y.2 = .free → sc.names.lookup y.1 = some .cell ∨ sc.names.lookup y.1 = some .free
def lamDB (N : List Str) (sc scope : Scope) : Bool :=
  decide (scope.kind = .function) && (!scope.isCoroutine && (!scope.isGenerator && (scope.names.all fun y => !decide (y.2 = .cell) && ((!decide (y.2 = .local) || !N.contains y.1) && (!decide (y.2 = .free) || (decide (sc.names.lookup y.1 = some .cell) || decide (sc.names.lookup y.1 = some .free)))))))
theorem lamD_by {N : List Str} {sc scope : Scope} (h : lamDB N sc scope = true) : LamD N sc scope := by
  unfold lamDB at h
  obtain ⟨h1, h⟩ := Bool.and_eq_true_iff.mp h
  obtain ⟨h2, h⟩ := Bool.and_eq_true_iff.mp h
  obtain ⟨h3, h⟩ := Bool.and_eq_true_iff.mp h
  have each : ∀ y ∈ scope.names, _ := fun y hy => List.all_eq_true.mp h y hy
  refine ⟨of_decide_eq_true h1, by simpa using h2, by simpa using h3, fun y hy => ?_, fun y hy e => ?_, fun y hy e => ?_⟩
  · obtain ⟨a, _⟩ := Bool.and_eq_true_iff.mp (each y hy)
    simpa using a
  · obtain ⟨_, a⟩ := Bool.and_eq_true_iff.mp (each y hy)
    obtain ⟨a, _⟩ := Bool.and_eq_true_iff.mp a
    rw [decide_eq_true e] at a
    simpa using a
  · obtain ⟨_, a⟩ := Bool.and_eq_true_iff.mp (each y hy)
    obtain ⟨_, a⟩ := Bool.and_eq_true_iff.mp a
    rw [decide_eq_true e] at a
    simpa using a
theorem LamD.has {X : Cx} {scope : Scope} (L : LamD X.N X.env.scope scope) (ok : X.Ok) : ∀ y ∈ scope.names, y.2 = .free → ∃ c, X.env.cells.lookup y.1 = some c := fun y hy e =>
  (L.fr y hy e).elim (fun k => ok.has _ (.inl k)) fun k => ok.has _ (.inr k)
section
variable {X : Cx} {pins : List (Addr × Obj)} {σ : L2.St} {H HZ : Hp} {s s1 : Shared}
/-- it is entered: its frame stands, the maker's names are read through its cells -/
theorem lamD_in {A : Around} {outer : List Env} {E : XK} {scope : Scope} {f c' : Addr} {h1 : Heap} {tk : Nat} {m : Str → Option Value}
    (I : Inv X pins σ H s) (L : LamD X.N X.env.scope scope) (en : Env0 X.prog X.w X.K X.mg X.base A outer s1 HZ)
    (hd : A.handled = none) (un : Un (frs X.stack) [] H HZ s.heap s1.heap)
    (hns : h1.Ns s1.heap.objs.size m) (kp : ∀ b o, s1.heap.get? b = some o → h1.get? b = some o) :
    Inv (LamX.lamCx X A outer s1 HZ E scope f c') [] σ HZ { s1 with heap := h1, toks := tk } := by
  have wide := L.has I.ok
  have got : ∀ {y c}, (cloFrom X.env.cells scope.names []).lookup y = some c → X.env.cells.lookup y = some c := fun {y c} e => by
    rcases cloFrom_mem (PySem.mem_of_lookup e) with z | ⟨z1, z2⟩
    · cases z
    · obtain ⟨c1, e1⟩ := wide _ z1 rfl
      have e1 : X.env.cells.lookup y = some c1 := e1
      have e2 : c = c1 := by rw [z2, e1] <;> rfl
      rw [e2, e1]
  have finds : ∀ {y}, scope.names.lookup y = some .free → ∃ c, (cloFrom X.env.cells scope.names []).lookup y = some c := fun {y} e =>
    mem_lookup (cloFrom_has (cells := X.env.cells) (acc := []) (PySem.mem_of_lookup e))
  have stays : ∀ {c : Addr} {v : Option Value}, H c = none → s.heap.IsCell c v → h1.IsCell c v := fun {c v} n ⟨o, ho, k⟩ => by
    obtain ⟨sl, q⟩ := un.any ho n (by simp)
    exact ⟨_, kp _ _ q, k⟩
  have none_ex : ∀ b : Addr, b ∉ (LamX.lamCx X A outer s1 HZ E scope f c').ex := fun b z => absurd (show b ∈ ([] : List Addr) from z) (by simp)
  have okC : (LamX.lamCx X A outer s1 HZ E scope f c').Ok := by
    refine ⟨en.mod, L.kd, rfl, rfl, Nat.le_refl _, fun y z c e1 e2 => I.ok.inj y z c (got e1) (got e2), fun y hy => ?_, fun y c z _ => ?_, fun _ => hd,
      Around.frames_deeper en.frames, .inr ⟨rfl, rfl⟩, fun b z => absurd z (none_ex b), en.bs, en.bsz, fun b _ _ => none_ex b, fun b z => absurd z (none_ex b), en.funs, en.frf⟩
    · have hy : scope.names.lookup y = some .cell ∨ scope.names.lookup y = some .free := hy
      exact hy.elim (fun k => absurd rfl (L.cl _ (PySem.mem_of_lookup k))) finds
    · have z : false = true := z
      cases z
  refine ⟨okC, rfl, en.bare, Un.kept kp, ⟨_, hns, fun i y v e1 e2 e3 => ?_⟩, fun y c e => ?_, en.hok.fresh (Nat.le_refl _), fun y c e => ?_,
    fun q hq => absurd (show q ∈ ([] : List (Addr × Obj)) ++ [] from hq) (by simp), en.hok.kept kp, I.len⟩
  · have e1 : X.N[i]? = some y := e1
    have e3 : Vis scope y := e3
    rcases e3 with k | k | k
    · exact absurd (List.mem_of_getElem? e1) (L.nw _ (PySem.mem_of_lookup k) rfl)
    · exact absurd rfl (L.cl _ (PySem.mem_of_lookup k))
    · obtain ⟨m0, _, hl⟩ := I.loc
      have vis : Vis X.env.scope y := (L.fr _ (PySem.mem_of_lookup k) rfl).elim (fun k => .inr (.inl k)) (fun k => .inr (.inr k))
      obtain ⟨w1, r, q⟩ := hl i y v e1 e2 vis
      obtain ⟨c2, h2⟩ := finds k
      refine ⟨w1, r, .inr ⟨.inr k, c2, h2, ?_⟩⟩
      have c1 := got h2
      rcases q with ⟨k1, _⟩ | ⟨_, c3, e4, z⟩
      · have k1 : X.env.scope.names.lookup y = some .local := k1
        rcases L.fr _ (PySem.mem_of_lookup k) rfl with k2 | k2
        · rw [show X.env.scope.names.lookup y = _ from k2] at k1
          cases k1
        · rw [show X.env.scope.names.lookup y = _ from k2] at k1
          cases k1
      · rw [c1] at e4
        cases e4
        exact stays (I.freeC y _ c1) z
  · obtain ⟨w1, z⟩ := I.cell y c (got e)
    exact ⟨w1, stays (I.freeC y c (got e)) z⟩
  · obtain ⟨v, o, ho, k⟩ := I.cell y c (got e)
    exact un.free c o ho (I.freeC y c (got e)) (by simp)
/-- it is made: a tuple of the defaults stands at t, the function at f, its code object at c' -/
theorem lamD_make {T : List (Addr × Str)} {c P : Addr} {params : Arguments} {body : Expr} {scope : Scope} {pos : Pos} {nd : Nat}
    {E : Value → Shared → Prop} {Q : Value → Shared → Prop} (I : Inv X pins σ H s) (TB : LamX.TabB X.base X.mg c P) (hcode : X.env.code = .ref c)
    (hm : (P, X.env.qual ++ "<lambda>") ∈ T) (hu : ∀ p ∈ T, p.1 = P → p.2 = X.env.qual ++ "<lambda>") (hT : LamX.Tabs T H)
    (d0 : params.defaults.isEmpty = false) (k0 : params.kw_defaults = []) (n0 : 0 < nd)
    (hdv : ∀ (M : Model) (A : Around) (Q : List Value → Shared → Prop) (s : Shared), (∀ dv tk, dv.length = nd → Q dv { s with toks := tk }) → wpAny M A (evalAll (evalEach params.defaults X.env)) Q E s)
    (hfree : ∀ y ∈ scope.names, y.2 = .free → ∃ c, X.env.cells.lookup y.1 = some c)
    (h : ∀ (f t c' : Addr) (doc pm ctv : Value) (H1 : Hp) (s' : Shared) (dv : List Value), dv.length = nd → Inv X pins σ H1 s' → LamX.ExtN H H1 → LamX.Tabs T H1 →
      s'.heap.get? f = some (kdv_obj "<lambda>" (X.env.qual ++ "<lambda>") params (.expr body) scope (cloFrom X.env.cells scope.names []) (.ref t) doc pm c' ctv) →
      s'.heap.get? t = some (kdv_tup dv) → H1 f = none → H1 t = none → f ∉ frs X.stack → t ∉ frs X.stack → H1 c' = some (LamX.CodeO c' (X.env.qual ++ "<lambda>")) → Q (.ref f) s') :
    wpAny (model X.prog X.w) X.A (eval (.Lambda params body scope pos) X.env) Q E s := by
  obtain ⟨ps, hP, ht, ha⟩ := hT _ hm
  refine kdv_lam d0 k0 (hdv _ _ _ _ fun dv tk0 hl => ?_)
  have dne : dv.isEmpty = false := by
    cases dv with
    | nil => rw [← hl] at n0; exact absurd n0 (Nat.lt_irrefl _)
    | cons _ _ => rfl
  have I := I.tok tk0
  rw [makeFunction_eq]
  simp only [List.zip_nil_right, List.filterMap_nil, List.isEmpty_nil, if_true, pure_bind, dne, Bool.false_eq_true, if_false]
  refine wpAny_bind (wpAny_newTextTuple ?_)
  have ht0 : H s.heap.objs.size = none := I.hok.fresh (Nat.le_refl _)
  have away : ∀ b, s.heap.objs.size ≤ b → b ∉ frs X.stack := fun b hb z => by
    rcases List.mem_cons.mp (I.stkSub _ z) with e | e
    · have h1 := I.lt
      rw [← e] at h1
      exact Nat.lt_irrefl _ (Nat.lt_of_lt_of_le h1 hb)
    · exact I.nofs hb e
  have It : Inv X pins σ H { s with heap := s.heap.push (kdv_tup dv), toks := tk0 } := I.kept fun b o e => Heap.get?_push_of_some _ e
  have hat : (s.heap.push (kdv_tup dv)).get? s.heap.objs.size = some (kdv_tup dv) := Heap.get?_push_size _ rfl
  have big : s.heap.objs.size < (s.heap.push (kdv_tup dv)).objs.size := by rw [Heap.size_push]; omega
  have bP : (s.heap.push (kdv_tup dv)).BuiltinsAt X.mg P := TB.bm.keeps It.bk
  have hP1 : (s.heap.push (kdv_tup dv)).get? P = some { cls := .none, data := .fields ps } := It.hok P _ hP
  cases hc : codeAmong pos ps.toList with
  | none =>
    refine kdv_makeTail (s := { s with heap := s.heap.push (kdv_tup dv), toks := tk0 }) (mg := X.mg) (c := c) (P := P) (ps := ps) (closure_ok hfree) I.ok.glob (It.mod.glob.keeps It.bk) hcode (TB.code.keeps It.bk) hP1 ht hc TB.gP bP fun c' ctv doc h' tk hx hge hlt hrec htb => ?_
    obtain ⟨c2, oc, vs, tt, e2, hoc, k1, k2⟩ := hrec
    cases e2
    have hsz : s.heap.objs.size < h'.objs.size := Nat.lt_of_lt_of_le big (Nat.le_trans hge (Nat.le_of_lt hlt))
    have nC : H c' = none := It.hok.fresh hge
    have nPt : s.heap.objs.size ≠ P := fun z => by rw [z, hP] at ht0; cases ht0
    have I1 := LamX.inv_table (t' := tk) (more := #[rawInt pos.line, rawInt pos.col, .ref c']) (h' := h'.push (kdv_obj "<lambda>" (X.env.qual ++ "<lambda>") params (.expr body) scope (cloFrom X.env.cells scope.names []) (.ref s.heap.objs.size) doc ((X.mg "__name__").getD .none) c' ctv)) It hP
      (fun b o hb e => Heap.get?_push_of_some _ (hx b o hb e)) (Heap.get?_push_of_some _ htb) hge ⟨oc, vs, tt, Heap.get?_push_of_some _ hoc, k1, k2⟩
    generalize hH1 : upd (upd H P (.tbl (ps ++ #[rawInt pos.line, rawInt pos.col, .ref c']))) c' (LamX.CodeO c' (X.env.qual ++ "<lambda>")) = H1 at I1
    have at1 : ∀ b, b ≠ P → b ≠ c' → H1 b = H b := fun b n1 n2 => by rw [← hH1, upd_ne n2, upd_ne n1]
    have hE : LamX.ExtN H H1 := fun b o e n => by
      rw [at1 b (fun z => n ps (Option.some.inj (e.symm.trans (by rw [z]; exact hP)))) (ne_of_none e nC)]
      exact e
    have eT : (ps ++ #[rawInt pos.line, rawInt pos.col, .ref c']).toList = ps.toList ++ [rawInt pos.line, rawInt pos.col, .ref c'] := by simp
    have atC : H1 c' = some (LamX.CodeO c' (X.env.qual ++ "<lambda>")) := by rw [← hH1]; exact upd_same
    refine h h'.objs.size s.heap.objs.size c' doc ((X.mg "__name__").getD .none) ctv H1 _ dv hl I1 hE (fun p hp => ?_) (Heap.get?_push_size _ rfl) (Heap.get?_push_of_some _ (hx _ _ nPt hat)) ?_ ?_ (away _ (Nat.le_of_lt hsz)) (away _ (Nat.le_refl _)) atC
    · by_cases hb : p.1 = P
      · rw [hu p hp hb, hb]
        refine ⟨_, by rw [← hH1, upd_ne (ne_of_none hP nC), upd_same], by rw [eT]; exact PySem.TriplesOk_snoc _ _ _ _ ht, fun p' cv z => ?_⟩
        rw [eT] at z
        rcases LamX.among_app _ ht z with z | z
        · obtain ⟨c0, e1, e2⟩ := ha p' cv z
          exact ⟨c0, e1, hE _ _ e2 LamX.codeO_ne⟩
        · exact ⟨c', z, atC⟩
      · obtain ⟨ps', a1, a2, a3⟩ := hT p hp
        refine ⟨ps', by rw [at1 _ hb (ne_of_none a1 nC)]; exact a1, a2, fun p' cv z => ?_⟩
        obtain ⟨c0, e1, e2⟩ := a3 p' cv z
        exact ⟨c0, e1, hE _ _ e2 LamX.codeO_ne⟩
    · rw [at1 _ (Nat.ne_of_gt (Nat.lt_of_lt_of_le (Heap.lt_size (I.hok P _ hP)) (Nat.le_of_lt hsz))) (Nat.ne_of_gt hlt)]
      exact I.hok.fresh (Nat.le_of_lt hsz)
    · rw [at1 _ nPt (fun z => by rw [← z] at hge; exact Nat.lt_irrefl _ (Nat.lt_of_lt_of_le big hge))]
      exact ht0
  | some cv =>
    obtain ⟨c', e, hco⟩ := ha pos cv hc
    subst e
    refine kdv_makeTailHit (s := { s with heap := s.heap.push (kdv_tup dv), toks := tk0 }) (mg := X.mg) (c := c) (P := P) (ps := ps) (closure_ok hfree) I.ok.glob (It.mod.glob.keeps It.bk) hcode (TB.code.keeps It.bk) hP1 ht hc bP fun ctv doc h' tk hx hsz => ?_
    have I1 : Inv X pins σ H { s with heap := h'.push (kdv_obj "<lambda>" (X.env.qual ++ "<lambda>") params (.expr body) scope (cloFrom X.env.cells scope.names []) (.ref s.heap.objs.size) doc ((X.mg "__name__").getD .none) c' ctv), toks := tk } :=
      It.kept fun b o e => Heap.get?_push_of_some _ (hx b o e)
    have hle : s.heap.objs.size ≤ h'.objs.size := Nat.le_trans (Nat.le_of_lt big) hsz
    exact h h'.objs.size s.heap.objs.size c' doc ((X.mg "__name__").getD .none) ctv H _ dv hl I1 (LamX.ExtN.refl H) hT (Heap.get?_push_size _ rfl) (Heap.get?_push_of_some _ (hx _ _ hat)) (I.hok.fresh hle) ht0 (away _ hle) (away _ (Nat.le_refl _)) hco
/-- it is called by the def that got it -/
theorem lamD_act {CXg : CXT} {Eg : XK} {Ng : List Str} {qg : Str} {sg : Scope} {g f t c' : Addr} {cdg doc pm ctv : Value} {params : Arguments} {body : Expr} {scope : Scope} {k i : Nat} {a : Str}
    {pn : List (Addr × Obj)} {xe : Value → Shared → Prop} {W : WX} {E : XK} {tb : TE} {p1 p2 : Pos} {dv : List Value} {bs : List (Str × Value)} {kk : Option (Array Value) → Sem (List (Str × Value))}
    (I : Inv X pins σ H s) (L : LamD X.N X.env.scope scope)
    (hf : s.heap.get? f = some (kdv_obj "<lambda>" (X.env.qual ++ "<lambda>") params (.expr body) scope (cloFrom X.env.cells scope.names []) (.ref t) doc pm c' ctv))
    (hft : s.heap.get? t = some (kdv_tup dv)) (hfn : H f = none) (htn : H t = none) (hfr : f ∉ frs X.stack) (htr : t ∉ frs X.stack)
    (b1 : bindArgs (kdv_fn "<lambda>" (X.env.qual ++ "<lambda>") params (.expr body) scope (cloFrom X.env.cells scope.names []) (.ref t) doc pm (.ref c') ctv) ⟨[], []⟩ = seqItems? (.ref t) >>= kk)
    (b2 : kk (some dv.toArray) = pure bs) (b3 : ∀ y ∈ bs, scope.names.lookup y.1 = some .local)
    (tk : Takes ((cxOf CXg X.prog X.w X.K X.mg X.base Ng qg sg g cdg X.A X.stack s H Eg).tr pn xe) W) (hW : ∀ cls d σ' H', E cls d H' → W cls d σ' H')
    (hr : Room (k + 1) (X.A.deeper (envOfC qg sg s.heap.objs.size g cdg)))
    (hbody : ∀ (A : Around) (outer : List Env) (s : Shared) (H : Hp), Room k (A.deeper (LamX.lamEnv X scope s.heap.objs.size f c')) → PE (LamX.lamCx X A outer s H E scope f c') body tb)
    (hN : Ng[i]? = some a) (hv : Vis sg a) (hd : (a == ("__debug__" : Str)) = false := by decide) (hcd : (a == ("__classdict__" : Str)) = false := by decide) :
    PE ((cxOf CXg X.prog X.w X.K X.mg X.base Ng qg sg g cdg X.A X.stack s H Eg).tr pn xe) (.Call (.Name a p1) [] [] p2)
      (fun τ HZ Q => τ[i]? = some (some (.ref f)) ∧ HZ c' = some (LamX.CodeO c' (X.env.qual ++ "<lambda>")) ∧ tb σ HZ Q) := by
  refine ⟨fun pinsZ sZ τ HZ Q IZ ⟨hs, hc, ht⟩ => ?_⟩
  refine wpAny_Call_Name_kw (thn ((pe_var (pos := p1) (i := i) hN hv hd hcd).run pinsZ sZ τ HZ (fun v H1 => v = .ref f ∧ H1 = HZ) IZ ⟨.ref f, hs, rfl, rfl⟩) fun u s1 ⟨v, H1, I1, r1, ev, eH⟩ => ?_)
  subst ev
  rw [eH] at I1
  obtain rfl : u = Value.ref f := r1
  have nx : ∀ b : Addr, b ∉ ([] : List Addr) := fun b z => nomatch z
  have of1 := I1.base.keep f _ hf hfn hfr (nx f)
  have ot1 := I1.base.keep t _ hft htn htr (nx t)
  refine PySem.W.callWith_F0 ⟨_, _, _, _, of1⟩ ?_
  have un : Un (frs X.stack) [] H HZ s.heap s1.heap := I1.base
  obtain ⟨⟨oc, vs, tt, hoc, hdc, hvc⟩, _, _⟩ := I1.hok c' _ hc
  have rc : codeAny (model X.prog X.w) (X.A.deeper (envOfC qg sg s.heap.objs.size g cdg)) (.call (.ref f) ⟨[], []⟩) (CR (L2.CX X.prog X.w) (envOfC qg sg s.heap.objs.size g cdg :: X.stack) X.prog X.w HZ s1 Q E) s1 := by
    refine PySem.W.kla_callFunE hr.depth of1 rfl L.co L.ge rfl ⟨c', oc, vs, tt, rfl, hoc, hdc, hvc⟩ ?_
    refine (BindsTo.of_defaults rfl ot1 rfl b1 b2 : BindsTo s1 _ _ bs) _ _ _ _ ?_
    refine wpAny_newFunctionEnv (fun y hy => L.cl y hy) b3 (fun h1 hns hsb => ⟨I1.nolimit.fresh _ hsb, ?_⟩) L.kd
    show codeAny _ _ (.expr body (LamX.lamEnv X scope s1.heap.objs.size f c')) _ _
    have kp : ∀ b o, s1.heap.get? b = some o → h1.get? b = some o := fun b o e => hsb.extBut b o (Nat.ne_of_lt (Heap.lt_size e)) (Heap.get?_push_of_some _ e)
    have J := lamD_in (E := E) (f := f) (c' := c') (tk := s1.toks + bs.length) I L I1.env0 hr.hd un hns kp
    refine PySem.W.kla_codeExpr (wpAny_mono ((hbody _ _ s1 HZ (hr.deeper _)).run [] _ _ HZ Q J ht) (fun v s' hq => ?_) fun e s' hq => hq)
    obtain ⟨w', H', J', rv, q⟩ := hq
    exact ⟨w', H', J'.os, J'.bare, J'.base, J'.hok, rv, q⟩
  have hx : Passes (L2.CX X.prog X.w) ((cxOf CXg X.prog X.w X.K X.mg X.base Ng qg sg g cdg X.A X.stack s H Eg).tr pn xe) E := passes_call tk hW
  refine wpAny_call (codeAny_mono rc fun r s' hq => ?_)
  cases r with
  | error e => exact hx pinsZ τ HZ s1 e s' I1 hq
  | ok fl =>
    cases fl with
    | ret u => exact I1.after hq
    | next => exact False.elim hq
    | brk => exact False.elim hq
    | cont => exact False.elim hq
end
section
variable {X : Cx}
/-- x(lambda a=0, ..: body) -/
theorem pe_lamcallD {T : List (Addr × Str)} {TT : (XK → Hp → VK → Prop) → Hp → VK → Prop} {x a : Str} {g c P : Addr} {k : Nat} {pg : Arguments} {bg : List Stmt} {sg : Scope} {dV kV doc pm cdv ct oc : Value} {an od : Option Addr}
    {osl : Array (Option Value)} {Ng : List Str} {params : Arguments} {body : Expr} {scope : Scope} {t : XK → TE} {p lpos pos : Pos} {nd : Nat} (hg : Gl X x)
    (hm : X.mg x = some (.ref g)) (hk : keepIn X.K (.ref g) = true) (lk : X.K.lookup g = some ⟨oc, od, .func (fnOf x x pg bg sg dV kV doc pm an cdv ct), osl⟩) (hcg : codeIn X.K cdv x = true)
    (hb : Binds X.K (fnOf x x pg bg sg dV kV doc pm an cdv ct) [a] []) (Sg : FnScope Ng [a] sg) (hNg : Ng[0]? = some a) (hva : Vis sg a)
    (hG : LamX.GivesTo X Ng x sg g cdv bg a (X.env.qual ++ "<lambda>") TT) (TB : LamX.TabB X.base X.mg c P) (hcode : X.env.code = .ref c)
    (hmT : (P, X.env.qual ++ "<lambda>") ∈ T) (hu : ∀ p ∈ T, p.1 = P → p.2 = X.env.qual ++ "<lambda>") (hr : Room (k + 2) X.A) (L : LamD X.N X.env.scope scope)
    (d0 : params.defaults.isEmpty = false) (k0 : params.kw_defaults = []) (n0 : 0 < nd)
    (hdv : ∀ (M : Model) (A : Around) (E : Value → Shared → Prop) (Q : List Value → Shared → Prop) (s : Shared), (∀ dv tk, dv.length = nd → Q dv { s with toks := tk }) → wpAny M A (evalAll (evalEach params.defaults X.env)) Q E s)
    (hbind : ∀ (q : Str) (cl : List (Str × Addr)) (t : Addr) (doc pm cv ctv : Value) (dv : List Value), dv.length = nd → ∃ (kk : Option (Array Value) → Sem (List (Str × Value))) (bs : List (Str × Value)),
      bindArgs (kdv_fn "<lambda>" q params (.expr body) scope cl (.ref t) doc pm cv ctv) ⟨[], []⟩ = seqItems? (.ref t) >>= kk ∧ kk (some dv.toArray) = pure bs ∧ ∀ y ∈ bs, scope.names.lookup y.1 = some .local)
    (hbody : ∀ (A : Around) (outer : List Env) (s : Shared) (H : Hp) (E : XK) (f c' : Addr), Room k (A.deeper (LamX.lamEnv X scope s.heap.objs.size f c')) → PE (LamX.lamCx X A outer s H E scope f c') body (t E))
    (hdb : (x == ("__debug__" : Str)) = false := by decide) (hd : (a == ("__debug__" : Str)) = false := by decide) (hcd : (a == ("__classdict__" : Str)) = false := by decide) :
    PE X (.Call (.Name x p) [.Lambda params body scope lpos] [] pos) (LamX.tLam T TT t) := by
  refine ⟨fun pins s σ H Q I ⟨hT, h⟩ => ?_⟩
  refine wpAny_Call_Name_kw (ld_glob I hg hm ?_ hdb)
  refine PySem.W.callWith_K (h₀ := X.base) I.ok.mod.kin hk ?_ (by rfl) (by rfl)
  show wpAny _ _ (spliced ((false, eval (.Lambda params body scope lpos) X.env) :: backTo pos (starEach [] X.env))) _ _ s
  refine Calls.spliced_cons (lamD_make I TB hcode hmT hu hT d0 k0 n0 (fun M A Q s => hdv M A _ Q s) (L.has I.ok) fun f t' c' doc' pm' ctv H1 s' dv hl I1 eN T1 hf hft hfn htn hfr htr hco => ?_)
  refine Calls.spliced_nil ⟨I1.kIn, ?_⟩
  have rc : codeAny (model X.prog X.w) X.A (.call (.ref g) ⟨[.ref f], []⟩) (CR C8.CX0 X.stack X.prog X.w H1 s' Q C8.E0) s' := by
    refine LamX.run_ofS (N := Ng) (ps := [a]) (us := [.ref f]) (vs := [.ref f]) lk hcg Sg hr I1.env0 (hb s' [.ref f] I1.kIn rfl) (.cons rfl .nil) rfl fun hr' => ?_
    obtain ⟨kk, bs, b1, b2, b3⟩ := hbind (X.env.qual ++ "<lambda>") (cloFrom X.env.cells scope.names []) t' doc' pm' (.ref c') ctv dv hl
    obtain ⟨tq, hq1, hq2⟩ := hG f c' s' H1 Q (fun E H' Q' => t E σ H' Q') (fun W pn xe E p1 p2 tk hW =>
      lamD_act (i := 0) I1 L hf hft hfn htn hfr htr b1 b2 b3 tk hW hr' (fun A outer s H hr2 => hbody A outer s H E f c' hr2) hNg hva hd hcd) hco (h H1 eN T1)
    exact ⟨tq, hq1.nox, hq2⟩
  refine wpAny_call (codeAny_mono rc fun r s2 hq => ?_)
  cases r with
  | error e => exact (show False from hq).elim
  | ok fl =>
    cases fl with
    | ret u => exact I1.after hq
    | next => exact False.elim hq
    | brk => exact False.elim hq
    | cont => exact False.elim hq
/-- the defaults: whole numbers as they are written -/
theorem dflt1 {env : Env} {i1 : Int} {k1 : Nat} {q1 : Pos} (M : Model) (A : Around) (E : Value → Shared → Prop) (Q : List Value → Shared → Prop) (s : Shared) (h : ∀ dv tk, dv.length = 1 → Q dv { s with toks := tk }) :
    wpAny M A (evalAll (evalEach [.Constant (.int i1) k1 q1] env)) Q E s :=
  kdv_all1 (wpAny_Constant_int (kdv_all0 (h _ _ rfl)))
theorem dflt2 {env : Env} {i1 i2 : Int} {k1 k2 : Nat} {q1 q2 : Pos} (M : Model) (A : Around) (E : Value → Shared → Prop) (Q : List Value → Shared → Prop) (s : Shared) (h : ∀ dv tk, dv.length = 2 → Q dv { s with toks := tk }) :
    wpAny M A (evalAll (evalEach [.Constant (.int i1) k1 q1, .Constant (.int i2) k2 q2] env)) Q E s :=
  kdv_all1 (wpAny_Constant_int (kdv_all1 (wpAny_Constant_int (kdv_all0 (h _ _ rfl)))))
end
end L2.Jk

set_option Elab.async false
set_option linter.all false
set_option maxRecDepth 100000
set_option maxHeartbeats 4000000
/-! The law: the place that is told, asked by a lambda. -/
namespace L2.K76
open PySem PySem.W PySem.Spec PySem.Calls PyProof.Rows L2.Jk
/-- a def whose code object is known -/
theorem FunD.okC {P : Program} {w : World} {K : Frag} {mg : Str → Option Value} {base : Heap} {x qual : Str} {params : Arguments} {body : List Stmt} {scope : Scope} {dvs : List V} {kws : List (Str × V)} {f c : Addr} {fd : FuncData} {CX : CXT} {N ps : List Str} {k : Nat} {sp : Sp}
    (F : FunD K x qual params body scope dvs kws f fd) (hc : fd.code = .ref c) (S : FnScope N ps scope) (len : ∀ vs H Q E, sp vs H Q E → vs.length = ps.length)
    (hbody : ∀ (A : Around) (outer : List Env) (s : Shared) (H : Hp) (vs : List V) (Q : VK) (E : XK), Room k (A.deeper (envOfC qual scope s.heap.objs.size f (.ref c))) → sp vs H Q E →
      ∃ t, PSs (cxOf CX P w K mg base N qual scope f (.ref c) A outer s H E) body t ∧ t { nx := fun _ H' => Q .non H', rt := Q } (start N vs) H) : FnOk P w K mg base CX (k + 1) f fd ps sp := by
  obtain ⟨oc, od, dV, kV, doc, pm, an, cdv, ct, osl, rfl, lk, hcd, _, _⟩ := F.ex
  have e : cdv = .ref c := hc
  subst e
  exact fn_of lk hcd S len fun A outer s H vs Q E hr hsp => hbody A outer s H vs Q E hr hsp
theorem takes_len {X : Cx} {W : WX} (t : Takes X W) : Takes X (fun cls d σ H => σ.length = X.N.length → W cls d σ H) := fun u s' ⟨a, B, sI, pins, σ, H, cls, d, e, I, nb, up, sky, na, os, ag, w⟩ =>
  t u s' ⟨a, B, sI, pins, σ, H, cls, d, e, I, nb, up, sky, na, os, ag, w I.len⟩
/-- what _law_place tells of what it is handed: a tuple of NoRow's place, None where nothing is raised -/
def TTp (K : Frag) : (XK → Hp → VK → Prop) → Hp → VK → Prop := fun tl H Q =>
  tl (fun cls d H' => cls = .ref (NR K) ∧ ∃ dd z, d = some dd ∧ H' dd = some (.xd [("place", .int z)]) ∧ ∀ t H2, H' t = none → Same H' H2 → H2 t = some (.tup [.int z]) → Q (.ref t) H2) H (fun _ H' => Q .non H')
abbrev s_place : Stmt := top 55
theorem sc_place : FnScope ["_law_ask", "e"] ["_law_ask"] (defScope s_place) := ⟨rfl, rfl, rfl, by decide +kernel, rfl, by decide +kernel, by decide +kernel⟩
theorem place_gives {X : Cx} {g : Addr} {cdg : Value} {q : Str} (nr : ErrAt X.prog X.w X.K X.mg X.base "NoRow" (NR X.K) ["place"] "refused norow") (mgJ : X.mg "JointError" = some (.ref (He.ga X.K "JointError"))) (exm : exmOne X.K (.ref (NR X.K)) (.ref (NR X.K)) = some true) :
    LamX.GivesTo X ["_law_ask", "e"] "_law_place" (defScope s_place) g cdg (defBody s_place) "_law_ask" q (TTp X.K) := by
  intro f c' s H Q tl act hc h
  refine ⟨_, pss_cons (ps_try_hnd (X := (cxOf C8.CX0 X.prog X.w X.K X.mg X.base ["_law_ask", "e"] "_law_place" (defScope s_place) g cdg X.A X.stack s H C8.E0).nox)
      (tb := fun W D σ H => ∃ Ech : XK, (∀ cls d σ' H', σ'.length = 2 → Ech cls d H' → W cls d σ' H') ∧ σ[0]? = some (some (.ref f)) ∧ H c' = some (LamX.CodeO c' q) ∧ tl Ech H fun _ H' => D.nx σ H')
      rfl rfl (fun W pn xe tk _ => ?_) (hnd_as (i := 1) sc_place.nd rfl rfl ⟨rfl, by decide, .inl nr.mgC⟩ (fun a_ oe cls d_ pn hz hf => pss_one (ps_ret (pe_tupS (pa_cons (pe_xf nr.ex.ec.xf (nr.ex.no _ (by decide +kernel)) hz hf (pv 1)) pa_nil)))) (hnd_un ⟨rfl, by decide, .inl mgJ⟩ (fun a_ oe cls d_ pn hz hf => pss_one (ps_ret pe_str)) (hnd_nil takes0)))) (pss_one (ps_ret pe_non)), ?_⟩
  · refine ⟨fun pins s' σ H' D I h' => ?_⟩
    obtain ⟨Ech, hW, h1, h2, h3⟩ := h'
    exact (pss_one (ps_expr (act _ pn xe Ech _ _ (takes_len tk) (fun cls d σ' H' e hl => hW cls d σ' H' hl e)))).run pins s' σ H' D I ⟨h1, h2, h3⟩
  · refine ⟨_, fun cls d σ' H' hl e => ?_, rfl, hc, h⟩
    obtain ⟨rfl, dd, z, rfl, ex, q⟩ := e
    match σ', hl with
    | [x, y], _ => exact ⟨true, exm, fun _ a0 ha0 => ⟨_, rfl, rfl, rfl, dd, _, _, rfl, ex, place_look, by show 1 ≤ 1000; decide, fun t H3 ht S3 e3 => q t H3 ht S3 e3⟩, fun qq => Bool.noConfusion qq⟩
structure PlaceAt (K : Frag) (mg : Str → Option Value) : Prop where
  ex : ∃ g fd, mg "_law_place" = some (.ref g) ∧ FunD K "_law_place" "_law_place" (defArgs s_place) (defBody s_place) (defScope s_place) [] [] g fd ∧ Binds K fd ["_law_ask"] []
theorem pe_place {X : Cx} {T : List (Addr × Str)} {params : Arguments} {body : Expr} {scope : Scope} {t : XK → TE} {k : Nat} {p lpos pos : Pos} {c P : Addr} (hp : PlaceAt X.K X.mg) (nr : ErrAt X.prog X.w X.K X.mg X.base "NoRow" (NR X.K) ["place"] "refused norow") (mgJ : X.mg "JointError" = some (.ref (He.ga X.K "JointError")))
    (exm : exmOne X.K (.ref (NR X.K)) (.ref (NR X.K)) = some true) (hg : Gl X "_law_place") (TB : LamX.TabB X.base X.mg c P) (hcode : X.env.code = .ref c) (eT : T = [(P, X.env.qual ++ "<lambda>")]) (hr : Room (k + 2) X.A) (L : LamX.LamS X.env.scope scope) (hdef : defaultsOf params X.env = ([], []))
    (hbind : ∀ (q : Str) (cl : List (Str × Addr)) (pm cv ctv : Value), bindArgs (PySem.W.kla_fn "<lambda>" q params body scope cl pm cv ctv) ⟨[], []⟩ = pure [])
    (hbody : ∀ (A : Around) (outer : List Env) (s : Shared) (H : Hp) (E : XK) (f c' : Addr), Room k (A.deeper (LamX.lamEnv X scope s.heap.objs.size f c')) → PE (LamX.lamCx X A outer s H E scope f c') body (t E)) :
    PE X (.Call (.Name "_law_place" p) [.Lambda params body scope lpos] [] pos) (LamX.tLam T (TTp X.K) t) := by
  subst eT
  obtain ⟨g, fd, hm, F, hb⟩ := hp
  obtain ⟨oc, od, dV, kV, doc, pm, an, cdv, ct, osl, rfl, lk, hcd, _, _⟩ := F.ex
  exact LamX.pe_lamcall (a := "_law_ask") (Ng := ["_law_ask", "e"]) hg hm F.kp lk hcd hb sc_place rfl (Or.inl rfl) (place_gives nr mgJ exm) TB hcode (List.mem_singleton_self _) (fun p hp _ => by rw [List.mem_singleton.mp hp]) hr L hdef hbind hbody
theorem pe_placeD {X : Cx} {T : List (Addr × Str)} {params : Arguments} {body : Expr} {scope : Scope} {t : XK → TE} {k : Nat} {p lpos pos : Pos} {c P : Addr} {nd : Nat} (hp : PlaceAt X.K X.mg)
    (nr : ErrAt X.prog X.w X.K X.mg X.base "NoRow" (NR X.K) ["place"] "refused norow") (mgJ : X.mg "JointError" = some (.ref (He.ga X.K "JointError"))) (exm : exmOne X.K (.ref (NR X.K)) (.ref (NR X.K)) = some true) (hg : Gl X "_law_place")
    (TB : LamX.TabB X.base X.mg c P) (hcode : X.env.code = .ref c) (eT : T = [(P, X.env.qual ++ "<lambda>")]) (hr : Room (k + 2) X.A) (L : LamD X.N X.env.scope scope)
    (d0 : params.defaults.isEmpty = false) (k0 : params.kw_defaults = []) (n0 : 0 < nd)
    (hdv : ∀ (M : Model) (A : Around) (E : Value → Shared → Prop) (Q : List Value → Shared → Prop) (s : Shared), (∀ dv tk, dv.length = nd → Q dv { s with toks := tk }) → wpAny M A (evalAll (evalEach params.defaults X.env)) Q E s)
    (hbind : ∀ (q : Str) (cl : List (Str × Addr)) (t : Addr) (doc pm cv ctv : Value) (dv : List Value), dv.length = nd → ∃ (kk : Option (Array Value) → Sem (List (Str × Value))) (bs : List (Str × Value)),
      bindArgs (kdv_fn "<lambda>" q params (.expr body) scope cl (.ref t) doc pm cv ctv) ⟨[], []⟩ = seqItems? (.ref t) >>= kk ∧ kk (some dv.toArray) = pure bs ∧ ∀ y ∈ bs, scope.names.lookup y.1 = some .local)
    (hbody : ∀ (A : Around) (outer : List Env) (s : Shared) (H : Hp) (E : XK) (f c' : Addr), Room k (A.deeper (LamX.lamEnv X scope s.heap.objs.size f c')) → PE (LamX.lamCx X A outer s H E scope f c') body (t E)) :
    PE X (.Call (.Name "_law_place" p) [.Lambda params body scope lpos] [] pos) (LamX.tLam T (TTp X.K) t) := by
  subst eT
  obtain ⟨g, fd, hm, F, hb⟩ := hp
  obtain ⟨oc, od, dV, kV, doc, pm, an, cdv, ct, osl, rfl, lk, hcd, _, _⟩ := F.ex
  exact pe_lamcallD (a := "_law_ask") (Ng := ["_law_ask", "e"]) hg hm F.kp lk hcd hb sc_place rfl (Or.inl rfl) (place_gives nr mgJ exm) TB hcode (List.mem_singleton_self _) (fun p hp _ => by rw [List.mem_singleton.mp hp]) hr L d0 k0 n0 hdv hbind hbody
/-! ### all but the tables stays -/
theorem FieldAt.extN {K : Frag} {H H' : Hp} {y : Addr} (e : LamX.ExtN H H') : ∀ {d : PD}, FieldAt K H y d → FieldAt K H' y d
  | .word .., ⟨dx, h⟩ => ⟨dx, e _ _ h (fun _ z => by cases z)⟩
  | .number .., ⟨dx, h⟩ => ⟨dx, e _ _ h (fun _ z => by cases z)⟩
  | .fixed _, ⟨dx, h⟩ => ⟨dx, e _ _ h (fun _ z => by cases z)⟩
  | .listed _, ⟨dx, t, h, ⟨o, c, d, g⟩⟩ => ⟨dx, t, e _ _ h (fun _ z => by cases z), o, c, d, e _ _ g (fun _ z => by cases z)⟩
  | .ended .., ⟨dx, h⟩ => ⟨dx, e _ _ h (fun _ z => by cases z)⟩
theorem FdAt.extN {K : Frag} {H H' : Hp} {y : Addr} (e : LamX.ExtN H H') : ∀ {d : FD}, FdAt K H y d → FdAt K H' y d
  | .pl _, ⟨h, i⟩ => ⟨h.extN e, i⟩
  | .mk _ _ _, ⟨⟨dx, z, h, k⟩, i⟩ => ⟨⟨dx, z, e _ _ h (fun _ z => by cases z), k.extN e⟩, i⟩
theorem rd_extN {H H' : Hp} {a : Addr} {o : HO} (e : LamX.ExtN H H') (n : ∀ ps, o ≠ .tbl ps) (h : Rd H a o) : Rd H' a o := by
  rcases h with h | ⟨u, h⟩
  · exact .inl (e _ _ h n)
  · exact .inr ⟨u, e _ _ h (fun _ z => by cases z)⟩
theorem seqT_extN {K : Frag} {H H' : Hp} {t : Addr} {xs : List V} (e : LamX.ExtN H H') (h : SqT K H t xs) : SqT K H' t xs := h.imp (rd_extN e (fun _ z => by cases z)) id
theorem seqL_extN {K : Frag} {H H' : Hp} {t : Addr} {xs : List V} (e : LamX.ExtN H H') (h : SqL K H t xs) : SqL K H' t xs := h.imp (rd_extN e (fun _ z => by cases z)) id
theorem LayAt.extN {K : Frag} {H H' : Hp} {L : Addr} {ds : List FD} {js : List Str} (e : LamX.ExtN H H') (h : LayAt K H L ds js) : LayAt K H' L ds js := by
  obtain ⟨⟨dx, t1, t2, ys, a, b, c, d⟩, o⟩ := h
  refine ⟨⟨dx, t1, t2, ys, e _ _ a (fun _ z => by cases z), seqT_extN e b, ⟨c.1, fun i v d a b => ?_⟩, seqT_extN e d⟩, o⟩
  obtain ⟨y, ev, k⟩ := c.2 i v d a b
  exact ⟨y, ev, k.extN e⟩
theorem StAt.extN {H H' : Hp} {a : Addr} (e : LamX.ExtN H H') (h : StAt H a) : StAt H' a := by
  obtain ⟨p, q, r, x, y⟩ := h
  exact ⟨p, q, r, e _ _ x (fun _ z => by cases z), y⟩
/-- all but the tables and what stands at one place -/
def ButN (a : Addr) (H H' : Hp) : Prop := ∀ b o, b ≠ a → H b = some o → (∀ ps, o ≠ .tbl ps) → H' b = some o
theorem ButN.refl (a : Addr) (H : Hp) : ButN a H H := fun _ _ _ h _ => h
theorem ButN.trans {a : Addr} {H H1 H2 : Hp} (x : ButN a H H1) (y : ButN a H1 H2) : ButN a H H2 := fun b o n h k => y b o n (x b o n h k) k
theorem ButN.of_but {a : Addr} {H H' : Hp} (x : But a H H') : ButN a H H' := fun b o n h _ => x b o n h
theorem ButN.of_ext {a : Addr} {H H' : Hp} (x : LamX.ExtN H H') : ButN a H H' := fun b o _ h k => x b o h k
theorem tabs_but {T : List (Addr × Str)} {H H' : Hp} {a : Addr} {xs : List V} (ha : H a = some (.lst xs)) (B : But a H H') (t : LamX.Tabs T H) : LamX.Tabs T H' := fun p hp => by
  obtain ⟨ps, h1, h2, h3⟩ := t p hp
  refine ⟨ps, B _ _ (ne_of h1 ha (fun z => by cases z)) h1, h2, fun pos cv hc => ?_⟩
  obtain ⟨c, e1, e2⟩ := h3 pos cv hc
  exact ⟨c, e1, B _ _ (ne_of e2 ha (fun z => by unfold LamX.CodeO at z; cases z)) e2⟩
theorem tabs_same {T : List (Addr × Str)} {H H' : Hp} (S : Same H H') (t : LamX.Tabs T H) : LamX.Tabs T H' := t.ext S
theorem nl_ext {H H' : Hp} (e : LamX.ExtN H H') : ∀ b o, (∀ ps, o ≠ .tbl ps) → H b = some o → H' b = some o := fun b o n h => e b o h n
theorem DIs.extN {H H' : Hp} {kvs : List (Key × V)} {m : Mp} (e : LamX.ExtN H H') (h : DIs H kvs m) : DIs H' kvs m := h.mono fun _ _ q => e _ _ q (fun _ z => by cases z)
theorem StA.extN {K : Frag} {H H' : Hp} {S L Tx Kd : Addr} {m : Mp} {n : Nat} (e : LamX.ExtN H H') (h : StA K H S L Tx Kd m n) : StA K H' S L Tx Kd m n := by
  obtain ⟨⟨dx, a⟩, ⟨ts, b, c⟩, kvs, d, g⟩ := h
  exact ⟨⟨dx, e _ _ a (fun _ z => by cases z)⟩, ⟨ts, e _ _ b (fun _ z => by cases z), c⟩, kvs, e _ _ d (fun _ z => by cases z), g.extN e⟩
end L2.K76

set_option Elab.async false
set_option linter.all false
set_option maxRecDepth 100000
set_option maxHeartbeats 4000000
/-! The law: what a store says of one thing, asked four ways. -/
namespace L2.K76
open PySem PySem.W PySem.Spec PySem.Calls PyProof.Rows L2.Jk
theorem lStore_m {l x k : V} (m : Str) (h : m ≠ "kept" ∧ m ≠ "texts" ∧ m ≠ "layout") : (fStore l x k).lookup m = none := by
  unfold fStore
  rw [lookup_putF, if_neg h.1, lookup_putF, if_neg h.2.1, lookup_putF, if_neg h.2.2]
  rfl
def qLam : Str := "_law_all_said.<locals>.<lambda>"
theorem SeqIs.extN {K : Frag} {H H' : Hp} {v : V} {o : Option (List V)} (e : LamX.ExtN H H') : SeqIs K H v o → SeqIs K H' v o
  | .flat h => .flat h
  | .dict h => .dict (e _ _ h (fun _ z => by cases z))
  | .lst h => .lst (e _ _ h (fun _ z => by cases z))
  | .tup h => .tup (e _ _ h (fun _ z => by cases z))
theorem Thg.extN {H H' : Hp} {v : V} (e : LamX.ExtN H H') : Thg H v → Thg H' v
  | .inl h => .inl h
  | .inr ⟨p, q, .inl ⟨xs, h⟩⟩ => .inr ⟨p, q, .inl ⟨xs, e _ _ h (fun _ z => by cases z)⟩⟩
  | .inr ⟨p, q, .inr (.inl ⟨xs, h⟩)⟩ => .inr ⟨p, q, .inr (.inl ⟨xs, e _ _ h (fun _ z => by cases z)⟩)⟩
  | .inr ⟨p, q, .inr (.inr ⟨kvs, h⟩)⟩ => .inr ⟨p, q, .inr (.inr ⟨kvs, e _ _ h (fun _ z => by cases z)⟩)⟩
theorem RowIn.extN {H H' : Hp} (e : LamX.ExtN H H') : ∀ {o : Option (List V)}, RowIn H o → RowIn H' o
  | none, _ => trivial
  | some _, ⟨a, b⟩ => ⟨a, fun x hx => ⟨Thg.extN e (b x hx).1, (b x hx).2⟩⟩
def lastD : Option Int → PyData
  | some y => .tuple [.int y]
  | none => .none
def saidD (z : Int) (h : Option Int) : List PyData := [.tuple [.int z], .tuple [.int z], .tuple [.int z], lastD h]
def spAs (K : Frag) (P0 : Addr) : Sp := fun vs H Q _ => ∃ (S L Tx Kd : Addr) (ds : List FD) (js : List Str) (m : Mp) (n : Nat) (v : V) (o : Option (List V)) (z : Int), vs = [.ref S, v] ∧ StA K H S L Tx Kd m n ∧ n < 1000 ∧ LayAt K H L ds js ∧
  SeqIs K H v o ∧ RowIn H o ∧ v ≠ .ref Tx ∧ LamX.Tabs [(P0, qLam)] H ∧ rowDue ds o = some z ∧ (headDue ds o = none → ∀ xs, o = some xs → RowT ds xs) ∧
  ∀ D us H', H' D = some (.lst us) → (∀ H2, Same H' H2 → DpAll K H2 us (saidD z (headDue ds o))) → LamX.ExtN H H' → LamX.Tabs [(P0, qLam)] H' → Q (.ref D) H'
structure GAs (P : Program) (w : World) (K : Frag) (mg : Str → Option Value) (base : Heap) : Prop extends GW P w K mg base where
  cStore : C0 K mg "Store" ["layout", "texts", "kept"]
  mPut : MetAt P w K mg base (L2.CX P w) 7 (SC K) "put" ["self", "row", "number"] (spPut K)
  mTake : MetAt P w K mg base (L2.CX P w) 7 (SC K) "take" ["self", "row"] (spTake K)
  mGet : MetAt P w K mg base (L2.CX P w) 7 (SC K) "get" ["self", "row"] (spGet K)
  mScan : MetAt P w K mg base (L2.CX P w) 6 (SC K) "scan" ["self", "values"] (spScan K)
  mSize : MetAt P w K mg base CX0 1 (SC K) "size" ["self"] (spSize K)
  kStore : ClsAt P w K mg base CX0 1 "Store" (SC K) ["self", "layout"] (spStI K)
  place : PlaceAt K mg
section
variable {P : Program} {w : World} {K : Frag} {mg : Str → Option Value} {base : Heap} {f : Addr} {fd : FuncData}

abbrev s_as : Stmt := top 56
theorem sc_as : FnScope ["_law_store", "_law_row_here", "_law_found"] ["_law_store", "_law_row_here"] (defScope s_as) := ⟨rfl, rfl, rfl, by decide +kernel, rfl, by decide +kernel, by decide +kernel⟩

theorem ok_as (F : FunD K "_law_all_said" "_law_all_said" (defArgs s_as) (defBody s_as) (defScope s_as) [] [] f fd) (G : GAs P w K mg base) {c0 P0 : Addr} (hc0 : fd.code = .ref c0) (TB : LamX.TabB base mg c0 P0) : FnOk P w K mg base CX0 10 f fd ["_law_store", "_law_row_here"] (spAs K P0) := by
  refine FunD.okC (CX := CX0) F hc0 sc_as (fun vs H Q E h => ?_) (fun A outer s H vs Q E hr h => ?_)
  · obtain ⟨_, _, _, _, _, _, _, _, _, _, _, rfl, _⟩ := h
    rfl
  · refine ⟨_, PSs.nox (pss_cons (ps_set (i := 2) sc_as.nd rfl (Or.inl rfl) (pe_lstS (pa_cons (pe_place (T := [(P0, qLam)]) (k := 7) G.place G.nr G.mgJ G.exm (by rfl) TB rfl (by rfl) hr (LamX.lamS_by (by show LamX.lamSB (defScope s_as) _ = true; decide +kernel)) rfl (fun _ _ _ _ _ => rfl) (fun A outer s H E f c' hr2 => pe_metS G.mPut (hr2.mono (by decide)) (pv 0) (fun σ => passAt (takes_of rfl rfl rfl rfl) σ) (pa_cons (pv 1) (pa_cons pe_int pa_nil)))) (pa_cons (pe_placeD (T := [(P0, qLam)]) (k := 7) (nd := 1) G.place G.nr G.mgJ G.exm (by rfl) TB rfl (by rfl) hr (lamD_by (by show lamDB ["_law_store", "_law_row_here", "_law_found"] (defScope s_as) _ = true; decide +kernel)) rfl rfl (by decide) (fun M A E Q s h => dflt1 M A E Q s h) (fun q cl t doc pm cv ctv dv hl => match dv, hl with | [u], _ => ⟨_, _, rfl, rfl, (fun y hy => by rcases List.mem_singleton.mp hy with rfl; rfl)⟩) (fun A outer s H E f c' hr2 => pe_metS G.mTake (hr2.mono (by decide)) (pv 0) (fun σ => passAt (takes_of rfl rfl rfl rfl) σ) (pa_cons (pv 1) pa_nil))) pa_nil))))
    (pss_one (ps_ret (pe_op op_catS (pv 2) (pe_lstS (pa_cons (pe_placeD (T := [(P0, qLam)]) (k := 7) (nd := 1) G.place G.nr G.mgJ G.exm (by rfl) TB rfl (by rfl) hr (lamD_by (by show lamDB ["_law_store", "_law_row_here", "_law_found"] (defScope s_as) _ = true; decide +kernel)) rfl rfl (by decide) (fun M A E Q s h => dflt1 M A E Q s h) (fun q cl t doc pm cv ctv dv hl => match dv, hl with | [u], _ => ⟨_, _, rfl, rfl, (fun y hy => by rcases List.mem_singleton.mp hy with rfl; rfl)⟩) (fun A outer s H E f c' hr2 => pe_metS G.mGet (hr2.mono (by decide)) (pv 0) (fun σ => passAt (takes_of rfl rfl rfl rfl) σ) (pa_cons (pv 1) pa_nil))) (pa_cons (pe_placeD (T := [(P0, qLam)]) (k := 7) (nd := 2) G.place G.nr G.mgJ G.exm (by rfl) TB rfl (by rfl) hr (lamD_by (by show lamDB ["_law_store", "_law_row_here", "_law_found"] (defScope s_as) _ = true; decide +kernel)) rfl rfl (by decide) (fun M A E Q s h => dflt2 M A E Q s h) (fun q cl t doc pm cv ctv dv hl => match dv, hl with | [u, u2], _ => ⟨_, _, rfl, rfl, (fun y hy => by rcases List.mem_cons.mp hy with rfl | hy; rfl; rcases List.mem_singleton.mp hy with rfl; rfl)⟩) (fun A outer s H E f c' hr2 => pe_metS G.mScan (hr2.mono (by decide)) (pv 0) (fun σ => passAt (takes_of rfl rfl rfl rfl) σ) (pa_cons (pv 1) pa_nil))) pa_nil))))))), ?_⟩
    obtain ⟨S, L, Tx, Kd, ds, js, m, n, v, o, z, rfl, hS, hn, hLy, hsq, hR, nv, hT, due, hhd, q⟩ := h
    have X0 := LamX.ExtN.refl H
    refine ⟨hT, fun F1 x1 t1 => ?_⟩
    have Y1 := X0.trans x1
    obtain ⟨dx1, eS1⟩ := (hS.extN Y1).ex
    refine ⟨_, rfl, S, dx1, _, rfl, eS1, lStore_m _ (by decide +kernel), _, rfl, S, L, Tx, Kd, ds, js, m, n, v, o, 5, rfl, hS.extN Y1, hn, hLy.extN Y1, hsq.extN Y1, hR.extN Y1, nv, (fun gd => by rw [due] at gd; cases gd), fun z1 hz1 d1 K1 hd1 s1 m1 => ?_⟩
    obtain rfl := Option.some.inj (due.symm.trans hz1)
    refine ⟨rfl, d1, _, rfl, m1, fun p1 G1 hp1 g1 e1 => ?_⟩
    have X1 := Y1.trans (LamX.ExtN.of (s1.trans g1))
    have u1 := tabs_same (s1.trans g1) t1
    refine ⟨u1, fun F2 x2 t2 => ?_⟩
    have Y2 := X1.trans x2
    obtain ⟨dx2, eS2⟩ := (hS.extN Y2).ex
    refine ⟨_, rfl, S, dx2, _, rfl, eS2, lStore_m _ (by decide +kernel), _, rfl, S, L, Tx, Kd, ds, js, m, n, v, o, rfl, hS.extN Y2, Nat.le_of_lt hn, hLy.extN Y2, hsq.extN Y2, hR.extN Y2, (fun gd => by rw [due] at gd; cases gd), fun z2 hz2 d2 K2 hd2 s2 m2 => ?_⟩
    obtain rfl := Option.some.inj (due.symm.trans hz2)
    refine ⟨rfl, d2, _, rfl, m2, fun p2 G2 hp2 g2 e2 => ?_⟩
    have X2 := Y2.trans (LamX.ExtN.of (s2.trans g2))
    have u2 := tabs_same (s2.trans g2) t2
    refine ⟨by show 2 ≤ 1000; decide, fun D1 J1 hD1 w1 v1 => ?_⟩
    have X2' := X2.trans (LamX.ExtN.of w1)
    have u2' := tabs_same w1 u2
    refine ⟨_, rfl, u2', fun F3 x3 t3 => ?_⟩
    have Y3 := X2'.trans x3
    obtain ⟨dx3, eS3⟩ := (hS.extN Y3).ex
    refine ⟨_, rfl, S, dx3, _, rfl, eS3, lStore_m _ (by decide +kernel), _, rfl, S, L, Tx, Kd, ds, js, m, n, v, o, rfl, hS.extN Y3, hLy.extN Y3, hsq.extN Y3, hR.extN Y3, (fun gd => by rw [due] at gd; cases gd), fun z3 hz3 d3 K3 hd3 s3 m3 => ?_⟩
    obtain rfl := Option.some.inj (due.symm.trans hz3)
    refine ⟨rfl, d3, _, rfl, m3, fun p3 G3 hp3 g3 e3 => ?_⟩
    have X3 := Y3.trans (LamX.ExtN.of (s3.trans g3))
    have u3 := tabs_same (s3.trans g3) t3
    refine ⟨u3, fun F4 x4 t4 => ?_⟩
    have Y4 := X3.trans x4
    obtain ⟨dx4, eS4⟩ := (hS.extN Y4).ex
    have N3 : LamX.ExtN G1 F4 := (((LamX.ExtN.of (Same.refl _)).trans x2).trans (LamX.ExtN.of (s2.trans g2))).trans ((LamX.ExtN.of w1).trans (x3.trans ((LamX.ExtN.of (s3.trans g3)).trans x4)))
    have N2 : LamX.ExtN G2 F4 := (LamX.ExtN.of w1).trans (x3.trans ((LamX.ExtN.of (s3.trans g3)).trans x4))
    have ntup : ∀ {xs : List V} (ps : Array Value), HO.tup xs ≠ .tbl ps := fun _ z => by cases z
    have a1 := N3 _ _ e1 ntup
    have a2 := N2 _ _ e2 ntup
    have a3 := x4 _ _ e3 ntup
    have nlst : ∀ {xs : List V} (ps : Array Value), HO.lst xs ≠ .tbl ps := fun _ z => by cases z
    have v4 := (x3.trans ((LamX.ExtN.of (s3.trans g3)).trans x4)) _ _ v1 nlst
    have fin : ∀ (J : Hp) (w : V), Same F4 J → LamX.Tabs [(P0, qLam)] J → (∀ J', Same J J' → Dp K J' w (lastD (headDue ds o))) → ([V.ref p3, w] : List V).length ≤ 1000 ∧ ∀ (D2 : Addr) (J2 : Hp), J D2 = none → Same J J2 → J2 D2 = some (.lst [.ref p3, w]) → rCatS K (.ref D1) (.ref D2) J2 Q := fun J w sJ tJ dw => by
      refine ⟨by show 2 ≤ 1000; decide, fun D2 J2 hD2 sJ2 eD2 => ⟨D1, D2, _, _, rfl, rfl, SqL.of (sJ2 _ _ (sJ _ _ v4)), SqL.of eD2, by rw [sizeLine_eq]; show 2 + 2 ≤ 16777216; decide, fun D3 J3 hD3 sJ3 eD3 => ?_⟩⟩
      have S3 := (sJ.trans sJ2).trans sJ3
      refine q D3 _ J3 eD3 (fun H2 sK => .cons (dp_one (sK _ _ (S3 _ _ a1))) (.cons (dp_one (sK _ _ (S3 _ _ a2))) (.cons (dp_one (sK _ _ (S3 _ _ a3))) (.cons (dw _ ((sJ2.trans sJ3).trans sK)) .nil)))) (Y4.trans (LamX.ExtN.of S3)) (tabs_same (sJ2.trans sJ3) tJ)
    refine ⟨_, rfl, S, dx4, _, rfl, eS4, lStore_m _ (by decide +kernel), _, rfl, S, L, Tx, Kd, ds, js, m, n, v, o, rfl, hS.extN Y4, Nat.le_of_lt hn, hLy.extN Y4, hsq.extN Y4, hR.extN Y4, fun gd xs ex => ⟨hhd gd xs ex, fun D3 ts i us J3 hTs hAt s4 hD3 eD3 hU => ?_⟩, fun z4 hz4 d4 K4 hd4 s4 m4 => ?_⟩
    · exact fin J3 .non s4 (tabs_same s4 t4) (fun J' _ => by rw [gd]; exact .non)
    · refine ⟨rfl, d4, _, rfl, m4, fun p4 G4 hp4 g4 e4 => ?_⟩
      exact fin G4 (.ref p4) (s4.trans g4) (tabs_same (s4.trans g4) t4) (fun J' sK => by rw [hz4]; exact dp_one (sK _ _ e4))


end
end L2.K76

set_option Elab.async false
set_option linter.all false
set_option maxRecDepth 100000
set_option maxHeartbeats 4000000
/-! Rows with something odd at one place. -/
namespace L2.K76
open PySem PySem.W PySem.Spec PySem.Calls PyProof.Rows L2.Jk
def oddM (v : V) : Prop := v = .bl true ∨ v = .bl false ∨ (∃ e, v = .ref e) ∨ v = .str "?" ∨ v = .int (-1)
theorem odd_menu : (∀ z ∈ wordZ, madeB "?" z = false) ∧ (∀ z ∈ endZ, madeB "?" z = false) ∧ ("?" : Str) ∉ nines := by decide +kernel
theorem odd_pd {v : V} (h : oddM v) {d : PD} (hd : Dr d) : d.hasV v = false := by
  obtain ⟨m1, m2, m3⟩ := odd_menu
  rcases h with rfl | rfl | ⟨e, rfl⟩ | rfl | rfl
  · cases hd <;> rfl
  · cases hd <;> rfl
  · cases hd <;> rfl
  · cases hd with
    | word a b c =>
      show (_ && _) = false
      rw [show madeB "?" (strV (.str _)) = false from m1 _ a]
      rfl
    | number a b => rfl
    | fixed => rfl
    | listed a b c e =>
      refine Bool.eq_false_iff.mpr fun z => m3 (b _ ?_)
      obtain ⟨y, hy, e⟩ := List.any_eq_true.mp z
      obtain ⟨t, ht, rfl⟩ := List.mem_map.mp hy
      have e2 : t = "?" := by simpa [eqV] using e
      exact e2 ▸ ht
    | ended a b c e =>
      show (_ && _) = false
      rw [show madeB "?" (strV (.str _)) = false from m2 _ a]
      rfl
  · cases hd with
    | word a b c => rfl
    | @number l j a b =>
      show (true && (decide ((l : Int) ≤ -1) && _)) = false
      rw [decide_eq_false (by omega)]
      rfl
    | fixed => rfl
    | listed a b c e => rfl
    | ended a b c e => rfl
theorem odd_no {v : V} (h : oddM v) {d : FD} (hd : DrF d) : d.hasV v = false := by
  cases hd with
  | pl hd => exact odd_pd h hd
  | mk hn hd =>
    show (decide (v = .non) || _) = false
    rw [odd_pd h hd, decide_eq_false (fun z => by rcases h with rfl | rfl | ⟨e, rfl⟩ | rfl | rfl <;> cases z)]
    rfl
theorem head_at {ds : List FD} {ys : List V} {i : Nat} (hi : i < ys.length) (h1 : badAt ds ys i = true) (h2 : ∀ j, j < i → badAt ds ys j = false) : headDue ds (some ys) = some (i : Int) := by
  show ((List.range ys.length).find? (badAt ds ys)).map _ = _
  rw [find_at hi h1 h2]
  rfl
/-- up to the odd place all is the row's -/
theorem bent_due {ds : List FD} {xs zs : List V} {k : Nat} {o : V} (hD : ∀ d ∈ ds, DrF d) (h : RwOk ds xs) (hk : k < ds.length) (ho : oddM o) (hz : ∀ j, j ≤ k → zs[j]? = (xs.set k o)[j]?) : rowDue ds (some zs) = some (k : Int) ∧ headDue ds (some zs) = some (k : Int) := by
  have hl := h.1
  have ek : zs[k]? = some o := by rw [hz k (Nat.le_refl _), List.getElem?_set_self (by omega)]
  have hlt := (List.getElem?_eq_some_iff.mp ek).1
  have bad : badAt ds zs k = true := by
    unfold badAt
    rw [ek, List.getElem?_eq_getElem hk]
    show (!FD.hasV _ _) = true
    rw [odd_no ho (hD _ (List.getElem_mem hk))]
    rfl
  have good : ∀ j, j < k → badAt ds zs j = false := fun j hj => by
    rw [bad_congr (zs := xs) (by rw [hz j (Nat.le_of_lt hj), List.getElem?_set_ne (by omega)])]
    exact good_at hD h (by omega)
  exact ⟨due_at (by omega) bad good, head_at hlt bad good⟩
theorem head_more {ds : List FD} {xs zs : List V} (hD : ∀ d ∈ ds, DrF d) (h : RwOk ds xs) (hz : zs ≠ []) : headDue ds (some (xs ++ zs)) = some (xs.length : Int) := by
  have h1 := h.1
  have := List.length_pos_iff.mpr hz
  refine head_at (by rw [List.length_append]; omega) (bad_none (.inr (by omega))) fun j hj => ?_
  rw [bad_congr (List.getElem?_append_left hj)]
  exact good_at hD h (by omega)
theorem head_less {ds : List FD} {xs : List V} {k : Nat} (hD : ∀ d ∈ ds, DrF d) (h : RwOk ds xs) : headDue ds (some (xs.take k)) = none := by
  show ((List.range (xs.take k).length).find? (badAt ds (xs.take k))).map _ = none
  rw [List.find?_eq_none.mpr fun j hj => ?_]
  · rfl
  · have hj := List.mem_range.mp hj
    rw [List.length_take] at hj
    have h1 := h.1
    rw [bad_congr (List.getElem?_take_of_lt (by omega)), good_at hD h (by omega)]
    decide
theorem less_rowT {ds : List FD} {xs : List V} {k : Nat} (hD : ∀ d ∈ ds, DrF d) (h : RwOk ds xs) : RowT ds (xs.take k) := fun i d x h1 h2 => by
  refine h.rowT hD i d x h1 ?_
  have hi := (List.getElem?_eq_some_iff.mp h2).1
  rw [List.length_take] at hi
  rw [List.getElem?_take_of_lt (by omega)] at h2
  exact h2
theorem cut_to {xs : List V} {k : Nat} : cutV xs none (some (k : Int)) = xs.take k := by
  unfold cutV
  rw [HT.sIx_none, HT.sIx_nat, List.drop_zero, Nat.sub_zero]
  rcases Nat.le_total k xs.length with z | z
  · rw [Nat.min_eq_left z]
  · rw [Nat.min_eq_right z, List.take_length, List.take_of_length_le z]
theorem cut_from {xs : List V} {k : Nat} : cutV xs (some (k : Int)) none = xs.drop k := by
  unfold cutV
  rw [HT.sIx_none, HT.sIx_nat]
  rcases Nat.le_total k xs.length with z | z
  · rw [Nat.min_eq_left z, List.take_of_length_le (by rw [List.length_drop]; omega)]
  · rw [Nat.min_eq_right z, List.drop_length, List.drop_of_length_le z, List.take_nil]
theorem bent_is {xs : List V} {k : Nat} {o : V} (hk : k < xs.length) : (xs.take k ++ [o]) ++ xs.drop (k + 1) = xs.set k o := by
  rw [List.set_eq_take_append_cons_drop, if_pos hk, List.append_assoc]
  rfl
end L2.K76

set_option Elab.async false
set_option linter.all false
set_option maxRecDepth 100000
set_option maxHeartbeats 4000000
/-! list < list, of whole numbers. -/
namespace L2.Jk
open PySem PySem.W PySem.Spec PySem.Calls PyProof.Rows L2
def rLtL (K : Frag) : R2 := fun x y H Q => ∃ a b ns ms, x = .ref a ∧ y = .ref b ∧ SqL K H a (ns.map V.int) ∧ SqL K H b (ms.map V.int) ∧ Q (.bl (listLt ns ms)) H
theorem dp_ints {K : Frag} {H : Hp} : ∀ ns : List Int, DpAll K H (ns.map V.int) (ns.map PyData.int)
  | [] => .nil
  | n :: ns => .cons (.int n) (dp_ints ns)
theorem op_ltL {X : Cx} (hu : X.A.units + 64 < cLine) : OpR X (compareOp .Lt) (rLtL X.K) := by
  intro pins s σ H x y v u Q I rx ry h
  obtain ⟨a, b, ns, ms, rfl, rfl, ha, hb, q⟩ := h
  obtain ⟨as, r1⟩ := Dp.reads I (.list (ns.map PyData.int)) _ v (.lst ha (dp_ints ns)) rx
  obtain ⟨bs, r2⟩ := Dp.reads I (.list (ms.map PyData.int)) _ u (.lst hb (dp_ints ms)) ry
  exact PySem.W.lt_datum (x := ns) (y := ms) ⟨as, r1⟩ ⟨bs, r2⟩ (by
    have : Datum.depth (List Int) ≤ 64 := by decide
    omega) ⟨.bl (listLt ns ms), H, I, rfl, q⟩
/-! tuples: a slice, a sum, told by their items -/
def rSlTS : V → Option Int → Option Int → Hp → VK → Prop := fun x lo hi H Q => ∃ a xs, x = .ref a ∧ H a = some (.tup xs) ∧ ∀ p H', (∀ b o, H b = some o → H' b = some o) → H' p = some (.tup (cutV xs lo hi)) → Q (.ref p) H'
theorem sl_tupTS {X : Cx} : SlR X rSlTS := by
  intro pins s σ H x v vl vu lo hi sl Q I rx hs pl pu h
  obtain ⟨a, xs, rfl, hx, q⟩ := h
  refine sl_tupA pins s σ H _ v vl vu lo hi sl Q I rx hs pl pu ⟨a, xs, rfl, SqT.of hx, fun hw => q a H (fun _ _ e => e) ?_, fun hw p hp => q p _ (fun b o e => ?_) upd_same⟩
  · have e : cutV xs lo hi = xs := by
      unfold cutV
      rw [hw.1, hw.2, List.drop_zero, Nat.sub_zero, List.take_length]
    rw [e]
    exact hx
  · rw [upd_ne (ne_of_none e hp)]
    exact e
def rCatTS : R2 := fun x y H Q => ∃ a b xs ys, x = .ref a ∧ y = .ref b ∧ H a = some (.tup xs) ∧ H b = some (.tup ys) ∧ xs.length + ys.length ≤ sizeLine ∧ ∀ p H', (∀ b o, H b = some o → H' b = some o) → H' p = some (.tup (xs ++ ys)) → Q (.ref p) H'
theorem op_catTS {X : Cx} : OpR X (binaryOp .Add) rCatTS := by
  intro pins s σ H x y v u Q I rx ry h
  obtain ⟨a, b, xs, ys, rfl, rfl, ha, hb, hz, q⟩ := h
  refine op_catA pins s σ H _ _ v u Q I rx ry ⟨a, b, xs, ys, rfl, rfl, SqT.of ha, SqT.of hb, hz, fun e => q b H (fun _ _ e => e) ?_, fun _ e => q a H (fun _ _ e => e) ?_, fun _ _ p hp => q p _ (fun c o e => ?_) upd_same⟩
  · rw [e, List.nil_append]
    exact hb
  · rw [e, List.append_nil]
    exact ha
  · rw [upd_ne (ne_of_none e hp)]
    exact e
theorem call_ieK {X : Cx} {K : Frag} (h : X.K = K) : CallR X (.builtin "isinstance") (rIe K) := by
  subst h
  exact call_ie
theorem mt_indexK {X : Cx} {K : Frag} (h : X.K = K) : MtR X "list.index" (rIndex K) := by
  subst h
  exact mt_index
end L2.Jk

set_option Elab.async false
set_option linter.all false
set_option maxRecDepth 100000
set_option maxHeartbeats 4000000
/-! The law: all that is no row, at one store. -/
namespace L2.K76
open PySem PySem.W PySem.Spec PySem.Calls PyProof.Rows L2.Jk
theorem op_neDK {X : Cx} {K : Frag} (h : X.K = K) (hu : X.A.units + 64 < cLine) : OpR X (compareOp .NotEq) (rNeD K) := by
  subst h
  exact op_neD hu
theorem StA.butN {K : Frag} {a : Addr} {H H' : Hp} {S L Tx Kd : Addr} {m : Mp} {n : Nat} (st : StAt H a) (nT : Tx ≠ a) (B : ButN a H H') (h : StA K H S L Tx Kd m n) : StA K H' S L Tx Kd m n := by
  obtain ⟨z, ez⟩ := st.at
  obtain ⟨⟨dx, a1⟩, ⟨ts, b, c⟩, kvs, d, g⟩ := h
  exact ⟨⟨dx, B _ _ (ne_of a1 ez (fun z => by cases z)) a1 (fun _ z => by cases z)⟩, ⟨ts, B _ _ nT b (fun _ z => by cases z), c⟩, kvs, B _ _ (ne_of d ez (fun z => by cases z)) d (fun _ z => by cases z),
    g.mono fun r xs e => B _ _ (ne_of e ez (fun z => by cases z)) e (fun _ z => by cases z)⟩
theorem sh_said (z : Int) (h : Option Int) : SeqAt.shaped (.list (saidD z h)) = true := by
  cases h with
  | none => exact Bool.and_eq_true_iff.mpr ⟨rfl, decide_eq_true (Nat.le_of_ble_eq_true rfl)⟩
  | some y => exact Bool.and_eq_true_iff.mpr ⟨rfl, decide_eq_true (Nat.le_of_ble_eq_true rfl)⟩
/-- no row, by one place -/
def NoR (K : Frag) (H : Hp) (Tx : Addr) (ds : List FD) (v : V) (k : Int) : Prop := ∃ o, SeqIs K H v o ∧ RowIn H o ∧ v ≠ .ref Tx ∧ rowDue ds o = some k ∧ headDue ds o = some k
theorem NoR.extN {K : Frag} {H H' : Hp} {Tx : Addr} {ds : List FD} {v : V} {k : Int} (e : LamX.ExtN H H') : NoR K H Tx ds v k → NoR K H' Tx ds v k
  | ⟨o, a, b, c, d, g⟩ => ⟨o, a.extN e, b.extN e, c, d, g⟩
theorem nor_of {K : Frag} {F : Hp} {Tx : Addr} {ds : List FD} {xs zs : List V} {k : Nat} {o v : V} (hD : ∀ d ∈ ds, DrF d) (h : RwOk ds xs) (hf : ds.length ≤ 30) (hk : k < ds.length) (ho : oddM o) (ht : Thg F o) (hl : lenV o ≤ 900) (hs : SeqIs K F v (some zs)) (nv : v ≠ .ref Tx)
    (hz : ∀ j, j ≤ k → zs[j]? = (xs.set k o)[j]?) (hn : zs.length ≤ 1000) (hm : ∀ x ∈ zs, x ∈ xs ∨ x = o ∨ x = .non) : NoR K F Tx ds v (k : Int) := by
  obtain ⟨a, b⟩ := bent_due hD h hk ho hz
  refine ⟨_, hs, ⟨hn, fun x hx => ?_⟩, nv, a, b⟩
  rcases hm x hx with z | rfl | rfl
  · exact ⟨(vlf_thg hD h F x z).1, by have := (vlf_thg hD h F x z).2; omega⟩
  · exact ⟨ht, hl⟩
  · exact ⟨.inl rfl, by show 0 ≤ 900; decide⟩
theorem mem_set' {xs : List V} {k : Nat} {o x : V} (h : x ∈ xs.set k o) : x ∈ xs ∨ x = o ∨ x = .non := by
  rcases List.mem_or_eq_of_mem_set h with z | z
  · exact .inl z
  · exact .inr (.inl z)
/-- where the store stands, all the while -/
structure RI (K : Frag) (P0 sa S L Tx Kd : Addr) (ds : List FD) (js : List Str) (m : Mp) (n : Nat) (H J : Hp) : Prop where
  bu : ButN sa H J
  st : StAt J sa
  hS : StA K J S L Tx Kd m n
  ly : LayAt K J L ds js
  tab : LamX.Tabs [(P0, qLam)] J
theorem RI.ext {K : Frag} {P0 sa S L Tx Kd : Addr} {ds : List FD} {js : List Str} {m : Mp} {n : Nat} {H J J' : Hp} (h : RI K P0 sa S L Tx Kd ds js m n H J) (x : LamX.ExtN J J') (t : LamX.Tabs [(P0, qLam)] J') : RI K P0 sa S L Tx Kd ds js m n H J' := ⟨h.bu.trans (ButN.of_ext x), h.st.extN x, h.hS.extN x, h.ly.extN x, t⟩
theorem RI.same {K : Frag} {P0 sa S L Tx Kd : Addr} {ds : List FD} {js : List Str} {m : Mp} {n : Nat} {H J J' : Hp} (h : RI K P0 sa S L Tx Kd ds js m n H J) (s : Same J J') : RI K P0 sa S L Tx Kd ds js m n H J' := h.ext (LamX.ExtN.of s) (tabs_same s h.tab)
theorem RI.but {K : Frag} {P0 sa S L Tx Kd : Addr} {ds : List FD} {js : List Str} {m : Mp} {n : Nat} {H J J' : Hp} (h : RI K P0 sa S L Tx Kd ds js m n H J) (nT : Tx ≠ sa) (B : But sa J J') (st : StAt J' sa) : RI K P0 sa S L Tx Kd ds js m n H J' := by
  obtain ⟨z, ez⟩ := h.st.at
  exact ⟨h.bu.trans (ButN.of_but B), st, h.hS.butN h.st nT (ButN.of_but B), h.ly.but h.st B, tabs_but ez B h.tab⟩
theorem RI.ask {K : Frag} {P0 sa S L Tx Kd : Addr} {ds : List FD} {js : List Str} {m : Mp} {n : Nat} {H J : Hp} {v : V} {o : Option (List V)} {z : Int} {Q : VK} {E : XK} (h : RI K P0 sa S L Tx Kd ds js m n H J) (hn : n < 1000)
    (hsq : SeqIs K J v o) (hR : RowIn J o) (nv : v ≠ .ref Tx) (due : rowDue ds o = some z) (hhd : headDue ds o = none → ∀ xs, o = some xs → RowT ds xs)
    (q : ∀ D us J', J' D = some (.lst us) → (∀ H2, Same J' H2 → DpAll K H2 us (saidD z (headDue ds o))) → LamX.ExtN J J' → RI K P0 sa S L Tx Kd ds js m n H J' → Q (.ref D) J') : spAs K P0 [.ref S, v] J Q E :=
  ⟨S, L, Tx, Kd, ds, js, m, n, v, o, z, rfl, h.hS, hn, h.ly, hsq, hR, nv, h.tab, due, hhd, fun D us J' e d x t => q D us J' e d x (h.ext x t)⟩
theorem dp_right {K : Frag} {J : Hp} {t : Addr} {z : Int} (e : J t = some (.tup [.int z])) : DpAll K J (List.replicate 4 [V.ref t]).flatten (saidD z (some z)) := .cons (dp_one e) (.cons (dp_one e) (.cons (dp_one e) (.cons (dp_one e) .nil)))
theorem dp_right3 {K : Frag} {J : Hp} {t : Addr} {z : Int} (e : J t = some (.tup [.int z])) : DpAll K J ((List.replicate 3 [V.ref t]).flatten ++ [.non]) (saidD z none) := .cons (dp_one e) (.cons (dp_one e) (.cons (dp_one e) (.cons .non .nil)))
def spRt (K : Frag) (P0 : Addr) : Sp := fun vs H Q _ => ∃ (sa S L Tx Kd ps : Addr) (vsp : List V) (ds : List FD) (js : List Str) (m : Mp) (n : Nat), vs = [.ref sa, .ref S, .ref ps] ∧ StAt H sa ∧ StA K H S L Tx Kd m n ∧ n < 1000 ∧ LayAt K H L ds js ∧
  ps ≠ sa ∧ H ps = some (.lst vsp) ∧ SpsAt sa H vsp ds ∧ (∀ d ∈ ds, DrF d) ∧ Tx ≠ sa ∧ LamX.Tabs [(P0, qLam)] H ∧ ∀ H', ButN sa H H' → StAt H' sa → LamX.Tabs [(P0, qLam)] H' → LayAt K H' L ds js → Q (.bl true) H'
structure GRt (P : Program) (w : World) (K : Frag) (mg : Str → Option Value) (base : Heap) (P0 : Addr) : Prop extends GAs P w K mg base where
  law_row : FnAt P w K mg base CX0 4 "_law_row" ["_law_source_here", "_law_specs"] spRow
  law_all_said : FnAt P w K mg base CX0 10 "_law_all_said" ["_law_store", "_law_row_here"] (spAs K P0)
section
variable {P : Program} {w : World} {K : Frag} {mg : Str → Option Value} {base : Heap} {f : Addr} {fd : FuncData}

abbrev s_rt : Stmt := top 57
theorem sc_rt : FnScope ["_law_source_here", "_law_store", "_law_specs", "_law_row_here", "_law_at", "_law_odd", "_law_bent", "_law_some"] ["_law_source_here", "_law_store", "_law_specs"] (defScope s_rt) := ⟨rfl, rfl, rfl, by decide +kernel, rfl, by decide +kernel, by decide +kernel⟩

theorem ok_rt (F : FunD K "_law_right" "_law_right" (defArgs s_rt) (defBody s_rt) (defScope s_rt) [] [] f fd) {P0 : Addr} (G : GRt P w K mg base P0) : FnOk P w K mg base CX0 11 f fd ["_law_source_here", "_law_store", "_law_specs"] (spRt K P0) := by
  refine F.ok (CX := CX0) sc_rt (fun vs H Q E h => ?_) (fun cdv A outer s H vs Q E hr h => ?_)
  · obtain ⟨_, _, _, _, _, _, _, _, _, _, _, rfl, _⟩ := h
    rfl
  · refine ⟨_, PSs.nox (C8.pss_cut (ps_par3 (i := 3) (j := 4) (l := 5) (by rfl) sc_rt.nd rfl rfl rfl (by decide) (by decide) (by decide) rfl rfl rfl (pa_cons (pe_fn G.law_row (hr.mono (by decide)) pass0 (by rfl) (pa_cons (pv 0) (pa_cons (pv 2) pa_nil))) (pa_cons (pe_fn G.law_draw (hr.mono (by decide)) pass0 (by rfl) (pa_cons (pv 0) (pa_cons (pe_callB call_len_seq (by rfl) G.len (by decide +kernel) (pa_cons (pv 2) pa_nil)) pa_nil))) (pa_cons (pe_fn G.law_pick (hr.mono (by decide)) pass0 (by rfl) (pa_cons (pv 0) (pa_cons (pe_lstS (pa_cons pe_bl (pa_cons pe_bl (pa_cons (pe_lstS pa_nil) (pa_cons pe_str (pa_cons (pe_un un_neg pe_int) pa_nil)))))) pa_nil))) pa_nil))) (by rfl))
    (C8.pss_cut (ps_set (i := 6) sc_rt.nd rfl (Or.inl rfl) (pe_op op_catTS (pe_op op_catTS (pe_slice sl_tupTS (pv 3) po_none (po_some (pv 4))) (pe_tupS (pa_cons (pv 5) pa_nil))) (pe_slice sl_tupTS (pv 3) (po_some (pe_op op_add (pv 4) pe_int)) po_none)))
    (C8.pss_cut (ps_for PassesOwn.never rfl (pi_tup ((pe_tupS (pa_cons (pv 6) (pa_cons (pe_callTy call_list_of (by rfl) G.list (by decide +kernel) (pa_cons (pv 6) pa_nil)) (pa_cons (pe_op op_catTS (pv 6) (pe_tupS (pa_cons pe_non pa_nil))) (pa_cons (pe_op op_catTS (pe_slice sl_tupTS (pv 6) po_none (po_some (pe_op op_add (pv 4) pe_int))) (pe_op op_repT (pe_tupS (pa_cons (pv 5) pa_nil)) pe_int)) pa_nil))))))) (pg_name (i := 7) sc_rt.nd rfl (Or.inl rfl))
      (pss_one (ps_if (pt_cmpR (op_neD hr.units) (pe_fn G.law_all_said (hr.mono (by decide)) pass0 (by rfl) (pa_cons (pv 1) (pa_cons (pv 7) pa_nil))) (pe_op op_rep (pe_lstS (pa_cons (pe_tupS (pa_cons (pv 4) pa_nil)) pa_nil)) pe_int) (nomark _))
        (pss_one (ps_ret pe_bl))
        pss_nil)))
    (C8.pss_cut (ps_if (pt_cmpR (op_neD hr.units) (pe_fn G.law_all_said (hr.mono (by decide)) pass0 (by rfl) (pa_cons (pv 1) (pa_cons (pe_op op_catTS (pv 3) (pe_tupS (pa_cons pe_str pa_nil))) pa_nil))) (pe_op op_rep (pe_lstS (pa_cons (pe_tupS (pa_cons (pe_callB call_len_seq (by rfl) G.len (by decide +kernel) (pa_cons (pv 3) pa_nil)) pa_nil)) pa_nil)) pe_int) (nomark _))
      (pss_one (ps_ret pe_bl))
      pss_nil)
    (C8.pss_cut (ps_if (pt_cmpR (op_neD hr.units) (pe_fn G.law_all_said (hr.mono (by decide)) pass0 (by rfl) (pa_cons (pv 1) (pa_cons (pe_slice sl_tupTS (pv 3) po_none (po_some (pv 4))) pa_nil))) (pe_op op_catS (pe_op op_rep (pe_lstS (pa_cons (pe_tupS (pa_cons (pv 4) pa_nil)) pa_nil)) pe_int) (pe_lstS (pa_cons pe_non pa_nil))) (nomark _))
      (pss_one (ps_ret pe_bl))
      pss_nil)
    (pss_one (ps_ret (pe_cmpR (op_eqD hr.units) (pe_lc (own := [("_law_odd", 5)]) (g := gName 5) (tt := _) rfl sc_rt.nd (pi_tup ((pe_tupS (pa_cons pe_non (pa_cons pe_int (pa_cons pe_str (pa_cons pe_str (pa_cons pe_dnewK (pa_cons pe_bl pa_nil))))))))) (blkOk_by (N := ["_law_source_here", "_law_store", "_law_specs", "_law_row_here", "_law_at", "_law_odd", "_law_bent", "_law_some"]) (sc := defScope s_rt) (by decide +kernel)) (fun _ _ _ _ _ => pg_name (i := 5) sc_rt.nd rfl (Or.inl rfl)) (fun _ _ _ _ _ => pts_one (pt_cmpR (op_neDK (K := K) rfl hr.units) (pe_fn G.law_all_said (hr.mono (by decide)) pass0 (by rfl) (pa_cons (pv 1) (pa_cons (pv 5) pa_nil))) (pe_op op_rep (pe_lstS (pa_cons (pe_tupS (pa_cons (pe_un un_neg pe_int) pa_nil)) pa_nil)) pe_int) (nomark _))) (fun _ _ _ _ _ => pe_int)) (pe_lstS pa_nil) (nomark _))))))))), ?_⟩
    obtain ⟨sa, S, L, Tx, Kd, ps, vsp, ds, js, m, n, rfl, st, hS, hn, hLy, nps, hps, hSp, hD, nT, hT, q⟩ := h
    have hfew := hLy.ok.few
    have hne := hLy.ok.some
    have I0 : RI K P0 sa S L Tx Kd ds js m n H H := ⟨ButN.refl _ _, st, hS, hLy, hT⟩
    refine ⟨fun σ J => ∃ v6 v7 r xs kk o, σ = [some (.ref sa), some (.ref S), some (.ref ps), some (.ref r), some (.int ((kk : Nat) : Int)), some o, v6, v7] ∧ RI K P0 sa S L Tx Kd ds js m n H J ∧ J r = some (.tup xs) ∧ RwOk ds xs ∧ kk < ds.length ∧ oddM o ∧ Thg J o ∧ lenV o ≤ 900, ?_, ?_⟩
    · refine ⟨_, rfl, _, rfl, sa, ps, vsp, ds, rfl, st, nps, hps, hSp, hD, hfew, fun r xs G1 hr0 hR B1 st1 er => ?_⟩
      have I1 := I0.but nT B1 st1
      have hd1 := List.length_pos_iff.mpr hne
      refine ⟨_, rfl, _, rfl, ps, _, rfl, .inl (SqL.of (B1 _ _ nps hps)), sa, (vsp.length : Nat), rfl, st1, by have := hSp.1; omega, by have := hSp.1; omega, fun d2 G2 g0 g1 B2 st2 => ?_⟩
      obtain ⟨kk, rfl⟩ : ∃ kk : Nat, d2 = (kk : Int) := ⟨d2.toNat, by omega⟩
      have I2 := I1.but nT B2 st2
      have hvl := hSp.1
      have er2 := B2 _ _ (st.ne hr0) er
      refine ⟨_, rfl, by show 0 ≤ 1000; decide, fun e0 G3 he0 S3 ee0 => ?_⟩
      refine ⟨1, rfl, by show 5 ≤ 1000; decide, fun pl G4 hpl S4 el => ?_⟩
      have I4 := (I2.same S3).same S4
      have S24 := S3.trans S4
      refine ⟨sa, pl, _, rfl, I4.st, (st2.same S3).ne hpl, el, (fun z => by cases z), by show 5 ≤ 1000; decide, fun w G5 hw B5 st5 => ⟨_, _, _, rfl, ?_⟩⟩
      have I5 := I4.but nT B5 st5
      have ne0 : e0 ≠ sa := st2.ne he0
      have nr : r ≠ sa := st.ne hr0
      have er5 := B5 _ _ nr (S24 _ _ er2)
      have ee5 := B5 _ _ ne0 (S4 _ _ ee0)
      have odd : oddM w ∧ Thg G5 w ∧ lenV w ≤ 900 := by
        rcases List.mem_cons.mp hw with rfl | hw
        · exact ⟨.inl rfl, .inl rfl, by show 0 ≤ 900; decide⟩
        rcases List.mem_cons.mp hw with rfl | hw
        · exact ⟨.inr (.inl rfl), .inl rfl, by show 0 ≤ 900; decide⟩
        rcases List.mem_cons.mp hw with rfl | hw
        · exact ⟨.inr (.inr (.inl ⟨e0, rfl⟩)), .inr ⟨e0, rfl, .inl ⟨_, ee5⟩⟩, by show 0 ≤ 900; decide⟩
        rcases List.mem_cons.mp hw with rfl | hw
        · exact ⟨.inr (.inr (.inr (.inl rfl))), .inl rfl, by show Str.length "?" ≤ 900; decide +kernel⟩
        · rw [List.mem_singleton.mp hw]
          exact ⟨.inr (.inr (.inr (.inr rfl))), .inl rfl, by show 0 ≤ 900; decide⟩
      exact ⟨_, _, r, xs, kk, w, rfl, I5, er5, hR, by omega, odd.1, odd.2.1, odd.2.2⟩
    rintro σ J ⟨v6, v7, r, xs, kk, o, rfl, I, er, hR, hk, ho, hth, hlen⟩
    have hxl := hR.1
    -- the bent one
    refine ⟨fun σ J2 => ∃ v7 bt, σ = [some (.ref sa), some (.ref S), some (.ref ps), some (.ref r), some (.int ((kk : Nat) : Int)), some o, some (.ref bt), v7] ∧ RI K P0 sa S L Tx Kd ds js m n H J2 ∧ Same J J2 ∧ J2 bt = some (.tup (xs.set kk o)), ?_, ?_⟩
    · refine ⟨_, rfl, _, rfl, (kk : Int), rfl, r, xs, rfl, er, fun p1 G4 (S4 : Same J G4) w1 => ⟨_, rfl, by show 1 ≤ 1000; decide, fun p2 G5 hp2 S5 w2 => ?_⟩⟩
      refine ⟨p1, p2, _, _, rfl, rfl, S5 _ _ w1, w2, ?_, fun p3 G6 (S6 : Same G5 G6) w3 => ?_⟩
      · have := cutV_length xs none (some (kk : Int))
        rw [sizeLine_eq]
        show _ + 1 ≤ 16777216
        omega
      have S36 := (S4.trans S5).trans S6
      refine ⟨_, rfl, _, rfl, _, _, rfl, rfl, (kk : Int) + 1, rfl, r, xs, rfl, S36 _ _ er, fun p4 G7 (S7 : Same G6 G7) w4 => ?_⟩
      refine ⟨p3, p4, _, _, rfl, rfl, S7 _ _ w3, w4, ?_, fun p5 G8 (S8 : Same G7 G8) w5 => ?_⟩
      · have := cutV_length xs none (some (kk : Int))
        have := cutV_length xs (some ((kk : Int) + 1)) none
        rw [List.length_append, sizeLine_eq]
        show _ + 1 + _ ≤ 16777216
        omega
      have S38 := (S36.trans S7).trans S8
      rw [cut_to, show (kk : Int) + 1 = ((kk + 1 : Nat) : Int) by omega, cut_from, bent_is (by omega)] at w5
      exact ⟨_, p5, rfl, I.same S38, S38, w5⟩
    rintro σ J2 ⟨v7', bt, rfl, I2, S2, eb⟩
    have hset : (xs.set kk o).length = xs.length := List.length_set
    obtain ⟨tsx, eTx, _, _⟩ := I2.hS.tx
    refine ⟨fun σ J3 => ∃ v7, σ = [some (.ref sa), some (.ref S), some (.ref ps), some (.ref r), some (.int ((kk : Nat) : Int)), some o, some (.ref bt), v7] ∧ RI K P0 sa S L Tx Kd ds js m n H J3 ∧ LamX.ExtN J2 J3, ?_, ?_⟩
    · refine ⟨_, rfl, _, rfl, bt, _, rfl, .inr (SqT.of eb), fun pL hpL => ?_⟩
      have sL : Same J2 (upd J2 pL (.lst (xs.set kk o))) := same_upd hpL
      have eL : upd J2 pL (.lst (xs.set kk o)) pL = some (.lst (xs.set kk o)) := upd_same
      generalize upd J2 pL (.lst (xs.set kk o)) = F1 at sL eL ⊢
      refine ⟨_, rfl, by show 1 ≤ 1000; decide, fun p6 F2 hp6 (s12 : Same F1 F2) w6 => ?_⟩
      refine ⟨bt, p6, _, _, rfl, rfl, s12 _ _ (sL _ _ eb), w6, by rw [hset, sizeLine_eq]; show xs.length + 1 ≤ 16777216; omega, fun p7 F3 (s23 : Same F2 F3) w7 => ?_⟩
      have s03 := (sL.trans s12).trans s23
      refine ⟨_, rfl, _, rfl, _, _, rfl, rfl, (kk : Int) + 1, rfl, bt, _, rfl, s03 _ _ eb, fun p8 F4 (s34 : Same F3 F4) w8 => ?_⟩
      refine ⟨_, rfl, by show 1 ≤ 1000; decide, fun p9 F5 hp9 (s45 : Same F4 F5) w9 => ?_⟩
      refine ⟨p9, 9, [o], rfl, rfl, SqT.of w9, (fun z => by cases z), by decide, by decide, by show 1 ≤ 1000; decide, fun p10 hp10 => ?_⟩
      have s56 : Same F5 (upd F5 p10 (.tup (List.replicate (9 : Int).toNat [o]).flatten)) := same_upd hp10
      have e10 : upd F5 p10 (.tup (List.replicate (9 : Int).toNat [o]).flatten) p10 = some (.tup (List.replicate (9 : Int).toNat [o]).flatten) := upd_same
      generalize upd F5 p10 (.tup (List.replicate (9 : Int).toNat [o]).flatten) = F6 at s56 e10 ⊢
      have hcl := cutV_length (xs.set kk o) none (some ((kk : Int) + 1))
      refine ⟨p8, p10, _, _, rfl, rfl, s56 _ _ (s45 _ _ w8), e10, by rw [sizeLine_eq]; show _ + 9 ≤ 16777216; omega, fun p11 F7 (s67 : Same F6 F7) w11 => ?_⟩
      refine ⟨by show 4 ≤ 1000; decide, fun tp F8 htp (s78 : Same F7 F8) w12 => ?_⟩
      have s38 := (((s34.trans s45).trans s56).trans s67).trans s78
      have s08 := s03.trans s38
      have I8 := I2.same s08
      have th8 : Thg F8 o := (hth.same S2).same s08
      have eTx8 := s08 _ _ eTx
      have ntup : ∀ {b : Addr} {ys : List V}, F8 b = some (.tup ys) → V.ref b ≠ .ref Tx := fun e z => by
        injection z with z
        rw [z, eTx8] at e
        cases e
      have eb8 := s08 _ _ eb
      rw [show (kk : Int) + 1 = ((kk + 1 : Nat) : Int) by omega, cut_to] at w11
      have all4 : ∀ x ∈ [V.ref bt, .ref pL, .ref p7, .ref p11], NoR K F8 Tx ds x (kk : Int) := fun x hx => by
        rcases List.mem_cons.mp hx with rfl | hx
        · exact nor_of hD hR hfew hk ho th8 hlen (.tup eb8) (ntup eb8) (fun j _ => rfl) (by omega) fun x hx => mem_set' hx
        rcases List.mem_cons.mp hx with rfl | hx
        · exact nor_of hD hR hfew hk ho th8 hlen (.lst (s38 _ _ (s23 _ _ (s12 _ _ eL)))) (fun z => by injection z with z; rw [z, eTx] at hpL; cases hpL) (fun j _ => rfl) (by omega) fun x hx => mem_set' hx
        rcases List.mem_cons.mp hx with rfl | hx
        · have e7 := s38 _ _ w7
          refine nor_of hD hR hfew hk ho th8 hlen (.tup e7) (ntup e7) (fun j hj => List.getElem?_append_left (by omega)) (by rw [List.length_append]; show _ + 1 ≤ 1000; omega) fun x hx => ?_
          rcases List.mem_append.mp hx with hx | hx
          · exact mem_set' hx
          · exact .inr (.inr (List.mem_singleton.mp hx))
        · rw [List.mem_singleton.mp hx]
          have e11 := s78 _ _ w11
          refine nor_of hD hR hfew hk ho th8 hlen (.tup e11) (ntup e11) (fun j hj => ?_) ?_ fun x hx => ?_
          · rw [List.getElem?_append_left (by rw [List.length_take]; omega), List.getElem?_take_of_lt (by omega)]
          · rw [List.length_append, List.length_take]
            show _ + 9 ≤ 1000
            omega
          · rcases List.mem_append.mp hx with hx | hx
            · exact mem_set' (List.mem_of_mem_take hx)
            · have hx : x ∈ [o, o, o, o, o, o, o, o, o] := hx
              simp at hx
              exact .inr (.inl hx)
      refine ⟨tp, rfl, ⟨_, SqT.of w12⟩, for_tup (K := K) (a := tp) (xs := [V.ref bt, .ref pL, .ref p7, .ref p11]) (fun i σ J3 => ∃ v7, σ = [some (.ref sa), some (.ref S), some (.ref ps), some (.ref r), some (.int ((kk : Nat) : Int)), some o, some (.ref bt), v7] ∧ RI K P0 sa S L Tx Kd ds js m n H J3 ∧ LamX.ExtN F8 J3) ⟨_, rfl, I8, LamX.ExtN.refl _⟩ (fun i σ J3 _ ⟨_, _, _, X3⟩ => SqT.of (X3 _ _ w12 (fun _ z => by cases z))) ?_ ?_⟩
      · rintro i x σ J3 hx ⟨u7, rfl, I3, X3⟩
        obtain ⟨oz, hsq, hRi, nv, due, hdu⟩ := (all4 x (List.mem_of_getElem? hx)).extN X3
        refine ⟨_, rfl, _, rfl, S, L, Tx, Kd, ds, js, m, n, x, oz, _, rfl, I3.hS, hn, I3.ly, hsq, hRi, nv, I3.tab, due, (fun z => by rw [hdu] at z; cases z), fun D us J4 eD hDp x4 t4 => ?_⟩
        have I4 := I3.ext x4 t4
        refine ⟨_, rfl, by show 1 ≤ 1000; decide, fun q1 J5 hq1 (r45 : Same J4 J5) k1 => ?_⟩
        refine ⟨by show 1 ≤ 1000; decide, fun q2 J6 hq2 (r56 : Same J5 J6) k2 => ?_⟩
        refine ⟨q2, 4, _, rfl, rfl, k2, by decide, by decide, by rw [sizeLine_eq]; show 1 * 4 ≤ 16777216; decide, fun q3 hq3 => ?_⟩
        have r67 : Same J6 (upd J6 q3 (.lst (List.replicate (4 : Int).toNat [V.ref q1]).flatten)) := same_upd hq3
        have e3 : upd J6 q3 (.lst (List.replicate (4 : Int).toNat [V.ref q1]).flatten) q3 = some (.lst (List.replicate (4 : Int).toNat [V.ref q1]).flatten) := upd_same
        generalize upd J6 q3 (.lst (List.replicate (4 : Int).toNat [V.ref q1]).flatten) = J7 at r67 e3 ⊢
        have T6 := (r45.trans r56).trans r67
        rw [hdu] at hDp
        refine ⟨_, _, .lst (SqL.of (T6 _ _ eD)) (hDp _ T6), .lst (SqL.of e3) (dp_right (r67 _ _ (r56 _ _ k1))), sh_said _ _, sh_said _ _, _, rfl, ?_⟩
        rw [eqv_same (sh_said _ _)]
        refine iteF ?_
        exact ⟨_, rfl, I4.same T6, (X3.trans x4).trans (LamX.ExtN.of T6)⟩
      · rintro σ J3 ⟨u7, rfl, I3, X3⟩
        exact ⟨_, rfl, I3, (LamX.ExtN.of s08).trans X3⟩
    rintro σ J3 ⟨u7, rfl, I3, X3⟩
    have X0 := (LamX.ExtN.of S2).trans X3
    have er3 := X0 _ _ er (fun _ z => by cases z)
    clear I I2 hset eTx eb
    -- one too many
    refine ⟨fun σ J4 => ∃ v7, σ = [some (.ref sa), some (.ref S), some (.ref ps), some (.ref r), some (.int ((kk : Nat) : Int)), some o, some (.ref bt), v7] ∧ RI K P0 sa S L Tx Kd ds js m n H J4 ∧ LamX.ExtN J3 J4, ?_, ?_⟩
    · obtain ⟨tsx, eTx, _, _⟩ := I3.hS.tx
      refine ⟨_, rfl, _, rfl, by show 1 ≤ 1000; decide, fun p6 F2 hp6 (s12 : Same J3 F2) w6 => ?_⟩
      refine ⟨r, p6, _, _, rfl, rfl, s12 _ _ er3, w6, by rw [sizeLine_eq]; show xs.length + 1 ≤ 16777216; omega, fun p7 F3 (s23 : Same F2 F3) w7 => ?_⟩
      have I5 := (I3.same s12).same s23
      have eTx5 := s23 _ _ (s12 _ _ eTx)
      have due := row_more (zs := [.str ""]) hD hR (fun z => by cases z)
      have hdu := head_more (zs := [.str ""]) hD hR (fun z => by cases z)
      refine ⟨S, L, Tx, Kd, ds, js, m, n, .ref p7, _, _, rfl, I5.hS, hn, I5.ly, .tup w7, ⟨by rw [List.length_append]; show _ + 1 ≤ 1000; omega, fun x hx => ?_⟩, (fun z => by injection z with z; rw [z, eTx5] at w7; cases w7), I5.tab, due, (fun z => by rw [hdu] at z; cases z), fun D us J4 eD hDp x4 t4 => ?_⟩
      · rcases List.mem_append.mp hx with hx | hx
        · exact ⟨(vlf_thg hD hR F3 x hx).1, by have := (vlf_thg hD hR F3 x hx).2; omega⟩
        · rw [List.mem_singleton.mp hx]
          exact ⟨.inl rfl, by show Str.length "" ≤ 900; decide +kernel⟩
      have I4 := I5.ext x4 t4
      have X35 : LamX.ExtN J3 J4 := (LamX.ExtN.of (s12.trans s23)).trans x4
      refine ⟨_, rfl, r, _, rfl, .inr (SqT.of (X35 _ _ er3 (fun _ z => by cases z))), by show 1 ≤ 1000; decide, fun q1 J5 hq1 (r45 : Same J4 J5) k1 => ?_⟩
      refine ⟨by show 1 ≤ 1000; decide, fun q2 J6 hq2 (r56 : Same J5 J6) k2 => ?_⟩
      refine ⟨q2, 4, _, rfl, rfl, k2, by decide, by decide, by rw [sizeLine_eq]; show 1 * 4 ≤ 16777216; decide, fun q3 hq3 => ?_⟩
      have r67 : Same J6 (upd J6 q3 (.lst (List.replicate (4 : Int).toNat [V.ref q1]).flatten)) := same_upd hq3
      have e3 : upd J6 q3 (.lst (List.replicate (4 : Int).toNat [V.ref q1]).flatten) q3 = some (.lst (List.replicate (4 : Int).toNat [V.ref q1]).flatten) := upd_same
      generalize upd J6 q3 (.lst (List.replicate (4 : Int).toNat [V.ref q1]).flatten) = J7 at r67 e3 ⊢
      have T6 := (r45.trans r56).trans r67
      rw [hdu] at hDp
      refine ⟨_, _, .lst (SqL.of (T6 _ _ eD)) (hDp _ T6), .lst (SqL.of e3) (dp_right (r67 _ _ (r56 _ _ k1))), sh_said _ _, sh_said _ _, _, rfl, ?_⟩
      rw [eqv_same (sh_said _ _)]
      refine iteF ?_
      exact ⟨_, rfl, I4.same T6, X35.trans (LamX.ExtN.of T6)⟩
    rintro σ J4 ⟨u8, rfl, I4, X4⟩
    have er4 := X4 _ _ er3 (fun _ z => by cases z)
    clear X0 er3 I3 X3
    -- one too few
    refine ⟨fun σ J5 => ∃ v7, σ = [some (.ref sa), some (.ref S), some (.ref ps), some (.ref r), some (.int ((kk : Nat) : Int)), some o, some (.ref bt), v7] ∧ RI K P0 sa S L Tx Kd ds js m n H J5, ?_, ?_⟩
    · obtain ⟨tsx, eTx, _, _⟩ := I4.hS.tx
      refine ⟨_, rfl, _, rfl, _, rfl, (kk : Int), rfl, r, xs, rfl, er4, fun p1 F3 (s13 : Same J4 F3) w1 => ?_⟩
      rw [cut_to] at w1
      have I5 := I4.same s13
      have eTx5 := s13 _ _ eTx
      have due := row_less hD hR (k := kk) (by omega)
      have hdu := head_less (k := kk) hD hR
      refine ⟨S, L, Tx, Kd, ds, js, m, n, .ref p1, _, _, rfl, I5.hS, hn, I5.ly, .tup w1, ⟨by rw [List.length_take]; omega, fun x hx => ?_⟩, (fun z => by injection z with z; rw [z, eTx5] at w1; cases w1), I5.tab, due, (fun _ ys ey => by cases ey; exact less_rowT hD hR), fun D us J5 eD hDp x4 t4 => ?_⟩
      · have hx := List.mem_of_mem_take hx
        exact ⟨(vlf_thg hD hR F3 x hx).1, by have := (vlf_thg hD hR F3 x hx).2; omega⟩
      have I6 := I5.ext x4 t4
      refine ⟨_, rfl, by show 1 ≤ 1000; decide, fun q1 J6 hq1 (r45 : Same J5 J6) k1 => ?_⟩
      refine ⟨by show 1 ≤ 1000; decide, fun q2 J7 hq2 (r56 : Same J6 J7) k2 => ?_⟩
      refine ⟨q2, 3, _, rfl, rfl, k2, by decide, by decide, by rw [sizeLine_eq]; show 1 * 3 ≤ 16777216; decide, fun q3 hq3 => ?_⟩
      have r67 : Same J7 (upd J7 q3 (.lst (List.replicate (3 : Int).toNat [V.ref q1]).flatten)) := same_upd hq3
      have e3 : upd J7 q3 (.lst (List.replicate (3 : Int).toNat [V.ref q1]).flatten) q3 = some (.lst (List.replicate (3 : Int).toNat [V.ref q1]).flatten) := upd_same
      generalize upd J7 q3 (.lst (List.replicate (3 : Int).toNat [V.ref q1]).flatten) = J8 at r67 e3 ⊢
      refine ⟨by show 1 ≤ 1000; decide, fun q4 J9 hq4 (r89 : Same J8 J9) k4 => ?_⟩
      refine ⟨q3, q4, _, _, rfl, rfl, SqL.of (r89 _ _ e3), SqL.of k4, by rw [sizeLine_eq]; show 3 + 1 ≤ 16777216; decide, fun q5 Ja hq5 (r9a : Same J9 Ja) k5 => ?_⟩
      have T6 := (((r45.trans r56).trans r67).trans r89).trans r9a
      have k1a := r9a _ _ (r89 _ _ (r67 _ _ (r56 _ _ k1)))
      rw [hdu] at hDp
      refine ⟨_, _, .lst (SqL.of (T6 _ _ eD)) (hDp _ T6), .lst (SqL.of k5) (dp_right3 k1a), sh_said _ _, sh_said _ _, _, rfl, ?_⟩
      rw [eqv_same (sh_said _ _)]
      refine iteF ?_
      exact ⟨_, rfl, I6.same T6⟩
    rintro σ J5 ⟨u9, rfl, I5⟩
    clear I4 X4 er4
    -- no row at all
    refine fun R hR => ?_
    have sR : Same J5 (upd J5 R (.dK [])) := same_upd hR
    have eR : upd J5 R (.dK []) R = some (.dK []) := upd_same
    generalize upd J5 R (.dK []) = F1 at sR eR ⊢
    refine ⟨by show 6 ≤ 1000; decide, fun tp F2 htp (s12 : Same F1 F2) w12 => ⟨tp, rfl, ⟨_, SqT.of w12⟩, fun D hD => ?_⟩⟩
    have I7 := (I5.same sR).same s12
    have eR2 := s12 _ _ eR
    have sD : Same F2 (upd F2 D (.lst [])) := same_upd hD
    refine lc_tup (K := K) (a := tp) (xs := [V.non, .int 5, .str "", .str "ab", .ref R, .bl true]) (fun i J => RI K P0 sa S L Tx Kd ds js m n H J ∧ J D = some (.lst []) ∧ LamX.ExtN F2 J) ⟨I7.same sD, upd_same, LamX.ExtN.of sD⟩ (fun i J _ ⟨_, _, x⟩ => SqT.of (x _ _ w12 (fun _ z => by cases z))) ?_ ?_
    · rintro i x J hx ⟨I8, eD8, x8⟩
      have hsq : SeqIs K J x none ∧ x ≠ .ref Tx := by
        have hx := List.mem_of_getElem? hx
        obtain ⟨tsx, eTx, _, _⟩ := I7.hS.tx
        rcases List.mem_cons.mp hx with rfl | hx
        · exact ⟨.flat rfl, fun z => by cases z⟩
        rcases List.mem_cons.mp hx with rfl | hx
        · exact ⟨.flat rfl, fun z => by cases z⟩
        rcases List.mem_cons.mp hx with rfl | hx
        · exact ⟨.flat rfl, fun z => by cases z⟩
        rcases List.mem_cons.mp hx with rfl | hx
        · exact ⟨.flat rfl, fun z => by cases z⟩
        rcases List.mem_cons.mp hx with rfl | hx
        · exact ⟨.dict (x8 _ _ eR2 (fun _ z => by cases z)), fun z => by injection z with z; rw [z, eTx] at eR2; cases eR2⟩
        · rw [List.mem_singleton.mp hx]
          exact ⟨.flat rfl, fun z => by cases z⟩
      have hdu : headDue ds (none : Option (List V)) = some (-1) := rfl
      refine ⟨rfl, _, rfl, _, rfl, S, L, Tx, Kd, ds, js, m, n, x, none, -1, rfl, I8.hS, hn, I8.ly, hsq.1, trivial, hsq.2, I8.tab, rfl, (fun z => by rw [hdu] at z; cases z), fun D2 us J4 eD hDp x4 t4 => ?_⟩
      have I4 := I8.ext x4 t4
      refine ⟨1, rfl, by show 1 ≤ 1000; decide, fun q1 J5 hq1 (r45 : Same J4 J5) k1 => ?_⟩
      refine ⟨by show 1 ≤ 1000; decide, fun q2 J6 hq2 (r56 : Same J5 J6) k2 => ?_⟩
      refine ⟨q2, 4, _, rfl, rfl, k2, by decide, by decide, by rw [sizeLine_eq]; show 1 * 4 ≤ 16777216; decide, fun q3 hq3 => ?_⟩
      have r67 : Same J6 (upd J6 q3 (.lst (List.replicate (4 : Int).toNat [V.ref q1]).flatten)) := same_upd hq3
      have e3 : upd J6 q3 (.lst (List.replicate (4 : Int).toNat [V.ref q1]).flatten) q3 = some (.lst (List.replicate (4 : Int).toNat [V.ref q1]).flatten) := upd_same
      generalize upd J6 q3 (.lst (List.replicate (4 : Int).toNat [V.ref q1]).flatten) = J7 at r67 e3 ⊢
      have T6 := (r45.trans r56).trans r67
      rw [hdu] at hDp
      refine ⟨_, _, .lst (SqL.of (T6 _ _ eD)) (hDp _ T6), .lst (SqL.of e3) (dp_right (r67 _ _ (r56 _ _ k1))), sh_said _ _, sh_said _ _, _, rfl, ?_⟩
      rw [eqv_same (sh_said _ _)]
      refine iteF ?_
      exact ⟨I4.same T6, T6 _ _ (x4 _ _ eD8 (fun _ z => by cases z)), (x8.trans x4).trans (LamX.ExtN.of T6)⟩
    · rintro J ⟨I8, eD8, x8⟩
      refine ⟨by show 0 ≤ 1000; decide, fun pe H5 hpe (S5 : Same J H5) e5 => ⟨_, _, .lst (SqL.of (S5 _ _ eD8)) .nil, .lst (SqL.of e5) .nil, by decide +kernel, by decide +kernel, ?_⟩⟩
      have I9 := I8.same S5
      exact q H5 I9.bu I9.st I9.tab I9.ly

end
end L2.K76

set_option Elab.async false
set_option linter.all false
set_option maxRecDepth 100000
set_option maxHeartbeats 4000000
/-! The law's plans, where they stand. -/
namespace L2.K76
open PySem PySem.W PySem.Spec PySem.Calls PyProof.Rows L2.Jk
/-! ### the law's fields, away from all that changes -/
theorem pd_away {s : Addr} {b c : Addr} (e : V.ref b = V.ref c) (n : c ≠ b) : False := by
  injection e with e
  exact n e.symm
theorem PDAt.frm {M : Addr → Prop} {H H' : Hp} {v : V} {d : PD} (h : ∀ s, M s → PDAt s H v d) (F : ∀ b o, ¬ M b → (∀ ps, o ≠ .tbl ps) → H b = some o → H' b = some o) {s : Addr} (hs : M s) : PDAt s H' v d := by
  cases d with
  | word x l m =>
    obtain ⟨b, rfl, n, hb⟩ := h s hs
    exact ⟨b, rfl, n, F _ _ (fun z => by obtain ⟨c, e, n', _⟩ := h b z; injection e with e; exact n' e.symm) (fun _ z => by cases z) hb⟩
  | number l m =>
    obtain ⟨b, rfl, n, hb⟩ := h s hs
    exact ⟨b, rfl, n, F _ _ (fun z => by obtain ⟨c, e, n', _⟩ := h b z; injection e with e; exact n' e.symm) (fun _ z => by cases z) hb⟩
  | fixed u =>
    obtain ⟨b, rfl, n, hb⟩ := h s hs
    exact ⟨b, rfl, n, F _ _ (fun z => by obtain ⟨c, e, n', _⟩ := h b z; injection e with e; exact n' e.symm) (fun _ z => by cases z) hb⟩
  | ended x e l m =>
    obtain ⟨b, rfl, n, hb⟩ := h s hs
    exact ⟨b, rfl, n, F _ _ (fun z => by obtain ⟨c, e, n', _⟩ := h b z; injection e with e; exact n' e.symm) (fun _ z => by cases z) hb⟩
  | listed x =>
    obtain ⟨b, u, rfl, n, hb, hl, hk⟩ := h s hs
    have nb : ¬ M b := fun z => by obtain ⟨c, _, e, n', _⟩ := h b z; injection e with e; exact n' e.symm
    have nc : ∀ c, u = .ref c → ¬ M c := fun c hc z => by
      obtain ⟨b', u', e, _, hb', _, hk'⟩ := h c z
      injection e with e
      rw [← e, hb] at hb'
      injection hb' with hb'
      injection hb' with hb'
      injection hb' with _ hb'
      injection hb' with hb'
      exact hk' c (hb' ▸ hc) rfl
    refine ⟨b, u, rfl, n, F _ _ nb (fun _ z => by cases z) hb, ?_, hk⟩
    cases x with
    | lst xs =>
      obtain ⟨c, rfl, hc⟩ := hl
      exact ⟨c, rfl, F _ _ (nc c rfl) (fun _ z => by cases z) hc⟩
    | tup xs =>
      obtain ⟨c, rfl, o, k1, k2, hc⟩ := hl
      exact ⟨c, rfl, o, k1, k2, F _ _ (nc c rfl) (fun _ z => by cases z) hc⟩
    | val w => exact hl
theorem FIn.frm {M : Addr → Prop} {H H' : Hp} {v : V} {d : FD} (h : ∀ s, M s → FIn s H v d) (F : ∀ b o, ¬ M b → (∀ ps, o ≠ .tbl ps) → H b = some o → H' b = some o) {s : Addr} (hs : M s) : FIn s H' v d := by
  cases d with
  | pl d => exact PDAt.frm (d := d) h F hs
  | mk n m d =>
    obtain ⟨b, u, rfl, nb, hb, hk⟩ := h s hs
    have nM : ¬ M b := fun z => by obtain ⟨c, _, e, n', _⟩ := h b z; injection e with e; exact n' e.symm
    refine ⟨b, u, rfl, nb, F _ _ nM (fun _ z => by cases z) hb, PDAt.frm (d := d) (fun s' hs' => ?_) F hs⟩
    obtain ⟨b', u', e, _, hb', hk'⟩ := h s' hs'
    injection e with e
    rw [← e, hb] at hb'
    injection hb' with hb'
    injection hb' with hb'
    injection hb' with _ hb'
    injection hb' with _ hb'
    injection hb' with _ hb'
    injection hb' with hb'
    rw [hb']
    exact hk'
theorem SpsAt.frm {M : Addr → Prop} {H H' : Hp} {vs : List V} {ds : List FD} (h : ∀ s, M s → SpsAt s H vs ds) (F : ∀ b o, ¬ M b → (∀ ps, o ≠ .tbl ps) → H b = some o → H' b = some o) {s : Addr} (hs : M s) : SpsAt s H' vs ds :=
  ⟨(h s hs).1, fun i v d a b => FIn.frm (fun s' hs' => (h s' hs').2 i v d a b) F hs⟩
/-- what holds no text of a field, and is no field -/
def Apart (H : Hp) (s : Addr) : Prop := H s = none ∨ H s = some (.lst []) ∨ ∃ kvs, H s = some (.dK kvs)
theorem Apart.tup {H : Hp} {s b : Addr} {xs : List V} (h : Apart H s) (hb : H b = some (.tup xs)) : b ≠ s := fun z => by
  rw [z] at hb
  rcases h with h | h | ⟨_, h⟩
  · rw [h] at hb; cases hb
  · rw [h] at hb; cases hb
  · rw [h] at hb; cases hb
theorem Apart.lst {H : Hp} {s b : Addr} {xs : List V} (h : Apart H s) (n : xs ≠ []) (hb : H b = some (.lst xs)) : b ≠ s := fun z => by
  rw [z] at hb
  rcases h with h | h | ⟨_, h⟩
  · rw [h] at hb; cases hb
  · rw [h] at hb
    injection hb with hb
    injection hb with hb
    exact n hb.symm
  · rw [h] at hb; cases hb
theorem PDAt.away {a s : Addr} {H : Hp} {v : V} {d : PD} (hd : Dr d) (h : PDAt a H v d) (k : Apart H s) : PDAt s H v d := by
  cases hd with
  | word x l m => obtain ⟨b, e, n, hb⟩ := h; exact ⟨b, e, k.tup hb, hb⟩
  | number l m => obtain ⟨b, e, n, hb⟩ := h; exact ⟨b, e, k.tup hb, hb⟩
  | fixed => obtain ⟨b, e, n, hb⟩ := h; exact ⟨b, e, k.tup hb, hb⟩
  | @listed ts x y z w =>
    obtain ⟨b, u, e, n, hb, hl, hk⟩ := h
    refine ⟨b, u, e, k.tup hb, hb, hl, fun c hc => ?_⟩
    obtain ⟨c', rfl, hc'⟩ := hl
    injection hc with hc
    rw [← hc]
    refine k.lst (fun q => z ?_) hc'
    cases ts with
    | nil => rfl
    | cons _ _ => cases q
  | ended x y l m => obtain ⟨b, e, n, hb⟩ := h; exact ⟨b, e, k.tup hb, hb⟩
theorem FIn.away {a s : Addr} {H : Hp} {v : V} {d : FD} (hd : DrF d) (h : FIn a H v d) (k : Apart H s) : FIn s H v d := by
  cases hd with
  | pl hd => exact PDAt.away hd h k
  | mk hn hd =>
    obtain ⟨b, u, e, n, hb, hk⟩ := h
    exact ⟨b, u, e, k.tup hb, hb, PDAt.away hd hk k⟩
theorem SpsAt.away {a s : Addr} {H : Hp} {vs : List V} {ds : List FD} (hd : ∀ d ∈ ds, DrF d) (h : SpsAt a H vs ds) (k : Apart H s) : SpsAt s H vs ds := ⟨h.1, fun i v d x y => (h.2 i v d x y).away (hd d (List.mem_of_getElem? y)) k⟩
end L2.K76

set_option Elab.async false
set_option linter.all false
set_option maxRecDepth 100000
set_option maxHeartbeats 4000000
/-! The law. -/
namespace L2.K76
open PySem PySem.W PySem.Spec PySem.Calls PyProof.Rows L2.Jk
structure GLW (P : Program) (w : World) (K : Frag) (mg : Str → Option Value) (base : Heap) (P0 : Addr) : Prop extends GRt P w K mg base P0 where
  law_source : FnAt P w K mg base CX0 1 "_law_source" ["_law_cell"] spSource
  law_layout : FnAt P w K mg base CX0 5 "_law_layout" ["_law_source_here", "_law_most", "_law_limit"] spLy
  law_right : FnAt P w K mg base CX0 11 "_law_right" ["_law_source_here", "_law_store", "_law_specs"] (spRt K P0)
  min : mg "min" = none
def spLaw (K : Frag) (P0 : Addr) : Sp := fun vs H Q _ => ∃ (a : Addr) (ns : List Int), vs = [.ref a] ∧ SqL K H a (ns.map V.int) ∧ ns.length ≤ 63 ∧ LamX.Tabs [(P0, qLam)] H ∧ ∀ H', Q (.bl true) H'
theorem idx_lt3 {n i : Nat} (h : i < (if (if (n : Int) < 3 then (n : Int) else 3) > 1 then (if (n : Int) < 3 then (n : Int) else 3) else 1).toNat) : i < n + 1 ∧ i < 3 := by
  split at h <;> split at h <;> omega
theorem seqT_upd {K : Frag} {H : Hp} {L t C dx : Addr} {fs : List (Str × V)} {o : HO} {xs : List V} (hL : H L = some (.ins C dx fs)) (h : SqT K H t xs) : SqT K (upd H L o) t xs := by
  rcases h with (h | ⟨u, h⟩) | h
  · exact .inl (.inl (by rw [upd_ne (ne_of h hL (fun z => by cases z))]; exact h))
  · exact .inl (.inr ⟨u, by rw [upd_ne (ne_of h hL (fun z => by cases z))]; exact h⟩)
  · exact .inr h
theorem nl_lst {H : Hp} {p : Addr} {us : List V} {o : HO} (hp : H p = some (.lst us)) : NL H (upd H p o) := fun b u n1 n2 e => by
  rw [upd_ne (fun z => n1 us (by rw [z, hp] at e; exact (Option.some.inj e).symm))]
  exact e
theorem FsAt.putl {K : Frag} {H : Hp} {D r : Addr} {xs : List V} {o : HO} (hD : H D = some (.lst xs)) {d : FD} (h : FdAt K H r d) : FdAt K (upd H D o) r d := h.nl (nl_lst hD)
theorem op_lim : (10 : Int) ^ (9 : Int).toNat = 1000000000 := by decide
theorem begins_nil (t : Str) : begins "" t = true := by
  show (decide (0 + 0 ≤ t.length) && (t.cps.extract 0 (0 + 0) == #[])) = true
  rw [decide_eq_true (Nat.zero_le _)]
  simp
theorem head_nil {ds : List FD} {js : List Str} : headText ds js [] = "" := by
  show Txt.join "" [] = ""
  rfl
theorem scan_all {ds : List FD} {js : List Str} {ts : List Str} {i : Nat} (h : At ts (headText ds js []) i) : (ts.drop i).takeWhile (begins (headText ds js [])) = ts := by
  rw [head_nil] at h ⊢
  have hi : i = 0 := by
    rcases Nat.eq_zero_or_pos i with k | k
    · exact k
    · obtain ⟨x, hx⟩ : ∃ x, ts[0]? = some x := ⟨_, List.getElem?_eq_getElem (by have := h.1; omega)⟩
      have z := ltS_iff.mp ((h.2 0 x hx).mpr k)
      exact absurd z (List.not_lt_nil _)
  rw [hi, List.drop_zero]
  induction ts with
  | nil => rfl
  | cons t ts ih =>
    rw [List.takeWhile_cons_of_pos (begins_nil t)]
    refine congrArg (t :: ·) ?_
    have all : ∀ l : List Str, l.takeWhile (begins "") = l := fun l => by
      induction l with
      | nil => rfl
      | cons u l ih => rw [List.takeWhile_cons_of_pos (begins_nil u), ih]
    exact all ts
theorem head_due {ds : List FD} : headDue ds (some []) = none := rfl
/-- what stands while one store is asked: H1 is the heap before -/
def Fr (H : Hp) (x : Addr) : Prop := ∀ o, (∀ ps, o ≠ HO.tbl ps) → H x ≠ some o
theorem fr_ext {H H' : Hp} {x : Addr} (e : LamX.ExtN H H') (h : H' x = none) : Fr H x := fun o n z => by
  rw [e x o z n] at h
  cases h
theorem Fr.ne {H : Hp} {x b : Addr} {o : HO} (h : Fr H x) (e : H b = some o) (n : ∀ ps, o ≠ .tbl ps) : b ≠ x := fun z => h o n (z ▸ e)
theorem tabs_nl {T : List (Addr × Str)} {H H' : Hp} (N : NL H H') (t : LamX.Tabs T H) : LamX.Tabs T H' := fun p hp => by
  obtain ⟨ps, h1, h2, h3⟩ := t p hp
  refine ⟨ps, N _ _ (fun _ z => by cases z) (fun _ z => by cases z) h1, h2, fun pos cv hc => ?_⟩
  obtain ⟨c, e1, e2⟩ := h3 pos cv hc
  exact ⟨c, e1, N _ _ (fun _ z => by unfold LamX.CodeO at z; cases z) (fun _ z => by unfold LamX.CodeO at z; cases z) e2⟩
structure LS (K : Frag) (P0 sa S L Tx Kd ps : Addr) (vsp : List V) (ds : List FD) (js : List Str) (H1 J : Hp) (m : Mp) (n : Nat) : Prop where
  ext : LamX.ExtN H1 J
  st : StAt J sa
  hS : StA K J S L Tx Kd m n
  ly : LayAt K J L ds js
  sp : J ps = some (.lst vsp)
  sps : ∀ s, (s = sa ∨ s = Tx ∨ s = Kd) → SpsAt s J vsp ds
  tab : LamX.Tabs [(P0, qLam)] J
  n1 : ps ≠ sa
  n2 : ps ≠ Tx
  n3 : Tx ≠ sa
  f1 : Fr H1 sa
  f2 : Fr H1 Tx
  f3 : Fr H1 Kd
  dr : ∀ d ∈ ds, DrF d
  rw : ∀ t e, m t = some e → RwOk ds e.1
theorem LS.kd_ne {K : Frag} {P0 sa S L Tx Kd ps : Addr} {vsp : List V} {ds : List FD} {js : List Str} {H1 J : Hp} {m : Mp} {n : Nat} (h : LS K P0 sa S L Tx Kd ps vsp ds js H1 J m n) : Kd ≠ sa ∧ ps ≠ Kd := by
  obtain ⟨kvs, d, _⟩ := h.hS.kd
  obtain ⟨z, e⟩ := h.st.at
  exact ⟨ne_of d e (fun z => by cases z), ne_of h.sp d (fun z => by cases z)⟩
theorem LS.butN {K : Frag} {P0 sa S L Tx Kd ps : Addr} {vsp : List V} {ds : List FD} {js : List Str} {H1 J J' : Hp} {m : Mp} {n : Nat} (h : LS K P0 sa S L Tx Kd ps vsp ds js H1 J m n) (B : ButN sa J J') (st : StAt J' sa) (t : LamX.Tabs [(P0, qLam)] J') (ly : LayAt K J' L ds js) : LS K P0 sa S L Tx Kd ps vsp ds js H1 J' m n :=
  ⟨fun b o e k => B b o (h.f1.ne e k) (h.ext b o e k) k, st, h.hS.butN h.st h.n3 B, ly, B _ _ h.n1 h.sp (fun _ z => by cases z), fun s hs => SpsAt.frm (M := fun s => s = sa ∨ s = Tx ∨ s = Kd) h.sps (fun b o k n e => B b o (fun z => k (.inl z)) e n) hs, t, h.n1, h.n2, h.n3, h.f1, h.f2, h.f3, h.dr, h.rw⟩
theorem LS.same {K : Frag} {P0 sa S L Tx Kd ps : Addr} {vsp : List V} {ds : List FD} {js : List Str} {H1 J J' : Hp} {m : Mp} {n : Nat} (h : LS K P0 sa S L Tx Kd ps vsp ds js H1 J m n) (s : Same J J') : LS K P0 sa S L Tx Kd ps vsp ds js H1 J' m n := h.butN (ButN.of_but (But.of_same s)) (h.st.same s) (tabs_same s h.tab) (h.ly.same s)
theorem LS.but {K : Frag} {P0 sa S L Tx Kd ps : Addr} {vsp : List V} {ds : List FD} {js : List Str} {H1 J J' : Hp} {m : Mp} {n : Nat} (h : LS K P0 sa S L Tx Kd ps vsp ds js H1 J m n) (B : But sa J J') (st : StAt J' sa) : LS K P0 sa S L Tx Kd ps vsp ds js H1 J' m n := by
  obtain ⟨z, ez⟩ := h.st.at
  exact h.butN (ButN.of_but B) st (tabs_but ez B h.tab) (h.ly.but h.st B)
theorem LS.put {K : Frag} {P0 sa S L Tx Kd ps : Addr} {vsp : List V} {ds : List FD} {js : List Str} {H1 J J' : Hp} {m m' : Mp} {n n' : Nat} (h : LS K P0 sa S L Tx Kd ps vsp ds js H1 J m n) (B : But2 Tx Kd J J') (hS : StA K J' S L Tx Kd m' n') (r : ∀ t e, m' t = some e → RwOk ds e.1) : LS K P0 sa S L Tx Kd ps vsp ds js H1 J' m' n' := by
  obtain ⟨n4, n5⟩ := h.kd_ne
  obtain ⟨ts, eT, _, _⟩ := h.hS.tx
  obtain ⟨kvs, eK, _⟩ := h.hS.kd
  have N : NL J J' := B.nl eT eK
  obtain ⟨p, q, s, es, rest⟩ := h.st
  exact ⟨fun b o e k => B b o (h.f2.ne e k) (h.f3.ne e k) (h.ext b o e k), ⟨p, q, s, B _ _ h.n3.symm n4.symm es, rest⟩, hS, h.ly.nl N, B _ _ h.n2 n5 h.sp, fun s hs => SpsAt.frm (M := fun s => s = sa ∨ s = Tx ∨ s = Kd) h.sps (fun b o k n e => B b o (fun z => k (.inr (.inl z))) (fun z => k (.inr (.inr z))) e) hs, tabs_nl N h.tab, h.n1, h.n2, h.n3, h.f1, h.f2, h.f3, h.dr, r⟩
theorem rw_set {ds : List FD} {m : Mp} {t : Str} {e : List V × Int} (h : ∀ t e, m t = some e → RwOk ds e.1) (k : RwOk ds e.1) : ∀ u x, setM m t e u = some x → RwOk ds x.1 := fun u x hx => by
  have hx : (if u = t then some e else m u) = some x := hx
  by_cases q : u = t
  · rw [if_pos q] at hx
    cases hx
    exact k
  · rw [if_neg q] at hx
    exact h u x hx
section
variable {P : Program} {w : World} {K : Frag} {mg : Str → Option Value} {base : Heap} {f : Addr} {fd : FuncData}

abbrev s_law : Stmt := top 58
theorem sc_law : FnScope ["_law_script", "_law_index", "_law_source_here", "_law_specs", "_law_joints", "_law_store", "_law_spec", "_law_k", "_law_kept", "_law_turn"] ["_law_script"] (defScope s_law) := ⟨rfl, rfl, rfl, by decide +kernel, rfl, by decide +kernel, by decide +kernel⟩

theorem ok_law (F : FunD K "law" "law" (defArgs s_law) (defBody s_law) (defScope s_law) [] [] f fd) {P0 : Addr} (G : GLW P w K mg base P0) : FnOk P w K mg base CX0 12 f fd ["_law_script"] (spLaw K P0) := by
  refine F.ok (CX := CX0) sc_law (fun vs H Q E h => ?_) (fun cdv A outer s H vs Q E hr h => ?_)
  · obtain ⟨_, _, rfl, _⟩ := h
    rfl
  · refine ⟨_, PSs.nox (pss_cons (ps_for PassesOwn.never rfl (pi_range1 (by rfl) G.range (pa_cons (pe_callB (call_max2 rfl) (by rfl) G.max (by decide +kernel) (pa_cons pe_int (pa_cons (pe_callB (call_min2 rfl) (by rfl) G.min (by decide +kernel) (pa_cons pe_int (pa_cons (pe_callB call_len_seq (by rfl) G.len (by decide +kernel) (pa_cons (pv 0) pa_nil)) pa_nil))) pa_nil))) pa_nil)) (pg_name (i := 1) sc_law.nd rfl (Or.inl rfl))
      (pss_cons (ps_set (i := 2) sc_law.nd rfl (Or.inl rfl) (pe_fn G.law_source (hr.mono (by decide)) pass0 (by rfl) (pa_cons (pe_ix ix_list (pe_op op_catS (pv 0) (pe_lstS (pa_cons pe_int pa_nil))) (pv 1) (fun _ _ => rfl)) pa_nil)))
      (C8.pss_cut (ps_asg (pe_fn G.law_layout (hr.mono (by decide)) pass0 (by rfl) (pa_cons (pv 2) (pa_cons pe_int (pa_cons (pe_op op_pow pe_int pe_int) pa_nil)))) (pg_tup rfl (pgs_cons (pg_name (i := 3) sc_law.nd rfl (Or.inl rfl)) (pgs_cons (pg_name (i := 4) sc_law.nd rfl (Or.inl rfl)) pgs_nil))))
      (C8.pss_cut (ps_set (i := 5) sc_law.nd rfl (Or.inl rfl) (pe_newS (E := fun _ => E0) G.kStore (hr.mono (by decide)) (fun σ => fun _ _ _ _ _ _ h => h.elim) (by rfl) (pa_cons (pe_newS (E := fun _ => E0) G.kLayout (hr.mono (by decide)) (fun σ => fun _ _ _ _ _ _ h => h.elim) (by rfl) (pa_cons (pe_lc (own := [("_law_spec", 6)]) (g := gName 6) (tt := tYes) rfl sc_law.nd (pi_list (pv 3)) (blkOk_by (N := ["_law_script", "_law_index", "_law_source_here", "_law_specs", "_law_joints", "_law_store", "_law_spec", "_law_k", "_law_kept", "_law_turn"]) (sc := defScope s_law) (by decide +kernel)) (fun _ _ _ _ _ => pg_name (i := 6) sc_law.nd rfl (Or.inl rfl)) (fun _ _ _ _ _ => pts_nil) (fun _ _ _ _ _ => (pe_fn G.law_made (hr.mono (by decide)) pass0 (by rfl) (pa_cons (pv 6) pa_nil)))) (pa_cons (pv 4) pa_nil))) pa_nil)))
      (C8.pss_cut (ps_for PassesOwn.never rfl (pi_range1 (by rfl) G.range (pa_cons (pe_fn G.law_draw (hr.mono (by decide)) pass0 (by rfl) (pa_cons (pv 2) (pa_cons pe_int pa_nil))) pa_nil)) (pg_name (i := 7) sc_law.nd rfl (Or.inl rfl))
        (pss_one (ps_expr (pe_metS G.mPut (hr.mono (by decide)) (pv 5) (fun σ => passAt takes0 σ) (pa_cons (pe_fn G.law_row (hr.mono (by decide)) pass0 (by rfl) (pa_cons (pv 2) (pa_cons (pv 3) pa_nil))) (pa_cons (pv 7) pa_nil))))))
      (pss_cons (ps_set (i := 8) sc_law.nd rfl (Or.inl rfl) (pe_metS G.mScan (hr.mono (by decide)) (pv 5) (fun σ => passAt takes0 σ) (pa_cons (pe_tupS pa_nil) pa_nil)))
      (pss_one (ps_for PassesOwn.never rfl (pi_range1 (by rfl) G.range (pa_cons pe_int pa_nil)) (pg_name (i := 9) sc_law.nd rfl (Or.inl rfl))
        (pss_one (ps_if (PW.pt (pw_or (pt_not (pt_val (pe_fn G.law_right (hr.mono (by decide)) pass0 (by rfl) (pa_cons (pv 2) (pa_cons (pv 5) (pa_cons (pv 3) pa_nil)))))) (pw_or (pt_cmpR (op_neD hr.units) (pe_metS G.mScan (hr.mono (by decide)) (pv 5) (fun σ => passAt takes0 σ) (pa_cons (pe_lstS pa_nil) pa_nil)) (pv 8) (nomark _)) (pw_or1 (pt_cmpR op_ne (pe_metS0 (E := fun _ => E0) G.mSize (hr.mono (by decide)) (pv 5) pass0A) (pe_callB call_len_seq (by rfl) G.len (by decide +kernel) (pa_cons (pv 8) pa_nil)) (nomark _))))))
          (pss_one (ps_ret pe_bl))
          pss_nil))))))))))
    (pss_one (ps_ret pe_bl))), ?_⟩
    obtain ⟨a, ns, rfl, hS, hl, hT0, k⟩ := h
    refine ⟨_, rfl, a, _, rfl, .inl hS, _, _, rfl, _, _, rfl, _, rfl, ?_, ?_, ?_⟩
    · split <;> split <;> omega
    · rw [List.length_map]
      split <;> split <;> omega
    refine for_range (lo := 0) (fun i σ J => ∃ v1 v2 v3 v4 v5 v6 v7 v8 v9, σ = [some (.ref a), v1, v2, v3, v4, v5, v6, v7, v8, v9] ∧ LamX.ExtN H J ∧ LamX.Tabs [(P0, qLam)] J) ⟨_, _, _, _, _, _, _, _, _, rfl, LamX.ExtN.refl _, hT0⟩ ?_ ?_
    · rintro i σ H1 hi ⟨v1, v2, v3, v4, v5, v6, v7, v8, v9, rfl, X1, hT1⟩
      rw [List.length_map] at hi
      obtain ⟨hi1, hi3⟩ := idx_lt3 hi
      rw [Int.zero_add]
      obtain ⟨c, hc⟩ : ∃ c : Int, (ns.map V.int ++ [V.int 0])[i]? = some (.int c) := by
        obtain ⟨c, z⟩ : ∃ c, (ns ++ [(0 : Int)])[i]? = some c := ⟨_, List.getElem?_eq_getElem (by rw [List.length_append]; exact hi1)⟩
        refine ⟨c, ?_⟩
        have e : ns.map V.int ++ [V.int 0] = (ns ++ [(0 : Int)]).map V.int := by rw [List.map_append]; rfl
        rw [e, List.getElem?_map, z]
        rfl
      have hS1 := seqL_extN X1 hS
      refine ⟨_, rfl, by show 1 ≤ 1000; decide, fun p0 H0 hp0 S0 e0 => ⟨a, p0, _, _, rfl, rfl, S0.seq hS1, SqL.of e0, by rw [List.length_map, sizeLine_eq]; show ns.length + 1 ≤ 16777216; omega, fun p1 H2 hp1 S2 e1 => ⟨_, rfl, p1, _, _, _, rfl, rfl, SqL.of e1, atI_nat (j := i) hc, c, rfl, fun sa H4 hsa S4 st4 => ?_⟩⟩⟩
      have S14 := (S0.trans S2).trans S4
      have hT4 := tabs_same S14 hT1
      have hsa1 : H1 sa = none := noneOf (S0.trans S2) hsa
      have frs : Fr H1 sa := fun o _ z => by rw [hsa1] at z; cases z
      refine ⟨fun σ J => ∃ v5 v6 v7 v8 v9 ps pj vsp ds js, σ = [some (.ref a), some (.int (i : Nat)), some (.ref sa), some (.ref ps), some (.ref pj), v5, v6, v7, v8, v9] ∧ LamX.ExtN H1 J ∧ StAt J sa ∧ LamX.Tabs [(P0, qLam)] J ∧ LyAt sa J ps pj vsp ds js, ?_, ?_⟩
      · refine ⟨_, rfl, _, _, rfl, rfl, ⟨by decide, by decide, by decide⟩, sa, rfl, st4, fun T ps pj vsp ds js H6 nT hps hpj hY hl3 eT B6 st6 => ?_⟩
        obtain ⟨z4, e4⟩ := st4.at
        refine ⟨T, _, rfl, SqT.of eT, rfl, _, _, rfl, _, _, rfl, rfl, ?_⟩
        exact ⟨_, _, _, _, _, ps, pj, vsp, ds, js, rfl, fun b o e n => B6 b o (ne_of_none e hsa1) (S14 b o e), st6, tabs_but e4 B6 hT4, hY⟩
      rintro σ J6 ⟨w5, w6, w7, w8, w9, ps, pj, vsp, ds, js, rfl, X6, st6, hT6, hY⟩
      refine ⟨fun σ J => ∃ v6 v7 v8 v9 S L Tx Kd, σ = [some (.ref a), some (.int (i : Nat)), some (.ref sa), some (.ref ps), some (.ref pj), some (.ref S), v6, v7, v8, v9] ∧ LS K P0 sa S L Tx Kd ps vsp ds js H1 J (fun _ => none) 0, ?_, ?_⟩
      · have hfew0 := hY.ok.few
        refine ⟨_, rfl, ps, rfl, ⟨_, SqL.of hY.sp⟩, fun D hD => ?_⟩
        have nD : D ≠ sa := st6.ne hD
        refine lc_list (K := K) (a := ps) (xs := vsp) (fun n J => ∃ ys : List V, ys.length = n ∧ Same J6 J ∧ J D = some (.lst ys) ∧ ∀ (i : Nat) (y : V) (d : FD), ys[i]? = some y → ds[i]? = some d → ∃ r, y = .ref r ∧ FdAt K J r d) ⟨[], rfl, same_upd hD, upd_same, fun i y d h => (by cases h)⟩ (fun i J hi ⟨_, _, S, _⟩ => SqL.of (S _ _ hY.sp)) ?_ ?_
        · rintro m v J hv ⟨ys, hyl, SJ, eD, hy⟩
          have hm := (List.getElem?_eq_some_iff.mp hv).1
          have hvl : vsp.length = ds.length := hY.sps.1
          obtain ⟨d, hd, hF⟩ := hY.sps.get hv
          have hdd := hY.dr d (List.mem_of_getElem? hd)
          refine ⟨rfl, _, rfl, sa, v, d, rfl, hF.same SJ, hdd.good, d.dep_lt, fun r J2 S2 hR => ?_⟩
          refine ⟨ys, S2 _ _ eD, by rw [sizeLine_eq]; omega, ys ++ [.ref r], by rw [List.length_append, hyl]; rfl, same_put (SJ.trans S2) hD, upd_same, fun q y d' h1 h2 => ?_⟩
          by_cases hq : q < ys.length
          · rw [List.getElem?_append_left hq] at h1
            obtain ⟨r', e, h⟩ := hy q y d' h1 h2
            exact ⟨r', e, FsAt.putl (S2 _ _ eD) (h.same S2)⟩
          · rw [List.getElem?_append_right (by omega)] at h1
            have e : q = m := by
              have := (List.getElem?_eq_some_iff.mp h1).1
              have : q - ys.length < 1 := this
              omega
            subst e
            rw [hyl, Nat.sub_self] at h1
            cases h1
            rw [hd] at h2
            cases h2
            exact ⟨r, rfl, FsAt.putl (S2 _ _ eD) hR⟩
        · rintro J ⟨ys, hyl, SJ, eD, hy⟩
          refine ⟨_, rfl, fun L dx hL hdx nd => ?_⟩
          have SN := same_new (C := LA K) (fs := []) hL hdx
          have eL : upd (upd J dx (.own L)) L (.ins (LA K) dx []) L = some (.ins (LA K) dx []) := upd_same
          generalize upd (upd J dx (.own L)) L (.ins (LA K) dx []) = JN_ at SN eL ⊢
          have hFs : FsAt K J ys ds := ⟨by rw [hyl]; exact hY.sps.1, hy⟩
          refine ⟨L, dx, D, pj, ys, ds, js, rfl, eL, SN _ _ eD, hFs.same SN, SN _ _ (SJ _ _ hY.jt), hY.ok, fun J8 t1 t2 S8 q1 q2 => ⟨rfl, ?_⟩⟩
          have eL8 := S8 _ _ eL
          have SL : Same J (upd J8 L (.ins (LA K) dx (fLayout (.ref t1) (.ref t2)))) := same_put (SN.trans S8) hL
          have hLy : LayAt K (upd J8 L (.ins (LA K) dx (fLayout (.ref t1) (.ref t2)))) L ds js := ⟨⟨dx, t1, t2, ys, upd_same, seqT_upd eL8 q1, hFs.same SL, seqT_upd eL8 q2⟩, hY.ok⟩
          generalize upd J8 L (.ins (LA K) dx (fLayout (.ref t1) (.ref t2))) = J9 at SL hLy ⊢
          have S69 := SJ.trans SL
          have hY9 := hY.same S69
          refine fun S2 dx2 hS2 hdx2 nd2 => ⟨S2, dx2, L, rfl, upd_same, fun Tx2 Kd2 G3 hTx hKd B hst => ⟨rfl, ?_⟩⟩
          have SN2 := same_new (C := SC K) (fs := []) hS2 hdx2
          have S93 : Same J9 G3 := fun b o e => B b o (ne_of_none e hS2) (SN2 _ _ e)
          have hT9 := noneOf SN2 hTx
          have hK9 := noneOf SN2 hKd
          have T63 := S69.trans S93
          have X3 : LamX.ExtN H1 G3 := X6.trans (LamX.ExtN.of T63)
          refine ⟨_, _, _, _, S2, L, Tx2, Kd2, rfl, X3, st6.same T63, hst, hLy.same S93, T63 _ _ hY.sp, fun s hs => ?_, tabs_same T63 hT6, hY.ns, ne_of_none hY9.sp hT9, (st6.same S69).ne hT9, frs, fr_ext (X6.trans (LamX.ExtN.of S69)) hT9, fr_ext (X6.trans (LamX.ExtN.of S69)) hK9, hY.dr, fun t e z => by cases z⟩
          rcases hs with rfl | rfl | rfl
          · exact hY.sps.same T63
          · exact ((hY9.sps).away hY.dr (.inl hT9)).same S93
          · exact ((hY9.sps).away hY.dr (.inl hK9)).same S93
      rintro σ J7 ⟨u6, u7, u8, u9, S, L, Tx, Kd, rfl, ls⟩
      have hfew := ls.ly.ok.few
      refine ⟨fun σ J => ∃ v6 v7 v8 v9 m n, σ = [some (.ref a), some (.int (i : Nat)), some (.ref sa), some (.ref ps), some (.ref pj), some (.ref S), v6, v7, v8, v9] ∧ LS K P0 sa S L Tx Kd ps vsp ds js H1 J m n ∧ n ≤ 6, ?_, ?_⟩
      · refine ⟨_, rfl, sa, 6, rfl, ls.st, by decide, by decide, fun dd J1 g0 g1 B1 st1 => ⟨dd, rfl, by omega, by omega, ?_⟩⟩
        have ls1 := ls.but B1 st1
        refine for_range (lo := 0) (fun j σ J => ∃ v6 v7 v8 v9 m, σ = [some (.ref a), some (.int (i : Nat)), some (.ref sa), some (.ref ps), some (.ref pj), some (.ref S), v6, v7, v8, v9] ∧ LS K P0 sa S L Tx Kd ps vsp ds js H1 J m j) ⟨_, _, _, _, _, rfl, ls1⟩ ?_ ?_
        · rintro j σ J2 hj ⟨x6, x7, x8, x9, m, rfl, l2⟩
          obtain ⟨dx, eS⟩ := l2.hS.ex
          refine ⟨_, rfl, S, dx, _, rfl, eS, lStore_m _ (by decide +kernel), ?_⟩
          refine ⟨_, rfl, _, rfl, sa, ps, vsp, ds, rfl, l2.st, l2.n1, l2.sp, l2.sps sa (.inl rfl), l2.dr, hfew, fun rr xs J3 hr0 hR B3 st3 er => ?_⟩
          have l3 := l2.but B3 st3
          have due := row_good l2.dr hR
          obtain ⟨ts, eT, _, _⟩ := l3.hS.tx
          refine ⟨_, rfl, S, L, Tx, Kd, ds, js, m, j, .ref rr, some xs, _, rfl, l3.hS, by omega, l3.ly, .tup er, row_inn l2.dr hfew hR _, (fun z => by injection z with z; rw [z, eT] at er; cases er), fun _ xs' ex => ⟨by cases ex; exact hR.rowT l2.dr, fun J4 B4 hst4 => ?_⟩, fun z hz => by rw [due] at hz; cases hz⟩
          cases ex
          exact ⟨_, _, _, _, _, rfl, l3.put B4 hst4 (rw_set l3.rw hR)⟩
        · rintro σ J2 ⟨x6, x7, x8, x9, m, rfl, l2⟩
          exact ⟨_, _, _, _, m, _, rfl, l2, by omega⟩
      clear ls
      rintro σ J8 ⟨y6, y7, y8, y9, m, n, rfl, ls, hn⟩
      obtain ⟨dx, eS⟩ := ls.hS.ex
      obtain ⟨ts, eT, hTs, hl⟩ := ls.hS.tx
      obtain ⟨es, hes⟩ := ents_of hTs
      have hrw : ∀ e ∈ es, RwOk ds e.1 := fun e he => by
        obtain ⟨q, hq, eq⟩ := List.mem_iff_getElem.mp he
        obtain ⟨t, ht⟩ : ∃ t, ts[q]? = some t := ⟨_, List.getElem?_eq_getElem (by rw [← hes.1]; exact hq)⟩
        obtain ⟨e', he', hm'⟩ := hes.2 q t ht
        rw [List.getElem?_eq_getElem hq, eq] at he'
        cases he'
        exact ls.rw t e hm'
      have sh := sh_ents ls.dr hrw
      have uniq : ∀ {ts'}, TIs ts' m → ts' = ts := fun {ts'} h => List.Perm.eq_of_pairwise (fun _ _ _ _ a b => str_ext (List.le_antisymm a b)) (h.1.imp fun {a b} q => Std.le_of_lt (ltS_iff.mp q)) (hTs.1.imp fun {a b} q => Std.le_of_lt (ltS_iff.mp q)) ((List.perm_ext_iff_of_nodup h.1.nodup hTs.1.nodup).mpr fun t => (h.2 t).trans (hTs.2 t).symm)
      refine ⟨_, rfl, S, dx, _, rfl, eS, lStore_m _ (by decide +kernel), by show 0 ≤ 1000; decide, fun p0' J9 hp0' S9 e9 => ?_⟩
      have l9 := ls.same S9
      refine ⟨S, L, Tx, Kd, ds, js, m, n, .ref p0', some [], rfl, l9.hS, by omega, l9.ly, .tup e9, ⟨by decide, fun x hx => by cases hx⟩, fun _ xs ex => ⟨fun i d x _ h2 => (by cases ex; cases h2), fun D ts' i' us Ja hTs' hAt Sa hD eD hU => ?_⟩, fun z hz => by rw [head_due] at hz; cases hz⟩
      cases ex
      obtain rfl := uniq hTs'
      rw [scan_all hAt] at hU
      have la := l9.same Sa
      have nD : D ≠ sa := l9.st.ne hD
      clear l9 ls Sa S9 e9 hp0' hD eS eT hAt
      refine ⟨4, rfl, by decide, by decide, for_range (n := 4) (fun j σ J => ∃ v9, σ = [some (.ref a), some (.int (i : Nat)), some (.ref sa), some (.ref ps), some (.ref pj), some (.ref S), y6, y7, some (.ref D), v9] ∧ LS K P0 sa S L Tx Kd ps vsp ds js H1 J m n ∧ J D = some (.lst us) ∧ LsIs J us ts' m) ⟨_, rfl, la, eD, hU⟩ ?_ ?_⟩
      · clear la hU eD
        rintro j σ Jb hj ⟨z9, rfl, lb, eDb, hUb⟩
        refine ⟨_, rfl, _, rfl, _, rfl, sa, S, L, Tx, Kd, ps, vsp, ds, js, m, n, rfl, lb.st, lb.hS, by omega, lb.ly, lb.n1, lb.sp, lb.sps sa (.inl rfl), lb.dr, lb.n3, lb.tab, fun Jc Bc stc tc lyc => ⟨_, rfl, iteF ?_⟩⟩
        have lc := lb.butN Bc stc tc lyc
        have eDc := Bc _ _ nD eDb (fun _ z => by cases z)
        obtain ⟨zb, eb⟩ := lb.st.at
        have hUc : LsIs Jc us ts' m := ⟨hUb.1, fun q v t a b => by
          obtain ⟨e, he, hE⟩ := hUb.2 q v t a b
          exact ⟨e, he, hE.mono fun r xs z => Bc _ _ (ne_of z eb (fun z => by cases z)) z (fun _ z => by cases z)⟩⟩
        obtain ⟨dx2, eS2⟩ := lc.hS.ex
        refine ⟨_, rfl, S, dx2, _, rfl, eS2, lStore_m _ (by decide +kernel), by show 0 ≤ 1000; decide, fun q0 Jd hq0 Sd ed => ?_⟩
        have ld := lc.same Sd
        refine ⟨S, L, Tx, Kd, ds, js, m, n, .ref q0, some [], rfl, ld.hS, by omega, ld.ly, .lst ed, ⟨by decide, fun x hx => by cases hx⟩, fun _ xs ex => ⟨fun i d x _ h2 => (by cases ex; cases h2), fun D2 ts2 i2 us2 Je hTs2 hAt2 Se hD2 eD2 hU2 => ?_⟩, fun z hz => by rw [head_due] at hz; cases hz⟩
        cases ex
        rw [scan_all hAt2, uniq hTs2] at hU2
        have Sce := Sd.trans Se
        have le := lc.same Sce
        have eDe := Sce _ _ eDc
        have hUe := hUc.nl (NL.of_same Sce)
        refine ⟨_, rfl, .list (es.map dE), .list (es.map dE), .lst (SqL.of eD2) (hU2.dp hes le.dr hrw), .lst (SqL.of eDe) (hUe.dp hes le.dr hrw), sh, sh, _, rfl, ?_⟩
        rw [eqv_same sh]
        refine iteF ?_
        obtain ⟨dx3, eS3⟩ := le.hS.ex
        refine ⟨_, rfl, S, dx3, _, rfl, eS3, lStore_m _ (by decide +kernel), S, L, Tx, Kd, m, n, rfl, le.hS, fun ts3 hTs3 hl3 => ?_⟩
        refine ⟨_, rfl, D, _, rfl, .inl (SqL.of eDe), rfl, _, rfl, ?_⟩
        rw [uniq hTs3, hUe.1, decide_eq_true rfl]
        refine iteF ?_
        exact ⟨_, rfl, le, eDe, hUe⟩
      · rintro σ Jb ⟨z9, rfl, lb, _⟩
        exact ⟨_, _, _, _, _, _, _, _, _, rfl, X1.trans lb.ext, lb.tab⟩
    · rintro σ J ⟨v1, v2, v3, v4, v5, v6, v7, v8, v9, rfl, XJ, hTJ⟩
      exact k J

end
end L2.K76

set_option Elab.async false
set_option linter.all false
set_option maxRecDepth 100000
set_option maxHeartbeats 4000000
namespace L2.K76
open PySem PySem.W PySem.Spec PySem.Calls PyProof.Rows L2.Jk

theorem facts {P : Program} {w : World} {K : Frag} {h : Heap} {mg : Str → Option Value} {base : Heap} (X : K.In h) (G : h.Ns mainGlobals mg) (c : He.SaysD fa fn K) (m : ex K = true) (TB : LamX.TabB base mg (He.cT K ("_law_all_said", none)).1 (He.cT K ("_law_all_said", none)).2) :
    GLW P w K mg base (He.cT K ("_law_all_said", none)).2 := by
  obtain ⟨mN, m⟩ := Bool.and_eq_true_iff.mp m
  obtain ⟨y1, mN⟩ := Bool.and_eq_true_iff.mp mN
  obtain ⟨y2, mN⟩ := Bool.and_eq_true_iff.mp mN
  obtain ⟨y3, y4⟩ := Bool.and_eq_true_iff.mp mN
  obtain ⟨m0, m1⟩ := Bool.and_eq_true_iff.mp m
  obtain ⟨z1, m0⟩ := Bool.and_eq_true_iff.mp m0
  obtain ⟨z2, m0⟩ := Bool.and_eq_true_iff.mp m0
  obtain ⟨z3, m0⟩ := Bool.and_eq_true_iff.mp m0
  obtain ⟨z4, m0⟩ := Bool.and_eq_true_iff.mp m0
  obtain ⟨z5, z6⟩ := Bool.and_eq_true_iff.mp m0
  have more : ∀ i, i < 6 → KC K (ca K i) ∧ kitOne K (.type "NoneType") (.ref (ca K i)) = some false ∧ kitOne K (.type "str") (.ref (ca K i)) = some false ∧ kitOne K (.ref (ca K i)) (.type "str") = some false ∧ ∀ j, j < 6 → kitOne K (.ref (ca K i)) (.ref (ca K j)) = some (decide (i = j)) := fun i hi => by
    have y := List.all_eq_true.mp m1 i (List.mem_range.mpr hi)
    obtain ⟨y1, y⟩ := Bool.and_eq_true_iff.mp y
    obtain ⟨y2, y⟩ := Bool.and_eq_true_iff.mp y
    obtain ⟨y3, y⟩ := Bool.and_eq_true_iff.mp y
    obtain ⟨y4, y5⟩ := Bool.and_eq_true_iff.mp y
    obtain ⟨x1, y1⟩ := Bool.and_eq_true_iff.mp y1
    obtain ⟨x2, y1⟩ := Bool.and_eq_true_iff.mp y1
    obtain ⟨x3, y1⟩ := Bool.and_eq_true_iff.mp y1
    obtain ⟨x4, x5⟩ := Bool.and_eq_true_iff.mp y1
    exact ⟨⟨He.eqO_ok x1, of_decide_eq_true x2, x3, eqcB_ok x4, x5⟩, of_decide_eq_true y2, of_decide_eq_true y3, of_decide_eq_true y4, fun j hj => of_decide_eq_true (List.all_eq_true.mp y5 j (List.mem_range.mpr hj))⟩
  have X0 := errB_ok z1
  obtain ⟨fdbi, Fbi⟩ := c.def_ 0 (d := ⟨("BadField", some "__init__"), "__init__", "BadField.__init__", defArgs (inClass (top 3) 0), defBody (inClass (top 3) 0), defScope (inClass (top 3) 0), [], []⟩) rfl
  obtain ⟨fdbt, Fbt⟩ := c.def_ 1 (d := ⟨("BadField", some "told"), "told", "BadField.told", defArgs (inClass (top 3) 1), defBody (inClass (top 3) 1), defScope (inClass (top 3) 1), [], []⟩) rfl
  have eb : ErrAt P w K mg base "BadField" (BF K) ["what"] "refused badfield" := ⟨He.glo_ok X G (c.fact 1 (f := .glo "BadField") rfl), X0, ⟨He.eqO_ok z2, of_decide_eq_true z3⟩, ⟨fdbi, FunD.bindsN (ps := ["self", "what"]) Fbi (fun _ _ _ _ _ _ us hl => match us, hl with | [_, _], _ => rfl), ok_init1 Fbi (⟨rfl, rfl, rfl, by decide +kernel, rfl, by decide +kernel, by decide +kernel⟩ : FnScope ["self", "what"] ["self", "what"] (defScope (inClass (top 3) 0))) X0 rfl rfl (by decide +kernel) (by decide +kernel)⟩,
    ⟨fdbt, FunD.bindsN (ps := ["self"]) Fbt (fun _ _ _ _ _ _ us hl => match us, hl with | [_], _ => rfl), Fbt.kp, L2.Jk.ok_told Fbt (⟨rfl, rfl, rfl, by decide +kernel, rfl, by decide +kernel, by decide +kernel⟩ : FnScope ["self"] ["self"] (defScope (inClass (top 3) 1)))⟩⟩
  have X1 := errB_ok y1
  obtain ⟨fdni, Fni⟩ := c.def_ 2 (d := ⟨("NoRow", some "__init__"), "__init__", "NoRow.__init__", defArgs (inClass (top 5) 0), defBody (inClass (top 5) 0), defScope (inClass (top 5) 0), [], []⟩) rfl
  obtain ⟨fdnt, Fnt⟩ := c.def_ 3 (d := ⟨("NoRow", some "told"), "told", "NoRow.told", defArgs (inClass (top 5) 1), defBody (inClass (top 5) 1), defScope (inClass (top 5) 1), [], []⟩) rfl
  have en : ErrAt P w K mg base "NoRow" (NR K) ["place"] "refused norow" := ⟨He.glo_ok X G (c.fact 2 (f := .glo "NoRow") rfl), X1, ⟨He.eqO_ok y2, of_decide_eq_true y3⟩, ⟨fdni, FunD.bindsN (ps := ["self", "place"]) Fni (fun _ _ _ _ _ _ us hl => match us, hl with | [_, _], _ => rfl), ok_init1 Fni (⟨rfl, rfl, rfl, by decide +kernel, rfl, by decide +kernel, by decide +kernel⟩ : FnScope ["self", "place"] ["self", "place"] (defScope (inClass (top 5) 0))) X1 rfl rfl (by decide +kernel) (by decide +kernel)⟩,
    ⟨fdnt, FunD.bindsN (ps := ["self"]) Fnt (fun _ _ _ _ _ _ us hl => match us, hl with | [_], _ => rfl), Fnt.kp, L2.Jk.ok_told Fnt (⟨rfl, rfl, rfl, by decide +kernel, rfl, by decide +kernel, by decide +kernel⟩ : FnScope ["self"] ["self"] (defScope (inClass (top 5) 1)))⟩⟩
  have g0 : G0 P w K mg base := ⟨⟨He.free_ok X G (c.fact 45 (f := .free "abs") rfl), He.free_ok X G (c.fact 46 (f := .free "int") rfl), He.free_ok X G (c.fact 47 (f := .free "bool") rfl), He.free_ok X G (c.fact 48 (f := .free "isinstance") rfl), He.free_ok X G (c.fact 49 (f := .free "range") rfl), He.free_ok X G (c.fact 50 (f := .free "len") rfl), He.free_ok X G (c.fact 51 (f := .free "set") rfl), He.free_ok X G (c.fact 52 (f := .free "type") rfl), He.free_ok X G (c.fact 53 (f := .free "str") rfl), He.free_ok X G (c.fact 54 (f := .free "reversed") rfl), He.free_ok X G (c.fact 55 (f := .free "tuple") rfl), He.free_ok X G (c.fact 56 (f := .free "list") rfl), He.free_ok X G (c.fact 57 (f := .free "any") rfl), He.free_ok X G (c.fact 58 (f := .free "all") rfl)⟩, He.str_ok X G (c.fact 64 (f := .str "SIGNS" SG) rfl), He.str_ok X G (c.fact 65 (f := .str "DIGITS" DG) rfl), eb⟩
  obtain ⟨fdf1, Ff1⟩ := c.def_ 40 (d := ⟨("is_made_of", none), "is_made_of", "is_made_of", defArgs (top 11), defBody (top 11), defScope (top 11), [], []⟩) rfl
  have Af1 : FnAt P w K mg base CX0 1 "is_made_of" ["text", "signs"] _ := ⟨_, fdf1, He.glo_ok X G (c.fact 11 (f := .glo "is_made_of") rfl), Ff1.kp, ok_made_of Ff1 g0, FunD.bindsN (ps := ["text", "signs"]) Ff1 (fun _ _ _ _ _ _ us hl => match us, hl with | [_, _], _ => rfl)⟩
  obtain ⟨fdf2, Ff2⟩ := c.def_ 41 (d := ⟨("is_sign", none), "is_sign", "is_sign", defArgs (top 12), defBody (top 12), defScope (top 12), [], []⟩) rfl
  have Af2 : FnAt P w K mg base CX0 1 "is_sign" ["thing"] _ := ⟨_, fdf2, He.glo_ok X G (c.fact 12 (f := .glo "is_sign") rfl), Ff2.kp, ok_is_sign Ff2 g0, FunD.bindsN (ps := ["thing"]) Ff2 (fun _ _ _ _ _ _ us hl => match us, hl with | [_], _ => rfl)⟩
  obtain ⟨fdf3, Ff3⟩ := c.def_ 43 (d := ⟨("is_number", none), "is_number", "is_number", defArgs (top 15), defBody (top 15), defScope (top 15), [], []⟩) rfl
  have Af3 : FnAt P w K mg base CX0 1 "is_number" ["thing"] _ := ⟨_, fdf3, He.glo_ok X G (c.fact 14 (f := .glo "is_number") rfl), Ff3.kp, ok_is_number Ff3 g0, FunD.bindsN (ps := ["thing"]) Ff3 (fun _ _ _ _ _ _ us hl => match us, hl with | [_], _ => rfl)⟩
  obtain ⟨fdf4, Ff4⟩ := c.def_ 44 (d := ⟨("digits_of", none), "digits_of", "digits_of", defArgs (top 16), defBody (top 16), defScope (top 16), [], []⟩) rfl
  have Af4 : FnAt P w K mg base CX0 1 "digits_of" ["number"] _ := ⟨_, fdf4, He.glo_ok X G (c.fact 15 (f := .glo "digits_of") rfl), Ff4.kp, ok_digits_of Ff4 g0, FunD.bindsN (ps := ["number"]) Ff4 (fun _ _ _ _ _ _ us hl => match us, hl with | [_], _ => rfl)⟩
  have g1 : G1 P w K mg base := ⟨g0, Af1, Af2, Af3, Af4⟩
  obtain ⟨fdf5, Ff5⟩ := c.def_ 42 (d := ⟨("are_signs", none), "are_signs", "are_signs", defArgs (top 13), defBody (top 13), defScope (top 13), [], []⟩) rfl
  have Af5 : FnAt P w K mg base CX0 2 "are_signs" ["thing"] _ := ⟨_, fdf5, He.glo_ok X G (c.fact 13 (f := .glo "are_signs") rfl), Ff5.kp, ok_are_signs Ff5 g1, FunD.bindsN (ps := ["thing"]) Ff5 (fun _ _ _ _ _ _ us hl => match us, hl with | [_], _ => rfl)⟩
  have g2 : G2 P w K mg base := ⟨g1, Af5⟩
  obtain ⟨fdf6, Ff6⟩ := c.def_ 47 (d := ⟨("check_signs", none), "check_signs", "check_signs", defArgs (top 20), defBody (top 20), defScope (top 20), [], []⟩) rfl
  have Af6 : FnAt P w K mg base (L2.CX P w) 3 "check_signs" ["signs"] _ := ⟨_, fdf6, He.glo_ok X G (c.fact 18 (f := .glo "check_signs") rfl), Ff6.kp, ok_check_signs Ff6 g2, FunD.bindsN (ps := ["signs"]) Ff6 (fun _ _ _ _ _ _ us hl => match us, hl with | [_], _ => rfl)⟩
  obtain ⟨fdf7, Ff7⟩ := c.def_ 48 (d := ⟨("check_span", none), "check_span", "check_span", defArgs (top 21), defBody (top 21), defScope (top 21), [], []⟩) rfl
  have Af7 : FnAt P w K mg base (L2.CX P w) 3 "check_span" ["least", "most"] _ := ⟨_, fdf7, He.glo_ok X G (c.fact 19 (f := .glo "check_span") rfl), Ff7.kp, ok_check_span Ff7 g2, FunD.bindsN (ps := ["least", "most"]) Ff7 (fun _ _ _ _ _ _ us hl => match us, hl with | [_, _], _ => rfl)⟩
  obtain ⟨fdf8, Ff8⟩ := c.def_ 51 (d := ⟨("has_words_with", none), "has_words_with", "has_words_with", defArgs (top 24), defBody (top 24), defScope (top 24), [], []⟩) rfl
  have Af8 : FnAt P w K mg base CX0 1 "has_words_with" ["field", "sign"] _ := ⟨_, fdf8, He.glo_ok X G (c.fact 22 (f := .glo "has_words_with") rfl), Ff8.kp, ok_has_words Ff8 g0, FunD.bindsN (ps := ["field", "sign"]) Ff8 (fun _ _ _ _ _ _ us hl => match us, hl with | [_, _], _ => rfl)⟩
  have cWord : C0 K mg "Word" ["signs", "least", "most"] := ⟨He.glo_ok X G (c.fact 5 (f := .glo "Word") rfl), He.cls_ok (c.fact 68 (f := .cls "Word") rfl), (fun f hf => by
    rcases List.mem_cons.mp hf with rfl | hf
    · exact He.noat_ok (c.fact 70 (f := .noat "Word" "signs") rfl)
    rcases List.mem_cons.mp hf with rfl | hf
    · exact He.noat_ok (c.fact 71 (f := .noat "Word" "least") rfl)
    rcases List.mem_cons.mp hf with rfl | hf
    · exact He.noat_ok (c.fact 72 (f := .noat "Word" "most") rfl)
    cases hf)⟩
  have cNumber : C0 K mg "Number" ["least", "most"] := ⟨He.glo_ok X G (c.fact 6 (f := .glo "Number") rfl), He.cls_ok (c.fact 76 (f := .cls "Number") rfl), (fun f hf => by
    rcases List.mem_cons.mp hf with rfl | hf
    · exact He.noat_ok (c.fact 78 (f := .noat "Number" "least") rfl)
    rcases List.mem_cons.mp hf with rfl | hf
    · exact He.noat_ok (c.fact 79 (f := .noat "Number" "most") rfl)
    cases hf)⟩
  have cFixed : C0 K mg "Fixed" ["width"] := ⟨He.glo_ok X G (c.fact 7 (f := .glo "Fixed") rfl), He.cls_ok (c.fact 83 (f := .cls "Fixed") rfl), (fun f hf => by
    rcases List.mem_cons.mp hf with rfl | hf
    · exact He.noat_ok (c.fact 85 (f := .noat "Fixed" "width") rfl)
    cases hf)⟩
  have cListed : C0 K mg "Listed" ["texts"] := ⟨He.glo_ok X G (c.fact 8 (f := .glo "Listed") rfl), He.cls_ok (c.fact 89 (f := .cls "Listed") rfl), (fun f hf => by
    rcases List.mem_cons.mp hf with rfl | hf
    · exact He.noat_ok (c.fact 91 (f := .noat "Listed" "texts") rfl)
    cases hf)⟩
  have cEnded : C0 K mg "Ended" ["signs", "sign", "least", "most"] := ⟨He.glo_ok X G (c.fact 9 (f := .glo "Ended") rfl), He.cls_ok (c.fact 95 (f := .cls "Ended") rfl), (fun f hf => by
    rcases List.mem_cons.mp hf with rfl | hf
    · exact He.noat_ok (c.fact 97 (f := .noat "Ended" "signs") rfl)
    rcases List.mem_cons.mp hf with rfl | hf
    · exact He.noat_ok (c.fact 98 (f := .noat "Ended" "sign") rfl)
    rcases List.mem_cons.mp hf with rfl | hf
    · exact He.noat_ok (c.fact 99 (f := .noat "Ended" "least") rfl)
    rcases List.mem_cons.mp hf with rfl | hf
    · exact He.noat_ok (c.fact 100 (f := .noat "Ended" "most") rfl)
    cases hf)⟩
  have cMarked : C0 K mg "Marked" ["none", "mark", "field"] := ⟨He.glo_ok X G (c.fact 10 (f := .glo "Marked") rfl), He.cls_ok (c.fact 104 (f := .cls "Marked") rfl), (fun f hf => by
    rcases List.mem_cons.mp hf with rfl | hf
    · exact He.noat_ok (c.fact 106 (f := .noat "Marked" "none") rfl)
    rcases List.mem_cons.mp hf with rfl | hf
    · exact He.noat_ok (c.fact 107 (f := .noat "Marked" "mark") rfl)
    rcases List.mem_cons.mp hf with rfl | hf
    · exact He.noat_ok (c.fact 108 (f := .noat "Marked" "field") rfl)
    cases hf)⟩
  have cLayout : C0 K mg "Layout" ["fields", "joints"] := ⟨He.glo_ok X G (c.fact 3 (f := .glo "Layout") rfl), He.cls_ok (c.fact 111 (f := .cls "Layout") rfl), (fun f hf => by
    rcases List.mem_cons.mp hf with rfl | hf
    · exact He.noat_ok (c.fact 113 (f := .noat "Layout" "fields") rfl)
    rcases List.mem_cons.mp hf with rfl | hf
    · exact He.noat_ok (c.fact 114 (f := .noat "Layout" "joints") rfl)
    cases hf)⟩
  have cStore : C0 K mg "Store" ["layout", "texts", "kept"] := ⟨He.glo_ok X G (c.fact 4 (f := .glo "Store") rfl), He.cls_ok (c.fact 115 (f := .cls "Store") rfl), (fun f hf => by
    rcases List.mem_cons.mp hf with rfl | hf
    · exact He.noat_ok (c.fact 117 (f := .noat "Store" "layout") rfl)
    rcases List.mem_cons.mp hf with rfl | hf
    · exact He.noat_ok (c.fact 118 (f := .noat "Store" "texts") rfl)
    rcases List.mem_cons.mp hf with rfl | hf
    · exact He.noat_ok (c.fact 119 (f := .noat "Store" "kept") rfl)
    cases hf)⟩
  have g3 : G3 P w K mg base := ⟨g2, Af6, Af7, Af8, cWord, cNumber, cFixed, cListed, cEnded, cMarked⟩
  have g4 : G4 P w K mg base := ⟨g3, fun i hi => (more i hi).1, He.eqO_ok z5, of_decide_eq_true z6, fun i j hi hj => (more i hi).2.2.2.2 j hj, fun j hj => (more j hj).2.1, fun j hj => (more j hj).2.2.1⟩
  obtain ⟨fdhWord, FhWord⟩ := c.def_ 6 (d := ⟨("Word", some "has_sign"), "has_sign", "Word.has_sign", defArgs (inClass (top 25) 7), defBody (inClass (top 25) 7), defScope (inClass (top 25) 7), [], []⟩) rfl
  obtain ⟨fdeWord, FeWord⟩ := c.def_ 5 (d := ⟨("Word", some "__eq__"), "__eq__", "Word.__eq__", defArgs (inClass (top 25) 1), defBody (inClass (top 25) 1), defScope (inClass (top 25) 1), [], []⟩) rfl
  have hWord : HM P w K mg base 2 (ca K 0) "has_sign" ["self", "sign"] (spHasWord K) := ⟨He.meth_ok (c.fact 73 (f := .meth "Word" "has_sign") rfl), fdhWord, ok_Word_has FhWord g3, FunD.bindsN (ps := ["self", "sign"]) FhWord (fun _ _ _ _ _ _ us hl => match us, hl with | [_, _], _ => rfl)⟩
  have eWord : EQ P w K mg base (ca K 0) (spEqWord K) := ⟨fdeWord, ok_Word_eq FeWord g4, FunD.bindsN (ps := ["self", "other"]) FeWord (fun _ _ _ _ _ _ us hl => match us, hl with | [_, _], _ => rfl)⟩
  obtain ⟨fdhNumber, FhNumber⟩ := c.def_ 11 (d := ⟨("Number", some "has_sign"), "has_sign", "Number.has_sign", defArgs (inClass (top 26) 7), defBody (inClass (top 26) 7), defScope (inClass (top 26) 7), [], []⟩) rfl
  obtain ⟨fdeNumber, FeNumber⟩ := c.def_ 10 (d := ⟨("Number", some "__eq__"), "__eq__", "Number.__eq__", defArgs (inClass (top 26) 1), defBody (inClass (top 26) 1), defScope (inClass (top 26) 1), [], []⟩) rfl
  have hNumber : HM P w K mg base 2 (ca K 1) "has_sign" ["self", "sign"] (spHasNumber K) := ⟨He.meth_ok (c.fact 80 (f := .meth "Number" "has_sign") rfl), fdhNumber, ok_Number_has FhNumber g3, FunD.bindsN (ps := ["self", "sign"]) FhNumber (fun _ _ _ _ _ _ us hl => match us, hl with | [_, _], _ => rfl)⟩
  have eNumber : EQ P w K mg base (ca K 1) (spEqNumber K) := ⟨fdeNumber, ok_Number_eq FeNumber g4, FunD.bindsN (ps := ["self", "other"]) FeNumber (fun _ _ _ _ _ _ us hl => match us, hl with | [_, _], _ => rfl)⟩
  obtain ⟨fdhFixed, FhFixed⟩ := c.def_ 16 (d := ⟨("Fixed", some "has_sign"), "has_sign", "Fixed.has_sign", defArgs (inClass (top 27) 7), defBody (inClass (top 27) 7), defScope (inClass (top 27) 7), [], []⟩) rfl
  obtain ⟨fdeFixed, FeFixed⟩ := c.def_ 15 (d := ⟨("Fixed", some "__eq__"), "__eq__", "Fixed.__eq__", defArgs (inClass (top 27) 1), defBody (inClass (top 27) 1), defScope (inClass (top 27) 1), [], []⟩) rfl
  have hFixed : HM P w K mg base 2 (ca K 2) "has_sign" ["self", "sign"] (spHasFixed K) := ⟨He.meth_ok (c.fact 86 (f := .meth "Fixed" "has_sign") rfl), fdhFixed, ok_Fixed_has FhFixed g3, FunD.bindsN (ps := ["self", "sign"]) FhFixed (fun _ _ _ _ _ _ us hl => match us, hl with | [_, _], _ => rfl)⟩
  have eFixed : EQ P w K mg base (ca K 2) (spEqFixed K) := ⟨fdeFixed, ok_Fixed_eq FeFixed g4, FunD.bindsN (ps := ["self", "other"]) FeFixed (fun _ _ _ _ _ _ us hl => match us, hl with | [_, _], _ => rfl)⟩
  obtain ⟨fdhListed, FhListed⟩ := c.def_ 21 (d := ⟨("Listed", some "has_sign"), "has_sign", "Listed.has_sign", defArgs (inClass (top 28) 7), defBody (inClass (top 28) 7), defScope (inClass (top 28) 7), [], []⟩) rfl
  obtain ⟨fdeListed, FeListed⟩ := c.def_ 20 (d := ⟨("Listed", some "__eq__"), "__eq__", "Listed.__eq__", defArgs (inClass (top 28) 1), defBody (inClass (top 28) 1), defScope (inClass (top 28) 1), [], []⟩) rfl
  have hListed : HM P w K mg base 2 (ca K 3) "has_sign" ["self", "sign"] (spHasListed K) := ⟨He.meth_ok (c.fact 92 (f := .meth "Listed" "has_sign") rfl), fdhListed, ok_Listed_has FhListed g3, FunD.bindsN (ps := ["self", "sign"]) FhListed (fun _ _ _ _ _ _ us hl => match us, hl with | [_, _], _ => rfl)⟩
  have eListed : EQ P w K mg base (ca K 3) (spEqListed K) := ⟨fdeListed, ok_Listed_eq FeListed g4, FunD.bindsN (ps := ["self", "other"]) FeListed (fun _ _ _ _ _ _ us hl => match us, hl with | [_, _], _ => rfl)⟩
  obtain ⟨fdhEnded, FhEnded⟩ := c.def_ 26 (d := ⟨("Ended", some "has_sign"), "has_sign", "Ended.has_sign", defArgs (inClass (top 29) 7), defBody (inClass (top 29) 7), defScope (inClass (top 29) 7), [], []⟩) rfl
  obtain ⟨fdeEnded, FeEnded⟩ := c.def_ 25 (d := ⟨("Ended", some "__eq__"), "__eq__", "Ended.__eq__", defArgs (inClass (top 29) 1), defBody (inClass (top 29) 1), defScope (inClass (top 29) 1), [], []⟩) rfl
  have hEnded : HM P w K mg base 2 (ca K 4) "has_sign" ["self", "sign"] (spHasEnded K) := ⟨He.meth_ok (c.fact 101 (f := .meth "Ended" "has_sign") rfl), fdhEnded, ok_Ended_has FhEnded g3, FunD.bindsN (ps := ["self", "sign"]) FhEnded (fun _ _ _ _ _ _ us hl => match us, hl with | [_, _], _ => rfl)⟩
  have eEnded : EQ P w K mg base (ca K 4) (spEqEnded K) := ⟨fdeEnded, ok_Ended_eq FeEnded g4, FunD.bindsN (ps := ["self", "other"]) FeEnded (fun _ _ _ _ _ _ us hl => match us, hl with | [_, _], _ => rfl)⟩
  have g5 : G5 P w K mg base := ⟨g4, hWord, eWord, hNumber, eNumber, hFixed, eFixed, hListed, eListed, hEnded, eEnded⟩
  obtain ⟨fdp1, Fp1⟩ := c.def_ 49 (d := ⟨("is_within", none), "is_within", "is_within", defArgs (top 22), defBody (top 22), defScope (top 22), [], []⟩) rfl
  have Ap1 : FnAt P w K mg base CX0 1 "is_within" ["field", "amount"] _ := ⟨_, fdp1, He.glo_ok X G (c.fact 20 (f := .glo "is_within") rfl), Fp1.kp, ok_is_within Fp1 g0, FunD.bindsN (ps := ["field", "amount"]) Fp1 (fun _ _ _ _ _ _ us hl => match us, hl with | [_, _], _ => rfl)⟩
  obtain ⟨fdp2, Fp2⟩ := c.def_ 45 (d := ⟨("number_of", none), "number_of", "number_of", defArgs (top 17), defBody (top 17), defScope (top 17), [], []⟩) rfl
  have Ap2 : FnAt P w K mg base CX0 1 "number_of" ["digits"] _ := ⟨_, fdp2, He.glo_ok X G (c.fact 16 (f := .glo "number_of") rfl), Fp2.kp, ok_number_of Fp2 g0, FunD.bindsN (ps := ["digits"]) Fp2 (fun _ _ _ _ _ _ us hl => match us, hl with | [_], _ => rfl)⟩
  obtain ⟨fdp0, Fp0⟩ := c.def_ 43 (d := ⟨("is_number", none), "is_number", "is_number", defArgs (top 15), defBody (top 15), defScope (top 15), [], []⟩) rfl
  have Ap0 : FnAt P w K mg base CX0 1 "is_number" ["thing"] _ := ⟨_, fdp0, He.glo_ok X G (c.fact 14 (f := .glo "is_number") rfl), Fp0.kp, ok_is_numberT Fp0 g0, FunD.bindsN (ps := ["thing"]) Fp0 (fun _ _ _ _ _ _ us hl => match us, hl with | [_], _ => rfl)⟩
  have q1 : P1 P w K mg base := ⟨g5, Ap1, Ap2, Ap0⟩
  obtain ⟨fdp3, Fp3⟩ := c.def_ 46 (d := ⟨("greatest_of", none), "greatest_of", "greatest_of", defArgs (top 18), defBody (top 18), defScope (top 18), [], []⟩) rfl
  have Ap3 : FnAt P w K mg base CX0 2 "greatest_of" ["width"] _ := ⟨_, fdp3, He.glo_ok X G (c.fact 17 (f := .glo "greatest_of") rfl), Fp3.kp, ok_greatest_of Fp3 q1, FunD.bindsN (ps := ["width"]) Fp3 (fun _ _ _ _ _ _ us hl => match us, hl with | [_], _ => rfl)⟩
  obtain ⟨fdp4, Fp4⟩ := c.def_ 50 (d := ⟨("is_word_of", none), "is_word_of", "is_word_of", defArgs (top 23), defBody (top 23), defScope (top 23), [], []⟩) rfl
  have Ap4 : FnAt P w K mg base CX0 2 "is_word_of" ["field", "thing"] _ := ⟨_, fdp4, He.glo_ok X G (c.fact 21 (f := .glo "is_word_of") rfl), Fp4.kp, ok_is_word_of Fp4 q1, FunD.bindsN (ps := ["field", "thing"]) Fp4 (fun _ _ _ _ _ _ us hl => match us, hl with | [_, _], _ => rfl)⟩
  have q2 : P2 P w K mg base := ⟨q1, Ap3, Ap4⟩
  obtain ⟨fdvWord, FvWord⟩ := c.def_ 7 (d := ⟨("Word", some "has_value"), "has_value", "Word.has_value", defArgs (inClass (top 25) 2), defBody (inClass (top 25) 2), defScope (inClass (top 25) 2), [], []⟩) rfl
  have hvWord : HM P w K mg base 3 (ca K 0) "has_value" ["self", "thing"] (spHVWord K) := ⟨He.meth_ok (c.fact 74 (f := .meth "Word" "has_value") rfl), fdvWord, (ok_Word_has_value FvWord q2).mono (by decide), FunD.bindsN (ps := ["self", "thing"]) FvWord (fun _ _ _ _ _ _ us hl => match us, hl with | [_, _], _ => rfl)⟩
  obtain ⟨fdvNumber, FvNumber⟩ := c.def_ 12 (d := ⟨("Number", some "has_value"), "has_value", "Number.has_value", defArgs (inClass (top 26) 2), defBody (inClass (top 26) 2), defScope (inClass (top 26) 2), [], []⟩) rfl
  have hvNumber : HM P w K mg base 3 (ca K 1) "has_value" ["self", "thing"] (spHVNumber K) := ⟨He.meth_ok (c.fact 81 (f := .meth "Number" "has_value") rfl), fdvNumber, (ok_Number_has_value FvNumber q2).mono (by decide), FunD.bindsN (ps := ["self", "thing"]) FvNumber (fun _ _ _ _ _ _ us hl => match us, hl with | [_, _], _ => rfl)⟩
  obtain ⟨fdvFixed, FvFixed⟩ := c.def_ 17 (d := ⟨("Fixed", some "has_value"), "has_value", "Fixed.has_value", defArgs (inClass (top 27) 2), defBody (inClass (top 27) 2), defScope (inClass (top 27) 2), [], []⟩) rfl
  have hvFixed : HM P w K mg base 3 (ca K 2) "has_value" ["self", "thing"] (spHVFixed K) := ⟨He.meth_ok (c.fact 87 (f := .meth "Fixed" "has_value") rfl), fdvFixed, (ok_Fixed_has_value FvFixed q2).mono (by decide), FunD.bindsN (ps := ["self", "thing"]) FvFixed (fun _ _ _ _ _ _ us hl => match us, hl with | [_, _], _ => rfl)⟩
  obtain ⟨fdvListed, FvListed⟩ := c.def_ 22 (d := ⟨("Listed", some "has_value"), "has_value", "Listed.has_value", defArgs (inClass (top 28) 2), defBody (inClass (top 28) 2), defScope (inClass (top 28) 2), [], []⟩) rfl
  have hvListed : HM P w K mg base 3 (ca K 3) "has_value" ["self", "thing"] (spHVListed K) := ⟨He.meth_ok (c.fact 93 (f := .meth "Listed" "has_value") rfl), fdvListed, (ok_Listed_has_value FvListed q2).mono (by decide), FunD.bindsN (ps := ["self", "thing"]) FvListed (fun _ _ _ _ _ _ us hl => match us, hl with | [_, _], _ => rfl)⟩
  obtain ⟨fdvEnded, FvEnded⟩ := c.def_ 27 (d := ⟨("Ended", some "has_value"), "has_value", "Ended.has_value", defArgs (inClass (top 29) 2), defBody (inClass (top 29) 2), defScope (inClass (top 29) 2), [], []⟩) rfl
  have hvEnded : HM P w K mg base 3 (ca K 4) "has_value" ["self", "thing"] (spHVEnded K) := ⟨He.meth_ok (c.fact 102 (f := .meth "Ended" "has_value") rfl), fdvEnded, (ok_Ended_has_value FvEnded q2).mono (by decide), FunD.bindsN (ps := ["self", "thing"]) FvEnded (fun _ _ _ _ _ _ us hl => match us, hl with | [_, _], _ => rfl)⟩
  obtain ⟨fdxWord, FxWord⟩ := c.def_ 8 (d := ⟨("Word", some "text_for"), "text_for", "Word.text_for", defArgs (inClass (top 25) 3), defBody (inClass (top 25) 3), defScope (inClass (top 25) 3), [], []⟩) rfl
  have tfWord : HM P w K mg base 3 (ca K 0) "text_for" ["self", "value"] (spTFWord K) := ⟨He.meth_ok (c.fact 75 (f := .meth "Word" "text_for") rfl), fdxWord, (ok_Word_text_for FxWord q2).mono (by decide), FunD.bindsN (ps := ["self", "value"]) FxWord (fun _ _ _ _ _ _ us hl => match us, hl with | [_, _], _ => rfl)⟩
  obtain ⟨fdxNumber, FxNumber⟩ := c.def_ 13 (d := ⟨("Number", some "text_for"), "text_for", "Number.text_for", defArgs (inClass (top 26) 3), defBody (inClass (top 26) 3), defScope (inClass (top 26) 3), [], []⟩) rfl
  have tfNumber : HM P w K mg base 3 (ca K 1) "text_for" ["self", "value"] (spTFNumber K) := ⟨He.meth_ok (c.fact 82 (f := .meth "Number" "text_for") rfl), fdxNumber, (ok_Number_text_for FxNumber q2).mono (by decide), FunD.bindsN (ps := ["self", "value"]) FxNumber (fun _ _ _ _ _ _ us hl => match us, hl with | [_, _], _ => rfl)⟩
  obtain ⟨fdxFixed, FxFixed⟩ := c.def_ 18 (d := ⟨("Fixed", some "text_for"), "text_for", "Fixed.text_for", defArgs (inClass (top 27) 3), defBody (inClass (top 27) 3), defScope (inClass (top 27) 3), [], []⟩) rfl
  have tfFixed : HM P w K mg base 3 (ca K 2) "text_for" ["self", "value"] (spTFFixed K) := ⟨He.meth_ok (c.fact 88 (f := .meth "Fixed" "text_for") rfl), fdxFixed, (ok_Fixed_text_for FxFixed q2).mono (by decide), FunD.bindsN (ps := ["self", "value"]) FxFixed (fun _ _ _ _ _ _ us hl => match us, hl with | [_, _], _ => rfl)⟩
  obtain ⟨fdxListed, FxListed⟩ := c.def_ 23 (d := ⟨("Listed", some "text_for"), "text_for", "Listed.text_for", defArgs (inClass (top 28) 3), defBody (inClass (top 28) 3), defScope (inClass (top 28) 3), [], []⟩) rfl
  have tfListed : HM P w K mg base 3 (ca K 3) "text_for" ["self", "value"] (spTFListed K) := ⟨He.meth_ok (c.fact 94 (f := .meth "Listed" "text_for") rfl), fdxListed, (ok_Listed_text_for FxListed q2).mono (by decide), FunD.bindsN (ps := ["self", "value"]) FxListed (fun _ _ _ _ _ _ us hl => match us, hl with | [_, _], _ => rfl)⟩
  obtain ⟨fdxEnded, FxEnded⟩ := c.def_ 28 (d := ⟨("Ended", some "text_for"), "text_for", "Ended.text_for", defArgs (inClass (top 29) 3), defBody (inClass (top 29) 3), defScope (inClass (top 29) 3), [], []⟩) rfl
  have tfEnded : HM P w K mg base 3 (ca K 4) "text_for" ["self", "value"] (spTFEnded K) := ⟨He.meth_ok (c.fact 103 (f := .meth "Ended" "text_for") rfl), fdxEnded, (ok_Ended_text_for FxEnded q2).mono (by decide), FunD.bindsN (ps := ["self", "value"]) FxEnded (fun _ _ _ _ _ _ us hl => match us, hl with | [_, _], _ => rfl)⟩
  have q3 : P3 P w K mg base := ⟨q2, hvWord, hvNumber, hvFixed, hvListed, hvEnded, tfWord, tfNumber, tfFixed, tfListed, tfEnded⟩
  have q4 : P4 P w K mg base := ⟨q3⟩
  obtain ⟨fdvMarked, FvMarked⟩ := c.def_ 31 (d := ⟨("Marked", some "has_value"), "has_value", "Marked.has_value", defArgs (inClass (top 30) 2), defBody (inClass (top 30) 2), defScope (inClass (top 30) 2), [], []⟩) rfl
  have hvMarked : HM P w K mg base 4 (ca K 5) "has_value" ["self", "thing"] (spMHV K) := ⟨He.meth_ok (c.fact 109 (f := .meth "Marked" "has_value") rfl), fdvMarked, (ok_Marked_has_value FvMarked q4).mono (by decide), FunD.bindsN (ps := ["self", "thing"]) FvMarked (fun _ _ _ _ _ _ us hl => match us, hl with | [_, _], _ => rfl)⟩
  obtain ⟨fdxMarked, FxMarked⟩ := c.def_ 32 (d := ⟨("Marked", some "text_for"), "text_for", "Marked.text_for", defArgs (inClass (top 30) 3), defBody (inClass (top 30) 3), defScope (inClass (top 30) 3), [], []⟩) rfl
  have tfMarked : HM P w K mg base 4 (ca K 5) "text_for" ["self", "value"] (spMTF K) := ⟨He.meth_ok (c.fact 110 (f := .meth "Marked" "text_for") rfl), fdxMarked, (ok_Marked_text_for FxMarked q4).mono (by decide), FunD.bindsN (ps := ["self", "value"]) FxMarked (fun _ _ _ _ _ _ us hl => match us, hl with | [_, _], _ => rfl)⟩
  have q5 : P5 P w K mg base := ⟨q4, hvMarked, tfMarked⟩
  obtain ⟨fds1, Fs1⟩ := c.def_ 52 (d := ⟨("is_sequence", none), "is_sequence", "is_sequence", defArgs (top 32), defBody (top 32), defScope (top 32), [], []⟩) rfl
  have As1 : FnAt P w K mg base CX0 1 "is_sequence" ["thing"] _ := ⟨_, fds1, He.glo_ok X G (c.fact 23 (f := .glo "is_sequence") rfl), Fs1.kp, ok_is_sequence Fs1 q5, FunD.bindsN (ps := ["thing"]) Fs1 (fun _ _ _ _ _ _ us hl => match us, hl with | [_], _ => rfl)⟩
  have q6 : P6 P w K mg base := ⟨q5, As1, He.str_ok X G (c.fact 66 (f := .str "LOW" "!") rfl), He.str_ok X G (c.fact 67 (f := .str "HIGH" "~") rfl), cLayout, en, He.free_ok X G (c.fact 61 (f := .free "max") rfl), He.free_ok X G (c.fact 62 (f := .free "zip") rfl)⟩
  obtain ⟨fds2, Fs2⟩ := c.def_ 53 (d := ⟨("check_fields", none), "check_fields", "check_fields", defArgs (top 33), defBody (top 33), defScope (top 33), [], []⟩) rfl
  have As2 : FnAt P w K mg base CX0 2 "check_fields" ["fields"] _ := ⟨_, fds2, He.glo_ok X G (c.fact 24 (f := .glo "check_fields") rfl), Fs2.kp, ok_check_fields Fs2 q6, FunD.bindsN (ps := ["fields"]) Fs2 (fun _ _ _ _ _ _ us hl => match us, hl with | [_], _ => rfl)⟩
  obtain ⟨fds3, Fs3⟩ := c.def_ 54 (d := ⟨("is_joint", none), "is_joint", "is_joint", defArgs (top 34), defBody (top 34), defScope (top 34), [], []⟩) rfl
  have As3 : FnAt P w K mg base CX0 1 "is_joint" ["thing"] _ := ⟨_, fds3, He.glo_ok X G (c.fact 25 (f := .glo "is_joint") rfl), Fs3.kp, ok_is_joint Fs3 q6, FunD.bindsN (ps := ["thing"]) Fs3 (fun _ _ _ _ _ _ us hl => match us, hl with | [_], _ => rfl)⟩
  have q7 : P7 P w K mg base := ⟨q6, As2, As3⟩
  obtain ⟨fdiLa, FiLa⟩ := c.def_ 33 (d := ⟨("Layout", some "__init__"), "__init__", "Layout.__init__", defArgs (inClass (top 35) 0), defBody (inClass (top 35) 0), defScope (inClass (top 35) 0), [], []⟩) rfl
  have kLay : ClsAt P w K mg base CX0 3 "Layout" (LA K) ["self", "fields", "joints"] (spLay K) := ⟨cLayout.mgC, cLayout.cl, He.mkr_ok (c.fact 112 (f := .mkr "Layout") rfl), fdiLa, ok_Layout_init FiLa q7, FunD.bindsN (ps := ["self", "fields", "joints"]) FiLa (fun _ _ _ _ _ _ us hl => match us, hl with | [_, _, _], _ => rfl)⟩
  have q8 : P8 P w K mg base := ⟨q7, kLay⟩
  obtain ⟨fds4, Fs4⟩ := c.def_ 55 (d := ⟨("joints_behind", none), "joints_behind", "joints_behind", defArgs (top 36), defBody (top 36), defScope (top 36), [], []⟩) rfl
  have As4 : FnAt P w K mg base CX0 1 "joints_behind" ["layout"] _ := ⟨_, fds4, He.glo_ok X G (c.fact 26 (f := .glo "joints_behind") rfl), Fs4.kp, ok_joints_behind Fs4 q8, FunD.bindsN (ps := ["layout"]) Fs4 (fun _ _ _ _ _ _ us hl => match us, hl with | [_], _ => rfl)⟩
  obtain ⟨fds5, Fs5⟩ := c.def_ 56 (d := ⟨("check_row", none), "check_row", "check_row", defArgs (top 37), defBody (top 37), defScope (top 37), [], []⟩) rfl
  have As5 : FnAt P w K mg base (L2.CX P w) 5 "check_row" ["layout", "row"] _ := ⟨_, fds5, He.glo_ok X G (c.fact 27 (f := .glo "check_row") rfl), Fs5.kp, ok_check_row Fs5 q8, FunD.bindsN (ps := ["layout", "row"]) Fs5 (fun _ _ _ _ _ _ us hl => match us, hl with | [_, _], _ => rfl)⟩
  have q9 : P9 P w K mg base := ⟨q8, As4, As5⟩
  obtain ⟨fds6, Fs6⟩ := c.def_ 57 (d := ⟨("row_text", none), "row_text", "row_text", defArgs (top 38), defBody (top 38), defScope (top 38), [], []⟩) rfl
  have As6 : FnAt P w K mg base (L2.CX P w) 6 "row_text" ["layout", "row"] _ := ⟨_, fds6, He.glo_ok X G (c.fact 28 (f := .glo "row_text") rfl), Fs6.kp, ok_row_text Fs6 q9, FunD.bindsN (ps := ["layout", "row"]) Fs6 (fun _ _ _ _ _ _ us hl => match us, hl with | [_, _], _ => rfl)⟩
  obtain ⟨fdr1, Fr1⟩ := c.def_ 60 (d := ⟨("_law_source", none), "_law_source", "_law_source", defArgs (top 45), defBody (top 45), defScope (top 45), [], []⟩) rfl
  have Ar1 : FnAt P w K mg base CX0 1 "_law_source" ["_law_cell"] _ := ⟨_, fdr1, He.glo_ok X G (c.fact 31 (f := .glo "_law_source") rfl), Fr1.kp, ok_source Fr1 g0.toBl, FunD.bindsN (ps := ["_law_cell"]) Fr1 (fun _ _ _ _ _ _ us hl => match us, hl with | [_], _ => rfl)⟩
  obtain ⟨fdr2, Fr2⟩ := c.def_ 61 (d := ⟨("_law_draw", none), "_law_draw", "_law_draw", defArgs (top 46), defBody (top 46), defScope (top 46), [], []⟩) rfl
  have Ar2 : FnAt P w K mg base CX0 1 "_law_draw" ["_law_source_here", "_law_many"] _ := ⟨_, fdr2, He.glo_ok X G (c.fact 32 (f := .glo "_law_draw") rfl), Fr2.kp, ok_draw Fr2 g0.toBl, FunD.bindsN (ps := ["_law_source_here", "_law_many"]) Fr2 (fun _ _ _ _ _ _ us hl => match us, hl with | [_, _], _ => rfl)⟩
  have gr0 : GR0 P w K mg base := ⟨q9, Ar2⟩
  obtain ⟨fdr3, Fr3⟩ := c.def_ 62 (d := ⟨("_law_pick", none), "_law_pick", "_law_pick", defArgs (top 47), defBody (top 47), defScope (top 47), [], []⟩) rfl
  have Ar3 : FnAt P w K mg base CX0 2 "_law_pick" ["_law_source_here", "_law_items"] _ := ⟨_, fdr3, He.glo_ok X G (c.fact 33 (f := .glo "_law_pick") rfl), Fr3.kp, ok_law_pick Fr3 gr0, FunD.bindsN (ps := ["_law_source_here", "_law_items"]) Fr3 (fun _ _ _ _ _ _ us hl => match us, hl with | [_, _], _ => rfl)⟩
  obtain ⟨fdiWord, FiWord⟩ := c.def_ 4 (d := ⟨("Word", some "__init__"), "__init__", "Word.__init__", defArgs (inClass (top 25) 0), defBody (inClass (top 25) 0), defScope (inClass (top 25) 0), [], []⟩) rfl
  have kWord : ClsAt P w K mg base (L2.CX P w) 4 "Word" (ca K 0) ["self", "signs", "least", "most"] (spWord K) := ⟨cWord.mgC, cWord.cl, He.mkr_ok (c.fact 69 (f := .mkr "Word") rfl), fdiWord, ok_Word_init FiWord g3, FunD.bindsN (ps := ["self", "signs", "least", "most"]) FiWord (fun _ _ _ _ _ _ us hl => match us, hl with | [_, _, _, _], _ => rfl)⟩
  obtain ⟨fdiNumber, FiNumber⟩ := c.def_ 9 (d := ⟨("Number", some "__init__"), "__init__", "Number.__init__", defArgs (inClass (top 26) 0), defBody (inClass (top 26) 0), defScope (inClass (top 26) 0), [], []⟩) rfl
  have kNumber : ClsAt P w K mg base (L2.CX P w) 4 "Number" (ca K 1) ["self", "least", "most"] (spNumber K) := ⟨cNumber.mgC, cNumber.cl, He.mkr_ok (c.fact 77 (f := .mkr "Number") rfl), fdiNumber, ok_Number_init FiNumber g3, FunD.bindsN (ps := ["self", "least", "most"]) FiNumber (fun _ _ _ _ _ _ us hl => match us, hl with | [_, _, _], _ => rfl)⟩
  obtain ⟨fdiFixed, FiFixed⟩ := c.def_ 14 (d := ⟨("Fixed", some "__init__"), "__init__", "Fixed.__init__", defArgs (inClass (top 27) 0), defBody (inClass (top 27) 0), defScope (inClass (top 27) 0), [], []⟩) rfl
  have kFixed : ClsAt P w K mg base (L2.CX P w) 4 "Fixed" (ca K 2) ["self", "width"] (spFixed K) := ⟨cFixed.mgC, cFixed.cl, He.mkr_ok (c.fact 84 (f := .mkr "Fixed") rfl), fdiFixed, ok_Fixed_init FiFixed g3, FunD.bindsN (ps := ["self", "width"]) FiFixed (fun _ _ _ _ _ _ us hl => match us, hl with | [_, _], _ => rfl)⟩
  obtain ⟨fdiListed, FiListed⟩ := c.def_ 19 (d := ⟨("Listed", some "__init__"), "__init__", "Listed.__init__", defArgs (inClass (top 28) 0), defBody (inClass (top 28) 0), defScope (inClass (top 28) 0), [], []⟩) rfl
  have kListed : ClsAt P w K mg base (L2.CX P w) 4 "Listed" (ca K 3) ["self", "texts"] (spListed K) := ⟨cListed.mgC, cListed.cl, He.mkr_ok (c.fact 90 (f := .mkr "Listed") rfl), fdiListed, ok_Listed_init FiListed g3, FunD.bindsN (ps := ["self", "texts"]) FiListed (fun _ _ _ _ _ _ us hl => match us, hl with | [_, _], _ => rfl)⟩
  obtain ⟨fdiEnded, FiEnded⟩ := c.def_ 24 (d := ⟨("Ended", some "__init__"), "__init__", "Ended.__init__", defArgs (inClass (top 29) 0), defBody (inClass (top 29) 0), defScope (inClass (top 29) 0), [], []⟩) rfl
  have kEnded : ClsAt P w K mg base (L2.CX P w) 4 "Ended" (ca K 4) ["self", "signs", "sign", "least", "most"] (spEnded K) := ⟨cEnded.mgC, cEnded.cl, He.mkr_ok (c.fact 96 (f := .mkr "Ended") rfl), fdiEnded, ok_Ended_init FiEnded g3, FunD.bindsN (ps := ["self", "signs", "sign", "least", "most"]) FiEnded (fun _ _ _ _ _ _ us hl => match us, hl with | [_, _, _, _, _], _ => rfl)⟩
  obtain ⟨fdiMarked, FiMarked⟩ := c.def_ 29 (d := ⟨("Marked", some "__init__"), "__init__", "Marked.__init__", defArgs (inClass (top 30) 0), defBody (inClass (top 30) 0), defScope (inClass (top 30) 0), [], []⟩) rfl
  have kMarked : ClsAt P w K mg base (L2.CX P w) 4 "Marked" (ca K 5) ["self", "none", "mark", "field"] (spMarked K) := ⟨cMarked.mgC, cMarked.cl, He.mkr_ok (c.fact 105 (f := .mkr "Marked") rfl), fdiMarked, ok_Marked_init FiMarked g5, FunD.bindsN (ps := ["self", "none", "mark", "field"]) FiMarked (fun _ _ _ _ _ _ us hl => match us, hl with | [_, _, _, _], _ => rfl)⟩
  have g6 : G6 P w K mg base := ⟨gr0, kWord, kNumber, kFixed, kListed, kEnded, kMarked⟩
  obtain ⟨fdmd, Fmd⟩ := c.def_ 63 (d := ⟨("_law_made", none), "_law_made", "_law_made", defArgs (top 48), defBody (top 48), defScope (top 48), [], []⟩) rfl
  have gmd := He.glo_ok X G (c.fact 34 (f := .glo "_law_made") rfl)
  have bmd := FunD.bindsN (ps := ["_law_spec"]) Fmd (fun _ _ _ _ _ _ us hl => match us, hl with | [_], _ => rfl)
  have md0 : FnAt P w K mg base CX0 (0 + 5) "_law_made" ["_law_spec"] (spMd K 0) := ⟨_, fdmd, gmd, Fmd.kp, fn_never.imp fun vs H Q E h => (by obtain ⟨_, _, d, _, _, _, hd, _⟩ := h; exact absurd hd (Nat.not_lt_zero _)), bmd⟩
  have stepmd : ∀ n, FnAt P w K mg base CX0 (n + 5) "_law_made" ["_law_spec"] (spMd K n) → FnAt P w K mg base CX0 ((n + 1) + 5) "_law_made" ["_law_spec"] (spMd K (n + 1)) := fun n A => ⟨_, fdmd, gmd, Fmd.kp, (ok_law_made Fmd g6 A).mono (by omega), bmd⟩
  have md2 := stepmd 1 (stepmd 0 md0)
  have g7 : G7 P w K mg base := ⟨g6, Ar3, md2, He.free_ok X G (c.fact 63 (f := .free "enumerate") rfl)⟩
  have gs : GS P w K mg base := ⟨g7, He.free_ok X G (c.fact 59 (f := .free "sorted") rfl)⟩
  obtain ⟨fdt2, Ft2⟩ := c.def_ 64 (d := ⟨("_law_strings", none), "_law_strings", "_law_strings", defArgs (top 49), defBody (top 49), defScope (top 49), [], []⟩) rfl
  have At2 : FnAt P w K mg base CX0 1 "_law_strings" ["_law_signs", "_law_least", "_law_most"] _ := ⟨_, fdt2, He.glo_ok X G (c.fact 35 (f := .glo "_law_strings") rfl), Ft2.kp, ok_law_strings Ft2 gs, FunD.bindsN (ps := ["_law_signs", "_law_least", "_law_most"]) Ft2 (fun _ _ _ _ _ _ us hl => match us, hl with | [_, _, _], _ => rfl)⟩
  have gv : GV P w K mg base := ⟨gs, At2⟩
  obtain ⟨fdva, Fva⟩ := c.def_ 65 (d := ⟨("_law_values", none), "_law_values", "_law_values", defArgs (top 50), defBody (top 50), defScope (top 50), [], []⟩) rfl
  have gva := He.glo_ok X G (c.fact 36 (f := .glo "_law_values") rfl)
  have bva := FunD.bindsN (ps := ["_law_spec"]) Fva (fun _ _ _ _ _ _ us hl => match us, hl with | [_], _ => rfl)
  have va0 : FnAt P w K mg base CX0 (0 + 1) "_law_values" ["_law_spec"] (spVals 0) := ⟨_, fdva, gva, Fva.kp, fn_never.imp fun vs H Q E h => (by obtain ⟨_, _, d, _, _, _, hd, _⟩ := h; exact absurd hd (Nat.not_lt_zero _)), bva⟩
  have stepva : ∀ n, FnAt P w K mg base CX0 (n + 1) "_law_values" ["_law_spec"] (spVals n) → FnAt P w K mg base CX0 ((n + 1) + 1) "_law_values" ["_law_spec"] (spVals (n + 1)) := fun n A => ⟨_, fdva, gva, Fva.kp, (ok_law_values Fva gv A).mono (by omega), bva⟩
  have va2 := stepva 1 (stepva 0 va0)
  have gz : GZ P w K mg base := ⟨gv, va2⟩
  obtain ⟨fdt3, Ft3⟩ := c.def_ 66 (d := ⟨("_law_shuffled", none), "_law_shuffled", "_law_shuffled", defArgs (top 51), defBody (top 51), defScope (top 51), [], []⟩) rfl
  have At3 : FnAt P w K mg base CX0 2 "_law_shuffled" ["_law_source_here", "_law_items"] _ := ⟨_, fdt3, He.glo_ok X G (c.fact 37 (f := .glo "_law_shuffled") rfl), Ft3.kp, ok_law_shuffled Ft3 gz, FunD.bindsN (ps := ["_law_source_here", "_law_items"]) Ft3 (fun _ _ _ _ _ _ us hl => match us, hl with | [_, _], _ => rfl)⟩
  have gm : GM P w K mg base := ⟨gz, At3⟩
  obtain ⟨fdsm, Fsm⟩ := c.def_ 67 (d := ⟨("_law_small", none), "_law_small", "_law_small", defArgs (top 52), defBody (top 52), defScope (top 52), [], []⟩) rfl
  have gsm := He.glo_ok X G (c.fact 38 (f := .glo "_law_small") rfl)
  have bsm := FunD.bindsN (ps := ["_law_source_here", "_law_is_inner"]) Fsm (fun _ _ _ _ _ _ us hl => match us, hl with | [_, _], _ => rfl)
  have sm0 : FnAt P w K mg base CX0 (0 + 2) "_law_small" ["_law_source_here", "_law_is_inner"] (spSm 0) := ⟨_, fdsm, gsm, Fsm.kp, fn_never.imp fun vs H Q E h => (by obtain ⟨_, b, _, _, hd, _⟩ := h; cases b <;> exact absurd hd (by decide)), bsm⟩
  have stepsm : ∀ n, FnAt P w K mg base CX0 (n + 2) "_law_small" ["_law_source_here", "_law_is_inner"] (spSm n) → FnAt P w K mg base CX0 ((n + 1) + 2) "_law_small" ["_law_source_here", "_law_is_inner"] (spSm (n + 1)) := fun n A => ⟨_, fdsm, gsm, Fsm.kp, (ok_law_small Fsm gm A).mono (by omega), bsm⟩
  have sm2 := stepsm 1 (stepsm 0 sm0)
  have gl : GL P w K mg base := ⟨gm, sm2⟩
  obtain ⟨fdw1, Fw1⟩ := c.def_ 58 (d := ⟨("first_from", none), "first_from", "first_from", defArgs (top 40), defBody (top 40), defScope (top 40), [], []⟩) rfl
  have Aw1 : FnAt P w K mg base CX0 1 "first_from" ["ascending", "thing"] _ := ⟨_, fdw1, He.glo_ok X G (c.fact 29 (f := .glo "first_from") rfl), Fw1.kp, ok_first_from Fw1 g0.toBl, FunD.bindsN (ps := ["ascending", "thing"]) Fw1 (fun _ _ _ _ _ _ us hl => match us, hl with | [_, _], _ => rfl)⟩
  have s0 : S0 P w K mg base := ⟨q9, As6, Aw1, cStore, He.free_ok X G (c.fact 63 (f := .free "enumerate") rfl)⟩
  obtain ⟨fdw2, Fw2⟩ := c.def_ 59 (d := ⟨("head_of", none), "head_of", "head_of", defArgs (top 42), defBody (top 42), defScope (top 42), [], []⟩) rfl
  have Aw2 : FnAt P w K mg base (L2.CX P w) 5 "head_of" ["layout", "values"] _ := ⟨_, fdw2, He.glo_ok X G (c.fact 30 (f := .glo "head_of") rfl), Fw2.kp, ok_head_of Fw2 s0, FunD.bindsN (ps := ["layout", "values"]) Fw2 (fun _ _ _ _ _ _ us hl => match us, hl with | [_, _], _ => rfl)⟩
  obtain ⟨fdiSt, FiSt⟩ := c.def_ 34 (d := ⟨("Store", some "__init__"), "__init__", "Store.__init__", defArgs (inClass (top 43) 0), defBody (inClass (top 43) 0), defScope (inClass (top 43) 0), [], []⟩) rfl
  have kSt : ClsAt P w K mg base CX0 1 "Store" (SC K) ["self", "layout"] (spStI K) := ⟨cStore.mgC, cStore.cl, He.mkr_ok (c.fact 116 (f := .mkr "Store") rfl), fdiSt, ok_StI FiSt s0, FunD.bindsN (ps := ["self", "layout"]) FiSt (fun _ _ _ _ _ _ us hl => match us, hl with | [_, _], _ => rfl)⟩
  obtain ⟨fdstput, Fstput⟩ := c.def_ 35 (d := ⟨("Store", some "put"), "put", "Store.put", defArgs (inClass (top 43) 1), defBody (inClass (top 43) 1), defScope (inClass (top 43) 1), [], []⟩) rfl
  have mput : MetAt P w K mg base (L2.CX P w) 7 (SC K) "put" ["self", "row", "number"] (spPut K) := ⟨cStore.cl, He.meth_ok (c.fact 120 (f := .meth "Store" "put") rfl), fdstput, ok_put Fstput s0, FunD.bindsN (ps := ["self", "row", "number"]) Fstput (fun _ _ _ _ _ _ us hl => match us, hl with | [_, _, _], _ => rfl)⟩
  obtain ⟨fdsttake, Fsttake⟩ := c.def_ 36 (d := ⟨("Store", some "take"), "take", "Store.take", defArgs (inClass (top 43) 2), defBody (inClass (top 43) 2), defScope (inClass (top 43) 2), [], []⟩) rfl
  have mtake : MetAt P w K mg base (L2.CX P w) 7 (SC K) "take" ["self", "row"] (spTake K) := ⟨cStore.cl, He.meth_ok (c.fact 121 (f := .meth "Store" "take") rfl), fdsttake, ok_take Fsttake s0, FunD.bindsN (ps := ["self", "row"]) Fsttake (fun _ _ _ _ _ _ us hl => match us, hl with | [_, _], _ => rfl)⟩
  obtain ⟨fdstget, Fstget⟩ := c.def_ 37 (d := ⟨("Store", some "get"), "get", "Store.get", defArgs (inClass (top 43) 3), defBody (inClass (top 43) 3), defScope (inClass (top 43) 3), [], []⟩) rfl
  have mget : MetAt P w K mg base (L2.CX P w) 7 (SC K) "get" ["self", "row"] (spGet K) := ⟨cStore.cl, He.meth_ok (c.fact 122 (f := .meth "Store" "get") rfl), fdstget, ok_get Fstget s0, FunD.bindsN (ps := ["self", "row"]) Fstget (fun _ _ _ _ _ _ us hl => match us, hl with | [_, _], _ => rfl)⟩
  obtain ⟨fdstsize, Fstsize⟩ := c.def_ 39 (d := ⟨("Store", some "size"), "size", "Store.size", defArgs (inClass (top 43) 5), defBody (inClass (top 43) 5), defScope (inClass (top 43) 5), [], []⟩) rfl
  have msize : MetAt P w K mg base CX0 1 (SC K) "size" ["self"] (spSize K) := ⟨cStore.cl, He.meth_ok (c.fact 124 (f := .meth "Store" "size") rfl), fdstsize, ok_size Fstsize s0, FunD.bindsN (ps := ["self"]) Fstsize (fun _ _ _ _ _ _ us hl => match us, hl with | [_], _ => rfl)⟩
  have s1 : S1 P w K mg base := ⟨s0, Aw2, kSt, mput⟩
  obtain ⟨fdstscan, Fstscan⟩ := c.def_ 38 (d := ⟨("Store", some "scan"), "scan", "Store.scan", defArgs (inClass (top 43) 4), defBody (inClass (top 43) 4), defScope (inClass (top 43) 4), [], []⟩) rfl
  have mscan : MetAt P w K mg base (L2.CX P w) 6 (SC K) "scan" ["self", "values"] (spScan K) := ⟨cStore.cl, He.meth_ok (c.fact 123 (f := .meth "Store" "scan") rfl), fdstscan, ok_scan Fstscan s1, FunD.bindsN (ps := ["self", "values"]) Fstscan (fun _ _ _ _ _ _ us hl => match us, hl with | [_, _], _ => rfl)⟩
  have gw : GW P w K mg base := ⟨gl, As6, He.glo_ok X G (c.fact 0 (f := .glo "JointError") rfl), of_decide_eq_true y4⟩
  obtain ⟨fdpl, Fpl⟩ := c.def_ 70 (d := ⟨("_law_place", none), "_law_place", "_law_place", defArgs (top 55), defBody (top 55), defScope (top 55), [], []⟩) rfl
  have pl : PlaceAt K mg := ⟨_, fdpl, He.glo_ok X G (c.fact 41 (f := .glo "_law_place") rfl), Fpl, FunD.bindsN (ps := ["_law_ask"]) Fpl (fun _ _ _ _ _ _ us hl => match us, hl with | [_], _ => rfl)⟩
  have gas : GAs P w K mg base := ⟨gw, cStore, mput, mtake, mget, mscan, msize, kSt, pl⟩
  obtain ⟨fdas, Fas⟩ := c.def_ 71 (d := ⟨("_law_all_said", none), "_law_all_said", "_law_all_said", defArgs (top 56), defBody (top 56), defScope (top 56), [], []⟩) rfl
  obtain ⟨c0, hc0⟩ : ∃ c0, fdas.code = .ref c0 := by
    obtain ⟨oc, od, dV, kV, doc, pm, an, cdv, ct, osl, rfl, lk, hcd, _, _⟩ := Fas.ex
    exact He.codeIn_ref hcd
  have ec : He.codeOf K ("_law_all_said", none) = c0 := by
    obtain ⟨oc, od, dV, kV, doc, pm, an, cdv, ct, osl, rfl, lk, hcd, _, _⟩ := Fas.ex
    exact He.codeOf_eq lk hc0
  have TB' : LamX.TabB base mg c0 (He.cT K ("_law_all_said", none)).2 := by
    have e1 : (He.cT K ("_law_all_said", none)).1 = c0 := ec
    rw [e1] at TB
    exact TB
  have Aas : FnAt P w K mg base CX0 10 "_law_all_said" ["_law_store", "_law_row_here"] (spAs K (He.cT K ("_law_all_said", none)).2) := ⟨_, fdas, He.glo_ok X G (c.fact 42 (f := .glo "_law_all_said") rfl), Fas.kp, ok_as Fas gas hc0 TB', FunD.bindsN (ps := ["_law_store", "_law_row_here"]) Fas (fun _ _ _ _ _ _ us hl => match us, hl with | [_, _], _ => rfl)⟩
  obtain ⟨fdrw, Frw⟩ := c.def_ 69 (d := ⟨("_law_row", none), "_law_row", "_law_row", defArgs (top 54), defBody (top 54), defScope (top 54), [], []⟩) rfl
  have Arw : FnAt P w K mg base CX0 4 "_law_row" ["_law_source_here", "_law_specs"] _ := ⟨_, fdrw, He.glo_ok X G (c.fact 40 (f := .glo "_law_row") rfl), Frw.kp, ok_law_row Frw gl, FunD.bindsN (ps := ["_law_source_here", "_law_specs"]) Frw (fun _ _ _ _ _ _ us hl => match us, hl with | [_, _], _ => rfl)⟩
  have grt : GRt P w K mg base (He.cT K ("_law_all_said", none)).2 := ⟨gas, Arw, Aas⟩
  obtain ⟨fdrt, Frt⟩ := c.def_ 72 (d := ⟨("_law_right", none), "_law_right", "_law_right", defArgs (top 57), defBody (top 57), defScope (top 57), [], []⟩) rfl
  have Art : FnAt P w K mg base CX0 11 "_law_right" ["_law_source_here", "_law_store", "_law_specs"] (spRt K (He.cT K ("_law_all_said", none)).2) := ⟨_, fdrt, He.glo_ok X G (c.fact 43 (f := .glo "_law_right") rfl), Frt.kp, ok_rt Frt grt, FunD.bindsN (ps := ["_law_source_here", "_law_store", "_law_specs"]) Frt (fun _ _ _ _ _ _ us hl => match us, hl with | [_, _, _], _ => rfl)⟩
  obtain ⟨fdt4, Ft4⟩ := c.def_ 68 (d := ⟨("_law_layout", none), "_law_layout", "_law_layout", defArgs (top 53), defBody (top 53), defScope (top 53), [], []⟩) rfl
  have At4 : FnAt P w K mg base CX0 5 "_law_layout" ["_law_source_here", "_law_most", "_law_limit"] _ := ⟨_, fdt4, He.glo_ok X G (c.fact 39 (f := .glo "_law_layout") rfl), Ft4.kp, ok_law_layout Ft4 gl, FunD.bindsN (ps := ["_law_source_here", "_law_most", "_law_limit"]) Ft4 (fun _ _ _ _ _ _ us hl => match us, hl with | [_, _, _], _ => rfl)⟩
  exact ⟨grt, Ar1, At4, Art, He.free_ok X G (c.fact 60 (f := .free "min") rfl)⟩

end L2.K76
open PySem PySem.W PySem.Calls PyProof.Rows
set_option maxRecDepth 100000 in
set_option maxHeartbeats 0 in
theorem PySem.Challenge.cw_jointkeys_k76_errors_of_stores_holds : PySem.Challenge.rw_jointkeys_k76_errors_of_stores.Holds := by
  w_on; o_law
  refine HandSHeadRun.head_any (r := OpenLaw.row PySem.Challenge.rw_jointkeys_k76_errors_of_stores) (q := view (OpenLaw.row PySem.Challenge.rw_jointkeys_k76_errors_of_stores).prog [58]) (H := L2.K76.hk) (ob := L2.K76.ob) (M := 8000) (loose := L2.K76.names) (d := HandSHeadRun.topDef (OpenLaw.row PySem.Challenge.rw_jointkeys_k76_errors_of_stores).prog 58) (kwd := []) L2.K76.ob_eq
    (by kernel_rfl) (fun s => by kernel_rfl) L2.K76.run (by kernel_rfl) (by kernel_rfl) (by kernel_rfl) (by rfl) (by first | assumption | decide +kernel) (by decide +kernel) ⟨rfl, rfl, rfl, rfl, rfl, by decide +kernel⟩ ?hw ?hc
  case hw => w_witness2
  case hc =>
    refine LamX.walk_ofTsE (l := PySem.Challenge.rw_jointkeys_k76_errors_of_stores) (n := 63) (k := 12) (x := "_law_script") (CX := fun _ => L2.CX0) rfl (by decide) (by kernel_rfl) ⟨rfl, by decide, by decide⟩ ?F (fun _ _ _ _ _ z => z)
    intro w mg fa h Y G hmg0
    obtain ⟨K, KX, c⟩ := Y
    have hmg : mg ("law" : PySem.Str) = some (.ref fa) := by
      have e : (HandSHeadRun.topDef (OpenLaw.row PySem.Challenge.rw_jointkeys_k76_errors_of_stores).prog 58).name = ("law" : PySem.Str) := by kernel_rfl
      rw [← e]
      exact hmg0
    obtain ⟨fd, F⟩ := c.t.d.def_ 73 (d := ⟨("law", none), "law", "law", L2.defArgs L2.K76.s_law, L2.defBody L2.K76.s_law, L2.defScope L2.K76.s_law, [], []⟩) rfl
    have e := hmg.symm.trans (He.glo_ok KX G (c.t.d.fact 44 (f := .glo "law") rfl))
    cases e
    have b := L2.FunD.bindsA (ps := ["_law_script"]) F fun _ _ _ _ _ _ us hl => match us, hl with | [_], _ => rfl
    have m0 : (("_law_all_said", none) : He.Defn) ∈ ([("_law_all_said", none)] : List He.Defn) := List.mem_singleton_self _
    have h1 := c.hd _ m0
    have h2 := c.out _ m0
    have h3 := c.empty _ m0
    refine ⟨K, KX, fd, [He.cT K ("_law_all_said", none)], L2.K76.spLaw K (He.cT K ("_law_all_said", none)).2, ?_, ?_, ?_, fun s v => b s [v] rfl, ?_, ?_⟩
    · exact fun p hp => by rw [List.mem_singleton.mp hp]; exact h3
    · exact fun p hp => by rw [List.mem_singleton.mp hp]; exact h2
    · exact fun p hp => by rw [List.mem_singleton.mp hp]; exact PySem.W.codeHd_of_K KX h1
    · intro H a ns hl _ hT hS
      exact ⟨a, ns, rfl, hS, hl, fun p hp => by rw [List.mem_singleton.mp hp]; exact LamX.TabS.nil (hT _ (List.mem_singleton_self _)), fun _ => rfl⟩
    · intro base _ _ hTB
      have TB := hTB _ (List.mem_singleton_self _)
      exact L2.K76.ok_law F (L2.K76.facts KX G c.t.d c.more TB)
#print axioms PySem.Challenge.cw_jointkeys_k76_errors_of_stores_holds
