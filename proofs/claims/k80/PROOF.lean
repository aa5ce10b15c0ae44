import PyProof.Rows.All
import Wide.All
import OpenK.AllK
import Wide.FinOn
import HandS.ForMost
import HandS.ForExc
import HandS.ExcInit
import HandS.ExcIs
import HandS.ExcField
import HandS.IsInst
import KE.KStateDown
import HandS.Defaults
import HandS.Head0
import HandS.Head1
import HandS.Head2
import HandS.Head3
import HandS.Head4
import HandS.HeadEnd
import HandS.HeadHook1
import HandS.HeadHook2
import HandS.HeadHook3
import HandS.HeadHook4
import HandS.Walk
import HandS.OwnEq
import PyProof.InstNe
import HandS.HeadWalk
import HandS.Text
import KE.KIntText
import PyProof.Rows.Digits
import KE.IntTextLaws
import PyProof.WalksS
import PyProof.StrWalks
import PyProof.EnumMake
import PyProof.Rows.SetFrom
import PyProof.SetKind
import HandS.Strs
import HandS.Rev
import HandS.Zip
import PyProof.JoinWalk
import PyProof.ListStr
import HandS.ExcOwn
import HandS.WordsExc
import HandS.StrMore
import PyProof.StrOps2
import HandS.TupAny
import HandS.StrSplit
import HandS.MapJoin
import KE.DatumOrd
import HandS.Codes
import HandS.FStr
import KE.GoesEnum
import HandS.RaiseMore
import HandS.Lambda
import KE.KDflt
import PyProof.CallFns
import HandS.TryMany
import HandS.Style
import HandS.MakeKwOnly
import PySem.Challenge.RW_jointkeys_k80_rows_as_words
set_option Elab.async false
set_option linter.all false
set_option maxRecDepth 100000
set_option maxHeartbeats 4000000
/-! Own exceptions as plain values: made, their fields read, their methods called, isinstance asked of them. -/
namespace L2.Jk
open PySem PySem.W PySem.Spec PySem.Calls PyProof.Rows

/-- what an own error class says of itself, for its instances as values -/
structure ErrC (K : Frag) (C : Addr) : Prop where
  ox : OexC K C
  xf : XfC K C
  kk : findIn K (.ref C) "__class__" = some (some (.builtin "object.__class__"))
  kn : specialIn K (.builtin "object.__class__") "__get__" = some (some (.builtin "getset_descriptor.__get__"))
  kt : takesIn K (.builtin "object.__class__") = some true
  km : mroIn K C (.type "object") = some true

section
variable {prog : Program} {w : World} {A : Around} {E : Value → Shared → Prop} {s : Shared} {K : Frag} {e C f : Addr} {oe od : Obj}

/-- e.__class__ of an error with a dict of its own -/
theorem err_class {Q : Option Value → Shared → Prop} (T : ErrC K C) (X : K.In s.heap) (I : InstAt s.heap e oe C (some od)) (h : Q (some (.ref C)) { s with toks := s.toks + 1 }) :
    wpAny (model prog w) A (getAttr? (.ref e) "__class__") Q E s := by
  obtain ⟨cd, hcd, _⟩ := any_some T.xf.hdC
  have look := findObj_data (od := od) (show (clsIn K C).isSome = true by rw [hcd]; rfl) T.kk T.kn T.kt
  obtain ⟨hp, gn, dr, tk, os⟩ := s
  have lt := I.type (M := model prog w)
  have lg := looks_findIn (M := model prog w) X T.xf.ga
  have lh := looks_findIn (M := model prog w) X T.xf.gg
  have lf := looks_find (M := model prog w) X I look
  have inB : Looks (model prog w) hp (isInstance (.ref e) (.type "BaseException")) true := lt.andThen (looks_subIn X T.xf.exC)
  have n2 : (Value.builtin "BaseException.__getattribute__" == Value.builtin "object.__getattribute__") = false := by decide +kernel
  have n1 : (onTheHeap (Value.ref C) && Value.builtin "BaseException.__getattribute__" == Value.builtin "object.__getattribute__") = false := by rw [n2] <;> rfl
  unfold getAttr? getAttrBy? getAttrBy
  refine wpAny_bind (wpAny_mkText (wpAny_bind (wpAny_attempt (wpAny_holding (wpAny_bind (lt.at (wpAny_bind (lg.at ?_))))))))
  show wpAny _ _ (if (onTheHeap (Value.ref C) && Value.builtin "BaseException.__getattribute__" == Value.builtin "object.__getattribute__") = true then _ else _) _ _ _
  rw [n1, if_neg Bool.false_ne_true]
  unfold getAttrByItsOwn hookBefore
  refine wpAny_bind ?_
  rw [if_pos (show onTheHeap (Value.ref C) = true from rfl)]
  refine lh.at (wpAny_bind (wpAny_attempt (wpAny_holding ?_)))
  unfold callGetattribute
  rw [show (false && onTheHeap (Value.builtin "BaseException.__getattribute__")) = false from rfl, if_neg Bool.false_ne_true]
  unfold boundAndCalled
  rw [PySem.F.excAttr_ValueError.ga.bind (.ref e)]
  refine wpAny_bind (wpAny_pure ?_)
  show wpAny _ _ (call (.builtin "BaseException.__getattribute__") [.ref e, .str "__class__" tk]) _ _ _
  refine wpAny_call (codeAny_call_builtin PySem.F.excAttr_ValueError.ga.plain PySem.F.entry_bexc_ga ?_)
  refine @check_slot (model prog w) _ _ ⟨hp, gn, dr, tk + 1, os⟩ "BaseException.__getattribute__" "BaseException" "__getattribute__" (.ref e) [.str "__class__" tk] [] _
    (by decide +kernel) (by decide +kernel) inB (PySem.F.args_bexc_ga (.ref e) (.str "__class__" tk)) ?_
  unfold Builtin.«object.__getattribute__»
  refine wpAny_bind (wpAny_of_eq (a := ((Value.ref e : Value), [Value.str "__class__" tk])) (by first | rfl | (simp only [slotArgs]; rfl)) ?_)
  refine wpAny_bind (wpAny_pure (wpAny_bind (lt.at (wpAny_bind (lf.at ?_)))))
  show wpAny _ _ (holding [Value.builtin "object.__class__"] (call (.builtin "getset_descriptor.__get__") [.builtin "object.__class__", .ref e, .ref C]) >>= ret) _ _ _
  refine wpAny_bind (wpAny_holding (wpAny_call (class_get (s := ⟨hp, gn, dr, tk + 1, os⟩) (ox := oe) (od := some od) X I T.km ?_)))
  refine wpAny_pure ?_
  show wpAny _ _ (handedOut (.ref C)) _ _ _
  rw [handedOut_of (v := .ref C) rfl]
  first
    | exact wpAny_pure (wpAny_pure h)
    | exact wpAny_pure h
    | exact wpAny_pure (wpAny_bind (wpAny_pure (wpAny_pure h)))
/-- isinstance may be asked of it -/
theorem err_kit (T : ErrC K C) : KitX K (.ref e) (.ref C) (fun h => ∃ o d, InstAt h e o C (some d)) where
  ty := fun _ _ _ ⟨_, _, I⟩ => I.type
  it := fun _ _ X _ => by
    obtain ⟨cd, hc, _⟩ := any_some T.xf.hdC
    unfold clsIn at hc
    split at hc
    · rename_i ho
      intro _ _ _ _ k q
      unfold isType loadHead
      exact wpAny_bind (wpAny_loadPart (k _ _ (X _ _ ho)) (wpAny_pure q))
    · cases hc
  ne := fun h tp dd its n sl X htp => by
    obtain ⟨cd, hc, _⟩ := any_some T.xf.hdC
    refine Bool.eq_false_iff.mpr fun q => ?_
    have z : C = tp := Value.ref.inj (beq_iff_eq.mp q)
    subst z
    unfold clsIn at hc
    split at hc
    · rename_i ho
      have y := (X _ _ ho).symm.trans htp
      cases y
    · cases hc
  ca := fun X ⟨_, _, I⟩ k => err_class T X I k

/-- the method of an error, found in its class -/
theorem err_meth {name : Str} {pl : Sem Bool} {Q : Value × List Value → Shared → Prop} (T : ErrC K C) (X : K.In s.heap) (I : InstAt s.heap e oe C (some od))
    (hf : findIn K (.ref C) name = some (some (.ref f))) (ht : isFn K (.ref f) = true) (hs : shadowIn (some od) name = some false) (h : Q (.ref f, [.ref e]) s) :
    wpAny (model prog w) A (getMethod (.ref e) name pl) Q E s := by
  have cn : Manifest.canonical "BaseException.__getattribute__" = "object.__getattribute__" := by first | kernel_rfl | decide +kernel
  obtain ⟨r, ra, rb⟩ := Option.map_eq_some_iff.mp hs
  have dd := I.dict
  unfold getMethod specialOf
  refine wpAny_bind (wpAny_bind (I.type.here ((looks_findIn X T.xf.ga).here ?_)))
  dsimp only
  rw [cn, if_neg (by decide)]
  refine wpAny_bind (wpAny_bind (I.type.here ((looks_findIn X T.xf.gg).here ?_)))
  refine wpAny_bind (wpAny_bind (I.type.here ((looks_findIn X hf).here (wpAny_bind ((looks_typeIn X (beq_iff_eq.mp ht)).here ?_)))))
  rw [if_neg (by decide +kernel)]
  refine wpAny_bind (wpAny_loadPart I.at_ ?_)
  cases q : oe.dict with
  | none => exact wpAny_bind (wpAny_rule (wpAny_pure h))
  | some dx =>
    rw [q] at dd
    refine wpAny_bind (wpAny_bind (wpAny_loadPart dd ?_))
    rw [nsLook_of ra]
    refine wpAny_pure ?_
    rw [rb]
    exact wpAny_bind (wpAny_rule (wpAny_pure h))
end

section
variable {X : Cx} {pins : List (Addr × Obj)} {σ : St} {H : Hp} {s : Shared} {C a d : Addr} {fs : List (Str × V)}
/-- an error as the heap holds it -/
theorem err_at (I : Inv X pins σ H s) (ha : H a = some (exo a C (some d))) (hd : H d = some (exd d fs)) :
    ∃ o od mA, InstAt s.heap a o C (some od) ∧ s.heap.Ns1 d mA ∧ (∀ f, RelO (fs.lookup f) (mA f)) ∧ s.heap.get? d = some od ∧ ∀ f, lookIn f od = some (mA f) := by
  obtain ⟨t1, ho⟩ := exo_at I.hok ha
  obtain ⟨mA, hn, r⟩ := exd_at I.hok hd
  obtain ⟨od, hod, hl⟩ := lookIn_ns hn
  exact ⟨_, od, mA, ⟨ho, rfl, rfl, hod⟩, hn, r, hod, hl⟩
/-- e.f of an error -/
def tEf (K : Frag) (f : Str) (te : TE) : TE := fun σ H Q => te σ H fun x H1 => ∃ (a C d : Addr) (fs : List (Str × V)) (v : V), x = .ref a ∧ ErrC K C ∧ findIn K (.ref C) f = some none ∧
  H1 a = some (exo a C (some d)) ∧ H1 d = some (exd d fs) ∧ fs.lookup f = some v ∧ Q v H1
theorem pe_ef {e : Expr} {te : TE} {pos : Pos} {n : Str} (he : PE X e te) (hb : attributeBase e n X.env (eval e X.env) = eval e X.env := by rfl) :
    PE X (.Attribute e n pos) (tEf X.K n te) := by
  refine ⟨fun pins s σ H Q I h => ?_⟩
  refine attr_of hb (thn (he.run pins s σ H _ I h) fun u s1 hh => ?_)
  obtain ⟨x, H1, I1, rx, a, C, d, fs, v, ex, T, hno, ha, hd, l, q⟩ := hh
  subst ex
  obtain rfl : u = Value.ref a := rx
  obtain ⟨o, od, mA, J, hn, r, hod, hl⟩ := err_at I1 ha hd
  obtain ⟨u, hu, ru⟩ := RelO.some_of (v := v) (o := mA n) (by rw [← l]; exact r n)
  exact HandSPX.exc_get I1.kIn J T.xf.ga T.xf.gg T.xf.exC (findObj_own T.xf.hdC hno rfl (by rw [hl, hu])) (handed_of ru) ⟨v, H1, I1.tok _, ru, q⟩
/-- what a def promises, met when it is called: which def it is shows in the heap -/
def Does (X : Cx) (CX : CXT) (f : Addr) (vs : List V) (H : Hp) (Q : VK) (E : XK) : Prop :=
  ∃ (k : Nat) (fd : FuncData) (ps : List Str) (sp : Sp), keepIn X.K (.ref f) = true ∧ FnOk X.prog X.w X.K X.mg X.base CX k f fd ps sp ∧ Room k X.A ∧ Binds X.K fd ps [] ∧ sp vs H Q E
/-- e.m() of an error -/
def tEm0 (X : Cx) (CX : CXT) (m : Str) (E : XK) (te : TE) : TE := fun σ H Q => te σ H fun x H1 => ∃ (a C d f : Addr) (fs : List (Str × V)), x = .ref a ∧ ErrC X.K C ∧
  H1 a = some (exo a C (some d)) ∧ H1 d = some (exd d fs) ∧ fs.lookup m = none ∧ findIn X.K (.ref C) m = some (some (.ref f)) ∧ isFn X.K (.ref f) = true ∧ Does X CX f [.ref a] H1 Q E
theorem pe_em0 {CX : CXT} {E : XK} {o : Expr} {m : Str} {ta : TE} {apos pos : Pos} {pl : Sem Bool} (he : PE X o ta) (hx : Passes CX X E)
    (ht : eval (.Call (.Attribute o m apos) [] [] pos) X.env = (do
      let ov ← eval o X.env
      standAt apos.atName
      let (f, first) ← holding [ov] (getMethod ov m pl)
      callWith pos f first (backTo pos (starEach [] X.env)) (backToKw pos (keywordEach [] X.env))) := by rfl) :
    PE X (.Call (.Attribute o m apos) [] [] pos) (tEm0 X CX m E ta) := by
  refine ⟨fun pins s σ H Q I h => ?_⟩
  refine methodCall_KW (pl := pl) (thn (he.run pins s σ H _ I h) fun u s1 hh => ?_) ht
  obtain ⟨x, H1, I1, rx, a, C, d, f, fs, ex, T, ha, hd, l, hf, hfn, k, fd, ps, sp, kp, F, hr, hb, q⟩ := hh
  subst ex
  obtain rfl : u = Value.ref a := rx
  obtain ⟨o, od, mA, J, hn, r, hod, hl⟩ := err_at I1 ha hd
  have hno : mA m = none := RelO.none_of (by rw [← l]; exact r m)
  refine err_meth T I1.kIn J hf hfn (by show (lookIn m od).map _ = _; rw [hl, hno]; rfl) ?_
  exact callWith_K0 (first := [.ref a]) I1.kIn kp (run_fn (us := [.ref a]) (vs := [.ref a]) F hr hb .nil hx I1 (.cons rfl .nil) q)
/-- C(e, ..), an own error made and kept -/
def tMkE (C : Addr) (sp : Sp) (ta : TA) : TE := fun σ H Q => ta σ H fun vs H1 => vs.length ≤ 1000 ∧ ∀ a, H1 a = none → sp (.ref a :: vs) (upd H1 a (exo a C none)) (fun v H2 => v = .non ∧ Q (.ref a) H2) (fun _ _ _ => False)
theorem run_mkE {CX : CXT} {fI : Addr} {k : Nat} {fd : FuncData} {ps : List Str} {sp : Sp} {us : List Value} {vs : List V} {Q : VK} (T : OexC X.K C) (iC : findIn X.K (.ref C) "__init__" = some (some (.ref fI))) (tI : typeIn X.K (.ref fI) = some (.type "function"))
    (F1 : FnOk X.prog X.w X.K X.mg X.base CX k fI fd ps sp) (hr : Room (k + 1) X.A) (hb : Binds X.K fd ps []) (hx : Passes CX X (fun _ _ _ => False)) (I1 : Inv X pins σ H s) (r1 : Vals vs us) (hz : vs.length ≤ 1000)
    (q1 : ∀ a, H a = none → sp (.ref a :: vs) (upd H a (exo a C none)) (fun v H2 => v = .non ∧ Q (.ref a) H2) (fun _ _ _ => False)) :
    wpAny (model X.prog X.w) X.A (call (.ref C) us) (EP X pins σ Q) X.xe s := by
  obtain ⟨nm, q, N, bs, bm, sn, sub, ab, col, dd, k0, k1, k2, k3, k5, hC, hbm⟩ := T.cls
  obtain ⟨hp, g, dr, tk, os⟩ := s
  have sz : hp.objs.size ≤ hp.objs.size + 1 := Nat.le_succ _
  have fresh : H (hp.objs.size + 1) = none := I1.hok.fresh sz
  have pr := q1 (hp.objs.size + 1) fresh
  have keep : ∀ b o, hp.get? b = some o → ((hp.push (kdv_tup us)).push (HandSPX.excO C hp.objs.size)).get? b = some o := fun b o e => Heap.get?_push_of_some _ (Heap.get?_push_of_some _ e)
  have there : ((hp.push (kdv_tup us)).push (HandSPX.excO C hp.objs.size)).get? (hp.objs.size + 1) = some (HandSPX.excO C hp.objs.size) := by heap_get
  have I2 : Inv X pins σ (upd H (hp.objs.size + 1) (exo (hp.objs.size + 1) C none)) ⟨(hp.push (kdv_tup us)).push (HandSPX.excO C hp.objs.size), g, dr, tk, os⟩ :=
    I1.laid (t' := tk) (a := hp.objs.size + 1) (o := exo (hp.objs.size + 1) C none) (h' := (hp.push (kdv_tup us)).push (HandSPX.excO C hp.objs.size)) keep sz (exo_ok there)
  have r2 : Vals (V.ref (hp.objs.size + 1) :: vs) (Value.ref (hp.objs.size + 1) :: us) := .cons rfl r1
  have hl : (Value.ref (hp.objs.size + 1) :: us ++ []).length = ps.length := by
    rw [List.append_nil, ← r2.length]
    exact F1.len _ _ _ _ pr
  have hus : us.length ≤ sizeLine := by
    rw [← Paired.length r1, sizeLine_eq]
    omega
  have hb' := hb ⟨(hp.push (kdv_tup us)).push (HandSPX.excO C hp.objs.size), g, dr, tk, os⟩ (Value.ref (hp.objs.size + 1) :: us) I2.kIn hl
  rw [List.append_nil] at hb'
  refine wpAny_call (HandSPX.call_own F.excBase_ValueError (fun Y => HandSPX.refsVE_contains Y bm hbm) (I1.kIn _ _ hC) (looks_findIn I1.kIn iC) (fun self => bind_fn I1.kIn self tI) hus
    (codeAny_mono (F1.run _ X.stack _ _ ⟨Value.ref (hp.objs.size + 1) :: us, []⟩ (Value.ref (hp.objs.size + 1) :: us) _ _ (fun _ _ _ => False) (hr.make C us []) (I2.env0.make C us []) hb' r2 pr) fun r s' hq' => ?_))
  cases r with
  | error er => exact hx pins σ _ _ er s' I2 hq'
  | ok fl =>
    cases fl with
    | ret u =>
      obtain ⟨v, H2, I3, rv, ev, q3⟩ := I2.after hq'
      subst ev
      -- nothing was tracked at the new place
      exact ⟨rv, ⟨V.ref (hp.objs.size + 1), H2, I3, rfl, q3⟩⟩
    | next => exact False.elim hq'
    | brk => exact False.elim hq'
    | cont => exact False.elim hq'
theorem pe_mkE {CX : CXT} {x : Str} {fI : Addr} {k : Nat} {fd : FuncData} {ps : List Str} {sp : Sp} {e : Expr} {es : List Expr} {ta : TA} {p pos : Pos} (T : OexC X.K C) (iC : findIn X.K (.ref C) "__init__" = some (some (.ref fI))) (tI : typeIn X.K (.ref fI) = some (.type "function"))
    (F1 : FnOk X.prog X.w X.K X.mg X.base CX k fI fd ps sp) (hr : Room (k + 1) X.A) (hb : Binds X.K fd ps []) (hx : Passes CX X (fun _ _ _ => False)) (hg : Gl X x) (hm : X.mg x = some (.ref C)) (ha : PA X (e :: es) ta)
    (hdb : (x == ("__debug__" : Str)) = false := by decide) (he : starEach (e :: es) X.env = (false, eval e X.env) :: starEach es X.env := by rfl) (hpl : (backTo pos (starEach es X.env)).any (·.1) = false := by rfl) :
    PE X (.Call (.Name x p) (e :: es) [] pos) (tMkE C sp ta) := by
  refine ⟨fun pins s σ H Q I h => ?_⟩
  refine wpAny_Call_Name_kw (ld_glob I hg hm ?_ hdb)
  refine callWith_K (h₀ := X.base) I.ok.mod.kin T.kC (thn (ha.run pos pins s σ H _ I h) fun us s1 ⟨vs, H1, I1, r1, hz, q1⟩ => ⟨I1.kIn, ?_⟩) he hpl
  exact run_mkE T iC tI F1 hr hb hx I1 r1 hz q1
/-- a value's type, an error's too -/
inductive TyE (K : Frag) (H : Hp) : V → Value → Prop where
  | x {x : V} {t : Value} (h : TyX K H x t) : TyE K H x t
  | err {a C d : Addr} {fs : List (Str × V)} (T : ErrC K C) (ha : H a = some (exo a C (some d))) (hd : H d = some (exd d fs)) : TyE K H (.ref a) (.ref C)
theorem kit_ofE {x : V} {u t : Value} (I : Inv X pins σ H s) (rx : RelV x u) (ty : TyE X.K H x t) : ∃ P : Heap → Prop, KitX X.K u t P ∧ P s.heap ∧ u ≠ .builtin "__main__.__loader__#opaque" := by
  cases ty with
  | x h => exact kit_of I rx h
  | err T ha hd =>
    cases (show u = Value.ref _ from rx)
    obtain ⟨o, od, mA, J, _⟩ := err_at I ha hd
    exact ⟨_, err_kit T, ⟨o, od, J⟩, fun z => nomatch z⟩
def rIe (K : Frag) : List V → Hp → VK → Prop := fun xs H Q => ∃ (x c : V) (t u : Value) (b : Bool), xs = [x, c] ∧ ClsV c u ∧ TyE K H x t ∧ kitOne K t u = some b ∧ Q (.bl b) H
def rIeT (K : Frag) : List V → Hp → VK → Prop := fun xs H Q => ∃ (x : V) (tp : Addr) (cs : List V) (t : Value) (us : List Value) (b : Bool), xs = [x, .ref tp] ∧ H tp = some (.tup cs) ∧ Paired ClsV cs us ∧ TyE K H x t ∧ kitAny K t us = some b ∧ Q (.bl b) H
theorem call_ie : CallR X (.builtin "isinstance") (rIe X.K) := by
  intro pins s σ H xs us Q I r h
  obtain ⟨x, c, t, u, b, rfl, k, ty, e, q⟩ := h
  obtain ⟨u1, u2, rfl, r1, r2⟩ := vals2 r
  obtain rfl := k.eq r2
  obtain ⟨P, Z, p, hx⟩ := kit_ofE I r1 ty
  exact kia_one Z I.kIn p e hx fun tk => ⟨.bl b, H, I.tok tk, rfl, q⟩
theorem call_ieT : CallR X (.builtin "isinstance") (rIeT X.K) := by
  intro pins s σ H xs us Q I r h
  obtain ⟨x, tp, cs, t, ws, b, rfl, hT, k, ty, e, q⟩ := h
  obtain ⟨u1, u2, rfl, r1, r2⟩ := vals2 r
  cases (show u2 = Value.ref tp from r2)
  obtain ⟨P, Z, p, hx⟩ := kit_ofE I r1 ty
  obtain ⟨_, its, rv, o, h1, h2, n, h3⟩ := (show ObjOk X.prog X.w H s.heap tp (.tup cs) from I.hok tp _ hT)
  obtain rfl := ClsV.all k rv
  obtain ⟨oc, od, dt, sl⟩ := o
  dsimp only at h2 h3
  subst h2 h3
  exact kia_tup Z I.kIn p h1 e hx fun tk => ⟨.bl b, H, I.tok tk, rfl, q⟩
end
end L2.Jk

set_option Elab.async false
set_option linter.all false
set_option maxRecDepth 100000
set_option maxHeartbeats 4000000
/-! Defs and error classes as the head tells them; calls of them. -/
namespace L2.Jk
open PySem PySem.W PySem.Spec PySem.Calls PyProof.Rows

/-! ### what the head says of an error class, by one Bool -/
def oexB (K : Frag) (C : Addr) : Bool := (match K.lookup C with
  | some ⟨.type "type", _, .cls cd, sl⟩ => (match cd.mro, sl.toList with
    | .ref D :: bm, [_, _, _, _, some (.builtin n), _] => decide (D = C) && (decide (n = "ValueError.__new__") && (HandSPX.refsVE bm && (cd.hasDict && !cd.hasDel)))
    | _, _ => false)
  | _ => false) && (He.eqO (findIn K (.ref C) "__setattr__") (some (some (.builtin "object.__setattr__"))) && (decide (subIn K (.ref C) (.type "BaseException") = some true) &&
    (decide (typeIn K (.ref C) = some (.type "type")) && keepIn K (.ref C))))
theorem oexB_ok {K : Frag} {C : Addr} (h : oexB K C = true) : OexC K C := by
  obtain ⟨h1, h⟩ := Bool.and_eq_true_iff.mp h
  obtain ⟨h2, h⟩ := Bool.and_eq_true_iff.mp h
  obtain ⟨h3, h⟩ := Bool.and_eq_true_iff.mp h
  obtain ⟨h4, h5⟩ := Bool.and_eq_true_iff.mp h
  refine ⟨?_, He.eqO_ok h2, of_decide_eq_true h3, of_decide_eq_true h4, h5⟩
  split at h1
  · rename_i dd cd sl ho
    split at h1
    · rename_i D bm k0 k1 k2 k3 n k5 hm hs
      obtain ⟨a1, h1⟩ := Bool.and_eq_true_iff.mp h1
      obtain ⟨a2, h1⟩ := Bool.and_eq_true_iff.mp h1
      obtain ⟨a3, h1⟩ := Bool.and_eq_true_iff.mp h1
      obtain ⟨a4, a5⟩ := Bool.and_eq_true_iff.mp h1
      obtain rfl := of_decide_eq_true a1
      obtain rfl := of_decide_eq_true a2
      obtain ⟨nm, bs, mro, ns, qn, hd, sn, sub, ab, col, del⟩ := cd
      dsimp only at hm a4 a5
      subst hm
      subst a4
      obtain rfl : del = false := by cases del <;> first | rfl | cases a5
      have e : sl = #[k0, k1, k2, k3, some (.builtin "ValueError.__new__"), k5] := by
        obtain ⟨l⟩ := sl
        dsimp only at hs
        rw [hs]
      subst e
      exact ⟨nm, qn, ns, bs, bm, sn, sub, ab, col, dd, k0, k1, k2, k3, k5, ho, a3⟩
    · cases h1
  · cases h1
def errB (K : Frag) (C : Addr) (fs ms : List Str) : Bool := oexB K C && (xfB K C && (He.eqO (findIn K (.ref C) "__class__") (some (some (.builtin "object.__class__"))) &&
  (He.eqO (specialIn K (.builtin "object.__class__") "__get__") (some (some (.builtin "getset_descriptor.__get__"))) && (decide (takesIn K (.builtin "object.__class__") = some true) && (decide (mroIn K C (.type "object") = some true) &&
  ((fs.all fun f => He.eqO (findIn K (.ref C) f) (some none)) && ((ms.all fun m => He.eqO (findIn K (.ref C) m) (some (some (.ref (He.ma K C m)))) && isFn K (.ref (He.ma K C m))))))))))
structure ErrX (K : Frag) (C : Addr) (fs ms : List Str) : Prop where
  ec : ErrC K C
  no : ∀ f ∈ fs, findIn K (.ref C) f = some none
  me : ∀ m ∈ ms, findIn K (.ref C) m = some (some (.ref (He.ma K C m))) ∧ isFn K (.ref (He.ma K C m)) = true
theorem errB_ok {K : Frag} {C : Addr} {fs ms : List Str} (h : errB K C fs ms = true) : ErrX K C fs ms := by
  obtain ⟨h1, h⟩ := Bool.and_eq_true_iff.mp h
  obtain ⟨h2, h⟩ := Bool.and_eq_true_iff.mp h
  obtain ⟨h3, h⟩ := Bool.and_eq_true_iff.mp h
  obtain ⟨h4, h⟩ := Bool.and_eq_true_iff.mp h
  obtain ⟨h5, h⟩ := Bool.and_eq_true_iff.mp h
  obtain ⟨h6, h⟩ := Bool.and_eq_true_iff.mp h
  obtain ⟨h7, h8⟩ := Bool.and_eq_true_iff.mp h
  refine ⟨⟨oexB_ok h1, xfB_ok h2, He.eqO_ok h3, He.eqO_ok h4, of_decide_eq_true h5, of_decide_eq_true h6⟩, fun f hf => He.eqO_ok (List.all_eq_true.mp h7 f hf), fun m hm => ?_⟩
  obtain ⟨a, b⟩ := Bool.and_eq_true_iff.mp (List.all_eq_true.mp h8 m hm)
  exact ⟨He.eqO_ok a, b⟩

/-! ### a def of the module, called by its name -/
structure FnAt (P : Program) (w : World) (K : Frag) (mg : Str → Option Value) (base : Heap) (CX : CXT) (k : Nat) (x : Str) (ps : List Str) (sp : Sp) : Prop where
  ex : ∃ (f : Addr) (fd : FuncData), mg x = some (.ref f) ∧ keepIn K (.ref f) = true ∧ FnOk P w K mg base CX k f fd ps sp ∧ Binds K fd ps []
section
variable {X : Cx} {CX : CXT} {k : Nat} {x : Str} {ps : List Str} {sp : Sp} {E : XK} {e : Expr} {es : List Expr} {t : TA} {p pos : Pos}
theorem pe_fn (G : FnAt X.prog X.w X.K X.mg X.base CX k x ps sp) (hr : Room k X.A) (hx : Passes CX X E) (hg : Gl X x) (ha : PA X (e :: es) t)
    (hdb : (x == ("__debug__" : Str)) = false := by decide) (he : starEach (e :: es) X.env = (false, eval e X.env) :: starEach es X.env := by rfl) (hpl : (backTo pos (starEach es X.env)).any (·.1) = false := by rfl) :
    PE X (.Call (.Name x p) (e :: es) [] pos) (tCall sp [] E t) := by
  obtain ⟨f, fd, hm, kp, F, hb⟩ := G.ex
  exact pe_call F hr hg hm kp hb .nil hx ha hdb he hpl
end
/-! ### an error class, its instances as values -/
/-- at a: an error of the class at C, its dict at d holds fs -/
def mkE (H : Hp) (a C d : Addr) (fs : List (Str × V)) : Hp := upd (upd H d (exd d fs)) a (exo a C (some d))
/-- __init__(self, f): self.f = f -/
def spI1 (C : Addr) (f : Str) : Sp := fun vs H Q _ => ∃ (a : Addr) (v : V), vs = [.ref a, v] ∧ H a = some (exo a C none) ∧ ∀ d, H d = none → d ≠ a → Q .non (mkE H a C d [(f, v)])
def spI2 (C : Addr) (f g : Str) : Sp := fun vs H Q _ => ∃ (a : Addr) (v u : V), vs = [.ref a, v, u] ∧ H a = some (exo a C none) ∧ ∀ d, H d = none → d ≠ a → Q .non (mkE H a C d [(g, u), (f, v)])
def spS (z : Str) : Sp := fun vs H Q _ => ∃ v, vs = [v] ∧ Q (.str z) H
theorem mkE_new {H : Hp} {a C d : Addr} {fs : List (Str × V)} (ne : d ≠ a) : mkE (upd H a (exo a C none)) a C d fs = mkE H a C d fs := by
  funext b
  unfold mkE
  by_cases h : b = a
  · rw [h, upd_same, upd_same]
  · rw [upd_ne h, upd_ne h]
    by_cases h2 : b = d
    · rw [h2, upd_same, upd_same]
    · rw [upd_ne h2, upd_ne h2, upd_ne h]
/-- an error as a value -/
def ErrV (H : Hp) (v : V) (C : Addr) (fs : List (Str × V)) : Prop := ∃ a d, v = .ref a ∧ H a = some (exo a C (some d)) ∧ H d = some (exd d fs)
theorem ErrV.same {H H' : Hp} {v : V} {C : Addr} {fs : List (Str × V)} (h : ErrV H v C fs) (s : Same H H') : ErrV H' v C fs := by
  obtain ⟨a, d, e, h1, h2⟩ := h
  exact ⟨a, d, e, s _ _ h1, s _ _ h2⟩
theorem mkE_same {H : Hp} {a C d : Addr} {fs : List (Str × V)} (ha : H a = none) (hd : H d = none) : Same H (mkE H a C d fs) := fun b o e => by
  unfold mkE
  rw [upd_ne (ne_of_none e ha), upd_ne (ne_of_none e hd)]
  exact e
theorem mkE_err {H : Hp} {a C d : Addr} {fs : List (Str × V)} (ne : d ≠ a) : ErrV (mkE H a C d fs) (.ref a) C fs :=
  ⟨a, d, rfl, upd_same, by unfold mkE; rw [upd_ne ne, upd_same]⟩
def IniOk (P : Program) (w : World) (K : Frag) (mg : Str → Option Value) (base : Heap) (C : Addr) (fs : List Str) (fd : FuncData) : Prop := match fs with
  | [f] => FnOk P w K mg base CX0 1 (He.ma K C "__init__") fd ["self", f] (spI1 C f)
  | [f, g] => FnOk P w K mg base CX0 1 (He.ma K C "__init__") fd ["self", f, g] (spI2 C f g)
  | _ => False
/-- the class x, its __init__ (f or f, g), its told -/
structure ErrAt (P : Program) (w : World) (K : Frag) (mg : Str → Option Value) (base : Heap) (x : Str) (C : Addr) (fs : List Str) (z : Str) : Prop where
  mgC : mg x = some (.ref C)
  ex : ErrX K C fs ["told"]
  ini : findIn K (.ref C) "__init__" = some (some (.ref (He.ma K C "__init__"))) ∧ typeIn K (.ref (He.ma K C "__init__")) = some (.type "function")
  iok : ∃ fd, Binds K fd ("self" :: fs) [] ∧ IniOk P w K mg base C fs fd
  tok : ∃ fd, Binds K fd ["self"] [] ∧ keepIn K (.ref (He.ma K C "told")) = true ∧ FnOk P w K mg base CX0 1 (He.ma K C "told") fd ["self"] (spS z)
/-- the fields of an error that is made, as its dict holds them -/
def fldE : List Str → List V → List (Str × V)
  | [f], [v] => [(f, v)]
  | [f, g], [v, u] => [(g, u), (f, v)]
  | _, _ => []
def tErr (C : Addr) (fs : List Str) (ta : TA) : TE := fun σ H Q => ta σ H fun vs H1 => vs.length = fs.length ∧ ∀ v H2, Same H1 H2 → ErrV H2 v C (fldE fs vs) → Q v H2
section
variable {X : Cx} {x z : Str} {C : Addr} {fs : List Str} {e : Expr} {es : List Expr} {ta : TA} {p pos : Pos}
theorem pe_err (T : ErrAt X.prog X.w X.K X.mg X.base x C fs z) (hr : Room 2 X.A) (hx : Passes CX0 X (fun _ _ _ => False)) (hg : Gl X x) (ha : PA X (e :: es) ta)
    (hdb : (x == ("__debug__" : Str)) = false := by decide) (he : starEach (e :: es) X.env = (false, eval e X.env) :: starEach es X.env := by rfl) (hpl : (backTo pos (starEach es X.env)).any (·.1) = false := by rfl) :
    PE X (.Call (.Name x p) (e :: es) [] pos) (tErr C fs ta) := by
  obtain ⟨fd, hb, iok⟩ := T.iok
  refine ⟨fun pins s σ H Q I h => ?_⟩
  refine wpAny_Call_Name_kw (ld_glob I hg T.mgC ?_ hdb)
  refine callWith_K (h₀ := X.base) I.ok.mod.kin T.ex.ec.ox.kC (thn (ha.run pos pins s σ H _ I h) fun us s1 ⟨vs, H1, I1, r1, hz, q1⟩ => ⟨I1.kIn, ?_⟩) he hpl
  have ox := T.ex.ec.ox
  have i1 := T.ini.1
  have i2 := T.ini.2
  clear T
  match fs, vs, iok, hz, hb, q1 with
  | [f], [v], iok, _, hb, q1 =>
    exact run_mkE ox i1 i2 iok hr hb hx I1 r1 (by show 1 ≤ 1000; decide) fun a ha1 => ⟨a, v, rfl, upd_same, fun d hd ne => ⟨rfl, by
      rw [upd_ne ne] at hd
      rw [mkE_new ne]
      exact q1 _ _ (mkE_same ha1 hd) (mkE_err ne)⟩⟩
  | [f, g], [v, u], iok, _, hb, q1 =>
    exact run_mkE ox i1 i2 iok hr hb hx I1 r1 (by show 2 ≤ 1000; decide) fun a ha1 => ⟨a, v, u, rfl, upd_same, fun d hd ne => ⟨rfl, by
      rw [upd_ne ne] at hd
      rw [mkE_new ne]
      exact q1 _ _ (mkE_same ha1 hd) (mkE_err ne)⟩⟩
end

/-! ### the bodies of such a class's methods -/
section
variable {P : Program} {w : World} {K : Frag} {mg : Str → Option Value} {base : Heap} {x qual f g z : Str} {pa : Arguments} {sc : Scope} {dvs : List V} {kws : List (Str × V)} {fA : Addr} {fd : FuncData} {C : Addr} {p1 p2 p3 p4 q1 q2 q3 q4 : Pos} {j : Nat}
theorem ok_told {kk} (F : FunD K x qual pa [.Return (some (.Constant (.str z) kk p1)) p2] sc dvs kws fA fd) (S : FnScope ["self"] ["self"] sc) : FnOk P w K mg base CX0 1 fA fd ["self"] (spS z) := by
  refine F.ok S (fun vs H Q E h => ?_) (fun cdv A outer s H vs Q E hr h => ⟨_, PSs.nox (pss_one (ps_ret pe_str)), ?_⟩)
  · obtain ⟨v, rfl, _⟩ := h
    rfl
  · obtain ⟨v, rfl, q⟩ := h
    exact q
theorem ok_init1 (F : FunD K x qual pa [.Assign [.Attribute (.Name "self" p1) f p2] (.Name f p3) p4] sc dvs kws fA fd) (S : FnScope ["self", f] ["self", f] sc) (T : ErrX K C [f] ["told"])
    (ls : sc.names.lookup ("self" : Str) = some NameKind.local) (lf : sc.names.lookup f = some NameKind.local) (d1 : (f == ("__debug__" : Str)) = false) (d2 : (f == ("__classdict__" : Str)) = false) : FnOk P w K mg base CX0 1 fA fd ["self", f] (spI1 C f) := by
  refine F.ok S (fun vs H Q E h => ?_) (fun cdv A outer s H vs Q E hr h => ⟨_, PSs.nox (pss_one (ps_ost (pe_var (i := 0) rfl (.inl ls)) (pe_var (i := 1) rfl (.inl lf) d1 d2))), ?_⟩)
  · obtain ⟨a, v, rfl, _⟩ := h
    rfl
  · obtain ⟨a, v, rfl, ha, q⟩ := h
    exact ⟨_, rfl, _, rfl, a, C, rfl, T.ec.ox, T.no f (List.mem_singleton_self _), .inl ⟨ha, q⟩⟩
theorem ok_init2 (F : FunD K x qual pa [.Assign [.Attribute (.Name "self" p1) f p2] (.Name f p3) p4, .Assign [.Attribute (.Name "self" q1) g q2] (.Name g q3) q4] sc dvs kws fA fd) (S : FnScope ["self", f, g] ["self", f, g] sc) (T : ErrX K C [f, g] ["told"])
    (ls : sc.names.lookup ("self" : Str) = some NameKind.local) (lf : sc.names.lookup f = some NameKind.local) (d1 : (f == ("__debug__" : Str)) = false) (d2 : (f == ("__classdict__" : Str)) = false)
    (lg : sc.names.lookup g = some NameKind.local) (d3 : (g == ("__debug__" : Str)) = false) (d4 : (g == ("__classdict__" : Str)) = false) : FnOk P w K mg base CX0 1 fA fd ["self", f, g] (spI2 C f g) := by
  refine F.ok S (fun vs H Q E h => ?_) (fun cdv A outer s H vs Q E hr h => ⟨_, PSs.nox (pss_cons (ps_ost (pe_var (i := 0) rfl (.inl ls)) (pe_var (i := 1) rfl (.inl lf) d1 d2))
    (pss_one (ps_ost (pe_var (i := 0) rfl (.inl ls)) (pe_var (i := 2) rfl (.inl lg) d3 d4)))), ?_⟩)
  · obtain ⟨a, v, u, rfl, _⟩ := h
    rfl
  · obtain ⟨a, v, u, rfl, ha, q⟩ := h
    refine ⟨_, rfl, _, rfl, a, C, rfl, T.ec.ox, T.no f (List.mem_cons_self ..), .inl ⟨ha, fun d hd ne => ?_⟩⟩
    refine ⟨_, rfl, _, rfl, a, C, rfl, T.ec.ox, T.no g (List.mem_cons_of_mem _ (List.mem_singleton_self _)), .inr ⟨d, _, upd_same, by rw [upd_ne ne, upd_same], by show 1 ≤ 900; decide, ?_⟩⟩
    have z := q d hd ne
    have e : mkE H a C d [(g, u), (f, v)] = upd (upd (upd H d (exd d [(f, v)])) a (exo a C (some d))) d (exd d [(g, u), (f, v)]) := by
      funext b
      unfold mkE
      by_cases h1 : b = a
      · rw [h1, upd_same, upd_ne (Ne.symm ne), upd_same]
      · by_cases h2 : b = d
        · rw [h2, upd_ne ne, upd_same, upd_same]
        · rw [upd_ne h1, upd_ne h2, upd_ne h2, upd_ne h1, upd_ne h2]
    rw [e] at z
    exact z
end
end L2.Jk

set_option Elab.async false
set_option linter.all false
set_option maxRecDepth 100000
set_option maxHeartbeats 4000000
/-! A few operations over lists that may be read only; displays whose heap behind is not told but for what is new. -/
namespace L2.Jk
open PySem PySem.W PySem.Spec PySem.Calls PyProof.Rows

section
variable {X : Cx}
/-- xs + ys, whatever lists they are -/
def rCatS (K : Frag) : R2 := fun x y H Q => ∃ l b xs zs, x = .ref l ∧ y = .ref b ∧ SqL K H l xs ∧ SqL K H b zs ∧ xs.length + zs.length ≤ sizeLine ∧ ∀ p H', H p = none → Same H H' → H' p = some (.lst (xs ++ zs)) → Q (.ref p) H'
theorem op_catS : OpR X (binaryOp .Add) (rCatS X.K) := by
  intro pins s σ H x y v u Q I rx ry h
  obtain ⟨l, b, xs, zs, rfl, rfl, hl, hb, hz, q⟩ := h
  cases rx
  cases ry
  obtain ⟨i1, r1, ⟨o1, n1, g1, c1, d1, e1⟩, z1⟩ := I.list hl
  obtain ⟨i2, r2, ⟨o2, n2, g2, c2, d2, e2⟩, z2⟩ := I.list hb
  obtain ⟨k1, f1, t1, s1⟩ := o1
  obtain ⟨k2, f2, t2, s2⟩ := o2
  dsimp only at c1 d1 e1 c2 d2 e2
  subst c1 d1 e1 c2 d2 e2
  have hs : i1.length + i2.length ≤ sizeLine := by rw [← r1.length, ← r2.length]; exact hz
  refine concat_meets ⟨_, g1, rfl⟩ ⟨_, g2, rfl⟩ noFill_list_add seq_list_add PySem.F.slot_list_add PySem.F.entry_list_add (PySem.F.args_list_add_2 _ _)
    (list_addW l b i1.toArray i2.toArray n1 n2 none none s1 s2 (by simpa using hs)) ⟨g1, g2, ?_⟩
  rw [show i1.toArray ++ i2.toArray = (i1 ++ i2).toArray by simp]
  refine ⟨.ref _, _, I.lnew (t' := s.toks) (r1.append r2) (by rw [List.length_append]; exact hz), rfl, q _ _ I.fresh (fun c o z => ?_) upd_same⟩
  rw [upd_ne (ne_of_none z I.fresh)]
  exact z
/-- a display: where it stands is new, all else as before -/
def tLstS (t : TA) : TE := fun σ H Q => t σ H fun xs H1 => xs.length ≤ 1000 ∧ ∀ p H', H1 p = none → Same H1 H' → H' p = some (.lst xs) → Q (.ref p) H'
def tTupS (t : TA) : TE := fun σ H Q => t σ H fun xs H1 => xs.length ≤ 1000 ∧ ∀ p H', H1 p = none → Same H1 H' → H' p = some (.tup xs) → Q (.ref p) H'
theorem same_upd {H : Hp} {p : Addr} {o : HO} (h : H p = none) : Same H (upd H p o) := fun c u z => by
  rw [upd_ne (ne_of_none z h)]
  exact z
theorem pe_lstS {es : List Expr} {t : TA} {pos : Pos} (ha : PA X es t) : PE X (.List es pos) (tLstS t) := by
  constructor
  intro pins s σ H Q I h
  refine wpAny_List_spliced (thn (ha.run pos pins s σ H _ I h) fun us s1 ⟨xs, H1, I1, r, z, q⟩ => ?_)
  have z' := Nat.le_of_lt (small1000 z)
  have n : H1 s1.heap.objs.size = none := I1.fresh
  exact ⟨by rw [← r.length]; exact z', .ref s1.heap.objs.size, _, I1.lnew (t' := s1.toks) r z', rfl, q _ _ n (same_upd n) upd_same⟩
theorem pe_tupS {es : List Expr} {t : TA} {pos : Pos} {k} (ha : PA X es t) : PE X (.Tuple es k pos) (tTupS t) := by
  constructor
  intro pins s σ H Q I h
  refine wpAny_Tuple_spliced (thn (ha.run pos pins s σ H _ I h) fun us s1 ⟨xs, H1, I1, r, z, q⟩ => ?_)
  have z' := Nat.le_of_lt (small1000 z)
  have n : H1 s1.heap.objs.size = none := I1.fresh
  refine ⟨by rw [← r.length]; exact z', .ref s1.heap.objs.size, _, I1.laid (t' := s1.toks) (o := .tup xs) (fun b u e => Heap.get?_push_of_some _ e) (Nat.le_refl _) ?_, rfl, q _ _ n (same_upd n) upd_same⟩
  exact ⟨z', us, r, IsTup.new _ _⟩
/-- xs[lo:hi] of a list -/
def rSlS (K : Frag) : V → Option Int → Option Int → Hp → VK → Prop := fun x lo hi H Q => ∃ a xs, x = .ref a ∧ SqL K H a xs ∧ ∀ p H', H p = none → Same H H' → H' p = some (.lst (cutV xs lo hi)) → Q (.ref p) H'
theorem sl_listS : SlR X (rSlS X.K) := by
  intro pins s σ H x v vl vu lo hi sl Q I rx hs pl pu h
  obtain ⟨a, xs, e, hx, q⟩ := h
  exact sl_list pins s σ H x v vl vu lo hi sl Q I rx hs pl pu ⟨a, xs, e, hx, fun p hp => q p _ hp (same_upd hp) upd_same⟩
end
/-- what may change at one place alone -/
def But (a : Addr) (H H' : Hp) : Prop := ∀ c o, c ≠ a → H c = some o → H' c = some o
theorem But.of_same {a : Addr} {H H' : Hp} (s : Same H H') : But a H H' := fun c o _ h => s c o h
theorem But.refl (a : Addr) (H : Hp) : But a H H := fun _ _ _ h => h
theorem But.trans {a : Addr} {H H1 H2 : Hp} (x : But a H H1) (y : But a H1 H2) : But a H H2 := fun c o n h => y c o n (x c o n h)
theorem but_upd (H : Hp) (a : Addr) (o : HO) : But a H (upd H a o) := fun c u n h => by
  rw [upd_ne n]
  exact h
/-! ### data stays -/
theorem SqT.same {K : Frag} {H H' : Hp} {a : Addr} {xs : List V} (e : Same H H') (h : SqT K H a xs) : SqT K H' a xs := by
  rcases h with (h | ⟨o, h⟩) | h
  · exact .inl (.inl (e _ _ h))
  · exact .inl (.inr ⟨o, e _ _ h⟩)
  · exact .inr h
/-- a class or a def of the module, a built-in type, as a value -/
theorem pe_gref {X : Cx} {x : Str} {a : Addr} {pos : Pos} (hg : Gl X x) (hm : X.mg x = some (.ref a)) (hd : (x == ("__debug__" : Str)) = false := by decide) : PE X (.Name x pos) (tC (.ref a)) := pe_glob (v := .ref a) hg hm rfl hd
theorem pe_bty {X : Cx} {x : Str} {n : String} {pos : Pos} (hg : Gl X x) (hm : X.mg x = none) (hv : bootBuiltins x = some (.type n)) (hn : x ≠ "__name__" := by decide) (hd : (x == ("__debug__" : Str)) = false := by decide) : PE X (.Name x pos) (tC (.ty n)) :=
  pe_bltn (v := .ty n) hg hm hv rfl hn hd
/-! ### a new list that a comprehension fills: fm i is what it holds behind i turns -/
def LcP (H1 : Hp) (D : Addr) (fm : Nat → List V) (i : Nat) (H : Hp) : Prop := Same H1 H ∧ H1 D = none ∧ H D = some (.lst (fm i)) ∧ (fm i).length ≤ i
theorem LcP.start {H1 : Hp} {D : Addr} {fm : Nat → List V} (h : H1 D = none) (e : fm 0 = []) : LcP H1 D fm 0 (upd H1 D (.lst [])) :=
  ⟨same_upd h, h, by rw [upd_same, e], by rw [e]; exact Nat.le_refl _⟩
theorem LcP.put {H1 H H4 : Hp} {D : Addr} {fm : Nat → List V} {i : Nat} {y : V} (p : LcP H1 D fm i H) (s : Same H H4) (e : fm (i + 1) = fm i ++ [y]) (hi : i < 10000) :
    ∃ acc, H4 D = some (.lst acc) ∧ acc.length < sizeLine ∧ LcP H1 D fm (i + 1) (upd H4 D (.lst (acc ++ [y]))) := by
  obtain ⟨s0, n, d, l⟩ := p
  refine ⟨fm i, s _ _ d, ?_, fun c o z => ?_, n, by rw [upd_same, e], by rw [e, List.length_append, List.length_singleton]; omega⟩
  · rw [sizeLine_eq]
    omega
  · rw [upd_ne (ne_of_none z n)]
    exact s _ _ (s0 _ _ z)
theorem LcP.pass {H1 H H4 : Hp} {D : Addr} {fm : Nat → List V} {i : Nat} (p : LcP H1 D fm i H) (s : Same H H4) (e : fm (i + 1) = fm i) : LcP H1 D fm (i + 1) H4 := by
  obtain ⟨s0, n, d, l⟩ := p
  exact ⟨s0.trans s, n, by rw [e]; exact s _ _ d, by rw [e]; omega⟩
/-! ### data that stays where one place alone changes -/
def Per (a : Addr) (K : Frag) (H : Hp) (x : V) (d : PyData) : Prop := ∀ H', But a H H' → Dp K H' x d
theorem Per.but {a : Addr} {K : Frag} {H H1 : Hp} {x : V} {d : PyData} (p : Per a K H x d) (b : But a H H1) : Per a K H1 x d := fun H' b' => p H' (b.trans b')
theorem Per.same {a : Addr} {K : Frag} {H H1 : Hp} {x : V} {d : PyData} (p : Per a K H x d) (s : Same H H1) : Per a K H1 x d := p.but (But.of_same s)
theorem Per.dp {a : Addr} {K : Frag} {H : Hp} {x : V} {d : PyData} (p : Per a K H x d) : Dp K H x d := p H (But.refl a H)
theorem Per.lst {a p : Addr} {K : Frag} {H : Hp} {xs : List V} {ds : List PyData} (ne : p ≠ a) (h : H p = some (.lst xs)) (q : ∀ H', But a H H' → DpAll K H' xs ds) : Per a K H (.ref p) (.list ds) :=
  fun H' b => .lst (SqL.of (b _ _ ne h)) (q H' b)
theorem Per.tup {a p : Addr} {K : Frag} {H : Hp} {xs : List V} {ds : List PyData} (ne : p ≠ a) (h : H p = some (.tup xs)) (q : ∀ H', But a H H' → DpAll K H' xs ds) : Per a K H (.ref p) (.tuple ds) :=
  fun H' b => .tup (SqT.of (b _ _ ne h)) (q H' b)
theorem dp_one {K : Frag} {H : Hp} {p : Addr} {x : V} {d : PyData} (h : H p = some (.lst [x])) (q : Dp K H x d) : Dp K H (.ref p) (.list [d]) := .lst (SqL.of h) (.cons q .nil)
theorem dp_two {K : Frag} {H : Hp} {p : Addr} {x y : V} {d e : PyData} (h : H p = some (.lst [x, y])) (q : Dp K H x d) (r : Dp K H y e) : Dp K H (.ref p) (.list [d, e]) := .lst (SqL.of h) (.cons q (.cons r .nil))
theorem eqv_same {d : PyData} (h : SeqAt.shaped d = true) : PyData.eqv d d = true := SeqAt.eqv_refl d (SeqAt.canLay_of_shaped h)
theorem ne_new {H : Hp} {a b : Addr} {o : HO} (h : H a = some o) (n : H b = none) : b ≠ a := Ne.symm (ne_of_none h n)
end L2.Jk

set_option Elab.async false
set_option linter.all false
set_option maxRecDepth 100000
set_option maxHeartbeats 4000000
/-! == and != of instances by the text's own __eq__, whatever it answers. -/
namespace L2.Jk
open PySem PySem.W PySem.Spec PySem.Calls PyProof.Rows

/-! ### what the head says of a class with an own __eq__ and no __ne__, by one Bool -/
def eqcB (K : Frag) (C : Addr) : Bool := He.eqO (findIn K (.ref C) "__eq__") (some (some (.ref (He.ma K C "__eq__")))) && (isFn K (.ref (He.ma K C "__eq__")) && (match K.lookup C with
  | some ⟨.type "type", _, .cls cd, sl⟩ => (match cd.mro, sl.toList with
    | .ref D :: bm, [_, _, _, _, some (.builtin _), _] => decide (D = C) && (decide (bm = [.type "object"]) && (!cd.hasDel && (nsOkIn K cd.ns && (decide (nsIn K cd.ns "__eq__" = some (some (.ref (He.ma K C "__eq__")))) && decide (nsIn K cd.ns "__ne__" = some none)))))
    | _, _ => false)
  | _ => false))
structure EqcC (K : Frag) (C : Addr) : Prop where
  find : findIn K (.ref C) "__eq__" = some (some (.ref (He.ma K C "__eq__")))
  fn : isFn K (.ref (He.ma K C "__eq__")) = true
  cls : ∃ nm q N bs hdct sn sub ab col dd k0 k1 k2 k3 k5 nid, K.lookup C = some (excClassObj nm q C N bs [.type "object"] hdct sn sub ab col dd k0 k1 k2 k3 k5 nid) ∧ nsOkIn K N = true ∧
    nsIn K N "__eq__" = some (some (.ref (He.ma K C "__eq__"))) ∧ nsIn K N "__ne__" = some none
theorem eqcB_ok {K : Frag} {C : Addr} (h : eqcB K C = true) : EqcC K C := by
  obtain ⟨h1, h⟩ := Bool.and_eq_true_iff.mp h
  obtain ⟨h2, h3⟩ := Bool.and_eq_true_iff.mp h
  refine ⟨He.eqO_ok h1, h2, ?_⟩
  split at h3
  · rename_i dd cd sl ho
    split at h3
    · rename_i D bm k0 k1 k2 k3 n k5 hm hs
      obtain ⟨a1, h3⟩ := Bool.and_eq_true_iff.mp h3
      obtain ⟨a2, h3⟩ := Bool.and_eq_true_iff.mp h3
      obtain ⟨a3, h3⟩ := Bool.and_eq_true_iff.mp h3
      obtain ⟨a4, h3⟩ := Bool.and_eq_true_iff.mp h3
      obtain ⟨a5, a6⟩ := Bool.and_eq_true_iff.mp h3
      obtain rfl := of_decide_eq_true a1
      obtain rfl := of_decide_eq_true a2
      obtain ⟨nm, bs, mro, ns, qn, hd, sn, sub, ab, col, del⟩ := cd
      dsimp only at hm a3 a4 a5 a6
      subst hm
      obtain rfl : del = false := by cases del <;> first | rfl | cases a3
      have e : sl = #[k0, k1, k2, k3, some (.builtin n), k5] := by
        obtain ⟨l⟩ := sl
        dsimp only at hs
        rw [hs]
      subst e
      exact ⟨nm, qn, ns, bs, hd, sn, sub, ab, col, dd, k0, k1, k2, k3, k5, n, ho, a4, of_decide_eq_true a5, of_decide_eq_true a6⟩
    · cases h3
  · cases h3

section
variable {X : Cx} {CX : CXT} {E : XK}
/-- x == y, x an instance with an own __eq__: what that answers -/
def rEqO (X : Cx) (CX : CXT) (E : XK) : R2 := fun x y H Q => ∃ (a C dx : Addr) (fs : List (Str × V)) (t : Value), x = .ref a ∧ H a = some (.ins C dx fs) ∧ EqcC X.K C ∧ TyE X.K H y t ∧ notFirst X.K C t = true ∧
  Does X CX (He.ma X.K C "__eq__") [x, y] H (fun v H' => ∃ b, v = .bl b ∧ Q (.bl b) H') E
theorem op_eqO (hx : Passes CX X E) : OpR X (compareOp .Eq) (rEqO X CX E) := by
  intro pins s σ H x y v u Q I rx ry h
  obtain ⟨a, C, dx, fs, t, rfl, ha, T, ty, nf, k, fd, ps, sp, kp, F, hr, hb, q⟩ := h
  cases rx
  obtain ⟨mA, J, _⟩ := ins_get I.hok ha
  obtain ⟨od, J, _⟩ := J.look
  obtain ⟨m, hF⟩ := I.fr
  obtain ⟨P, Z, p, _⟩ := kit_ofE I ry ty
  have hty : Looks (model X.prog X.w) s.heap (typeOf u) t := Z.ty _ _ I.kIn p
  show wpAny (model X.prog X.w) X.A (richCompare .Eq (.ref a) u) (EP X pins σ Q) X.xe s
  refine cmp_K (op := .Eq) (tb := t) hr.units0 hF I.ok.mod.kin J hty nf T.find T.fn ?_
  refine wpAny_mono (run_fn (us := [.ref a, u]) (vs := [.ref a, y]) F hr hb .nil hx I (.cons rfl (.cons ry .nil)) q) (fun z s' hz => ?_) fun _ _ e => e
  obtain ⟨v', H', I', r', b, rfl, q'⟩ := hz
  obtain rfl : z = Value.bool b := r'
  exact ⟨.bl b, H', I', rfl, q'⟩
theorem ns_at_of {K : Frag} {h : Heap} {N : Addr} {mN : Str → Option Value} {n : Str} {v : Value} (X : K.In h) (G : h.Ns N mN) (e : nsIn K N n = some (some v)) : mN n = some v := by
  obtain ⟨o, es, ep, ho, hd, _, hf⟩ := G
  unfold nsIn at e
  split at e
  · rename_i q
    have z := X _ _ q
    rw [ho] at z
    cases z
    cases hd
    split at e
    · rename_i en he
      have ev : en.val = v := Option.some.inj (Option.some.inj e)
      rw [← hf]
      unfold nsFind findBy
      rw [← Array.find?_toList, he]
      exact congrArg some ev
    · split at e <;> cases e
  · cases e
/-- a call below a builtin -/
theorem run_in1 {k : Nat} {f : Addr} {fd : FuncData} {ps : List Str} {sp : Sp} {pins : List (Addr × Obj)} {σ : St} {H : Hp} {s : Shared} {Q : VK} {us : List Value} {vs : List V} (F : FnOk X.prog X.w X.K X.mg X.base CX k f fd ps sp) (hr : Room k X.A.in1)
    (hb : Binds X.K fd ps []) (hx : Passes CX X E) (I : Inv X pins σ H s) (r : Vals vs us) (h : sp vs H Q E) : wpAny (model X.prog X.w) X.A.in1 (call (.ref f) us) (EP X pins σ Q) X.xe s := by
  have hl : us.length = ps.length := by rw [← r.length]; exact F.len _ _ _ _ h
  have hb' := hb s us I.kIn (by rw [List.append_nil]; exact hl)
  rw [List.append_nil] at hb'
  refine wpAny_call (codeAny_mono (F.run X.A.in1 X.stack s H ⟨us, []⟩ us vs Q E hr I.env0.in1 hb' r h) fun r s' hq => ?_)
  cases r with
  | error e => exact hx pins σ H s e s' I hq
  | ok fl =>
    cases fl with
    | ret u => exact I.after hq
    | next => exact False.elim hq
    | brk => exact False.elim hq
    | cont => exact False.elim hq
/-- x != y, both instances of the class at C -/
def rNeO (X : Cx) (CX : CXT) (E : XK) : R2 := fun x y H Q => ∃ (a b C dx dy : Addr) (fs gs : List (Str × V)), x = .ref a ∧ y = .ref b ∧ H a = some (.ins C dx fs) ∧ H b = some (.ins C dy gs) ∧ EqcC X.K C ∧
  ∃ (k : Nat) (fd : FuncData) (ps : List Str) (sp : Sp), keepIn X.K (.ref (He.ma X.K C "__eq__")) = true ∧ FnOk X.prog X.w X.K X.mg X.base CX k (He.ma X.K C "__eq__") fd ps sp ∧ Room (k + 1) X.A ∧ Binds X.K fd ps [] ∧ sp [x, y] H (fun v H' => ∃ b, v = .bl b ∧ Q (.bl !b) H') E
theorem op_neO (hx : Passes CX X E) : OpR X (compareOp .NotEq) (rNeO X CX E) := by
  intro pins s σ H x y v u Q I rx ry h
  obtain ⟨a, b, C, dx, dy, fs, gs, rfl, rfl, ha, hb', T, k, fd, ps, sp, kp, G, hr, hb, q⟩ := h
  cases rx
  cases ry
  obtain ⟨mA, J, _⟩ := ins_get I.hok ha
  obtain ⟨mB, J', _⟩ := ins_get I.hok hb'
  obtain ⟨od, J, _⟩ := J.look
  obtain ⟨od', J', _⟩ := J'.look
  obtain ⟨nm, qn, N, bs, hdct, sn, sub, ab, col, dd, k0, k1, k2, k3, k5, nid, hC, ok, ne1, ne2⟩ := T.cls
  have hn : s.heap.Ns N (s.heap.nsMap N) := .of_isNs (isNs_of_in I.kIn ok)
  obtain ⟨of, hof, hcl⟩ := Option.map_eq_some_iff.mp (show (X.K.lookup (He.ma X.K C "__eq__")).map (·.cls) = some (.type "function") from beq_iff_eq.mp T.fn)
  have own : s.heap.OwnEqNoNe a C (He.ma X.K C "__eq__") "object" [.type "object"] := ⟨_, of, nm, qn, N, bs, hdct, sn, sub, ab, col, dd, k0, k1, k2, k3, k5, nid, _, _, J.at_, rfl, I.kIn _ _ hC, hn, ns_at_of I.kIn hn ne1,
    I.kIn _ _ hof, hcl, F.cmp_object.mro, F.cmp_object.eq.lookup, ns_none_of I.kIn hn ne2⟩
  obtain ⟨hp, g, d, tk, os⟩ := s
  refine compareOp_ne_ownEq F.cmp_object own J'.at_ rfl (by have := hr.units; omega) ?_
  refine wpAny_mono (run_in1 (us := [.ref a, .ref b]) (vs := [.ref a, .ref b]) G hr.in1 hb hx I (.cons rfl (.cons rfl .nil)) q) (fun z s' hz => ?_) fun _ _ e => e
  obtain ⟨v', H', I', r', b', rfl, q'⟩ := hz
  obtain rfl : z = Value.bool b' := r'
  exact ⟨b', rfl, .bl !b', H', I', rfl, q'⟩
end
end L2.Jk

set_option Elab.async false
set_option linter.all false
set_option maxRecDepth 100000
set_option maxHeartbeats 4000000
/-! A hook that walks the heap by layers, and casts out doubles by one number's bits. -/
namespace L2.Jk
open PySem PySem.W
def bitOn (m a : Nat) : Bool := Nat.beq (Nat.land (Nat.shiftRight m a) 1) 1
/-- what is not seen yet, and what is seen then -/
def freshD : List Nat → Nat → List Nat → List Nat × Nat
  | [], m, acc => (acc, m)
  | a :: r, m, acc => match bitOn m a with
    | true => freshD r m acc
    | false => freshD r (Nat.lor m (Nat.shiftLeft 1 a)) (a :: acc)
def refsAll (g : Nat → Option Obj) : List Nat → List Nat
  | [] => []
  | a :: r => match g a with
    | some o => He.refsD o ++ refsAll g r
    | none => refsAll g r
def layers (g : Nat → Option Obj) : Nat → List Nat → Nat → List Nat
  | 0, fr, _ => fr
  | n + 1, fr, m => match freshD (refsAll g fr) m [] with
    | (nw, m2) => fr ++ layers g n nw m2
def selL (n : Nat) (g : Nat → Option Obj) : List Nat := layers g n [mainGlobals] (Nat.shiftLeft 1 mainGlobals)
def obsK (fa : List He.Fa) (fn : List He.DefD) (ts : List He.Tab) (tf : List He.Defn) (ex : Frag → Bool) (g : Nat → Option Obj) (K : Frag) : He.AlX := (He.obsT fa fn ts K, ex K && He.tabsB g tf K)
def obsL (n : Nat) (fa : List He.Fa) (fn : List He.DefD) (ts : List He.Tab) (tf : List He.Defn) (ex : Frag → Bool) (g : Nat → Option Obj) : He.AlX := obsK fa fn ts tf ex g (He.frT g (selL n g))
theorem saysL_of {n : Nat} {fa : List He.Fa} {fn : List He.DefD} {ts : List He.Tab} {tf : List He.Defn} {ex : Frag → Bool} {w : World} {h : Heap}
    (e : obsL n fa fn ts tf ex h.get? = He.valX fn ts w) : He.SaysX fa fn ts tf ex w h (He.frT h.get? (selL n h.get?)) := by
  have e1 := congrArg (fun z => z.fst) e
  have e2 : (ex (He.frT h.get? (selL n h.get?)) && He.tabsB h.get? tf (He.frT h.get? (selL n h.get?))) = true := congrArg (fun z => z.snd) e
  obtain ⟨h1, h2⟩ := Bool.and_eq_true_iff.mp e2
  have key : ∀ p ∈ tf, codeHdIn (He.frT h.get? (selL n h.get?)) (He.cT (He.frT h.get? (selL n h.get?)) p).fst (He.cT (He.frT h.get? (selL n h.get?)) p).snd = true ∧ ∃ o, h.get? (He.cT (He.frT h.get? (selL n h.get?)) p).snd = some o ∧ He.emptyTab o = true := fun p hp => by
    have hh := List.all_eq_true.mp h2 p hp
    obtain ⟨h3, h4⟩ := Bool.and_eq_true_iff.mp hh
    refine ⟨h3, ?_⟩
    cases q : h.get? (He.cT (He.frT h.get? (selL n h.get?)) p).snd with
    | none => rw [q] at h4; cases h4
    | some o => rw [q] at h4; exact ⟨o, rfl, h4⟩
  exact { t := e1, more := h1, hd := fun p hp => (key p hp).1, out := fun p hp => by
            obtain ⟨_, o, q, z⟩ := key p hp
            exact He.frT_none q z, empty := fun p hp => by
            obtain ⟨_, o, q, z⟩ := key p hp
            rw [q, He.emptyTab_eq z] }
def hookL (n : Nat) (fa : List He.Fa) (fn : List He.DefD) (ts : List He.Tab) (tf : List He.Defn) (ex : Frag → Bool) : Hook where
  α := He.AlX
  obs := fun s => obsL n fa fn ts tf ex s.heap.get?
  val := fun w => He.valX fn ts w
  says := fun w h => ∃ K, K.In h ∧ He.SaysX fa fn ts tf ex w h K
  of := fun w s e => ⟨_, He.frT_in, saysL_of e⟩
  keeps := fun w h h' ⟨K, hK, c⟩ k => ⟨K, Frag.In.keeps hK k, { t := c.t, more := c.more, hd := c.hd, out := c.out, empty := fun p hp => k _ _ (c.empty p hp) }⟩
theorem obsL_eq {n : Nat} {fa : List He.Fa} {fn : List He.DefD} {ts : List He.Tab} {tf : List He.Defn} {ex : Frag → Bool} {g : Nat → Option Obj} {s : Shared}
    (hg : ∀ a, g a = s.heap.get? a) : obsL n fa fn ts tf ex g = (hookL n fa fn ts tf ex).obs s := by
  have e : g = s.heap.get? := funext hg
  rw [e]
  rfl
end L2.Jk

set_option Elab.async false
set_option linter.all false
set_option maxRecDepth 100000
set_option maxHeartbeats 4000000
/-! int(text) of up to 4,300 digits, where the interpreter's limit on digits stands as it was. -/
namespace L2.Jk
open PySem PySem.W PySem.Spec PySem.Calls PySem.NumText PyProof.Rows PySem.W.KIN

theorem wp_textW {M : Model} {A : Around} {E : Value → Shared → Prop} {s : Shared} {Q : Value → Shared → Prop} {v : Value} {text : List Nat} {n : Int}
    (hd : s.heap.NoDigits) (hs : ¬ (text.takeWhile (· != 0)).length ≤ 640) (hr : (int_private% "readNumeral") 4300 10 (text.takeWhile (· != 0)) = (int_private% "Numeral.value") n)
    (ha : ((text.takeWhile (· != 0)).length == text.length) = true) (h : Q (.int n s.toks) { s with toks := s.toks + 1 }) :
    wpAny M A ((int_private% "intFromText") v text 10) Q E s := by
  obtain ⟨mc, hns, hnone⟩ := hd
  have key : wpAny M A (Builtin.intMaxStrDigits) (fun l s' => l = 4300 ∧ s' = s) E s := by
    unfold Builtin.intMaxStrDigits
    refine wpAny_bind (wpAny_nsGet hns ?_)
    rw [hnone]
    exact wpAny_pure ⟨rfl, rfl⟩
  obtain ⟨hp, g, d, tk, os⟩ := s
  show wpAny M A (do
    let limit ← if (text.takeWhile (· != 0)).length ≤ 640 then pure 0 else Builtin.intMaxStrDigits
    _) Q E _
  rw [if_neg hs]
  refine wpAny_bind (wpAny_mono key ?_ (fun _ _ x => x))
  rintro l s' ⟨rfl, rfl⟩
  dsimp only
  rw [hr]
  repeat (any_goals (first
    | assumption
    | (with_reducible refine wpAny_ite_true ha ?_)
    | wp_step))

set_option maxHeartbeats 4000000 in
theorem meets_textW {x : PySem.Str} {u : Tok} {n : Int} (hl : ¬ (numSeenOf x).length ≤ 640) (hl2 : x.length ≤ sizeLine) (hn : PySem.intText? x = some n) :
    Meets (Builtin.«int.__new__» ⟨[.type "int", .str x u], []⟩) (fun A R s => s.heap.NoDigits ∧ R (.ok (.ret (.int n s.toks))) { s with toks := s.toks + 1 }) :=
  .of_wp fun prog w A R s h => by
    have hr : (int_private% "readNumeral") 4300 10 (numSeenOf x) = (int_private% "Numeral.value") n ∧ ((numSeenOf x).length == (numTextOf x).length) = true := by
      rcases read4300 x hl2 with ⟨m, h1, h2, h3⟩ | ⟨h1, _⟩
      · rw [hn] at h1
        injection h1 with h1
        subst h1
        exact ⟨h3, h2⟩
      · rw [hn] at h1
        cases h1
    obtain ⟨hd, h⟩ := h
    have hd2 := Hid.mk hd
    obtain ⟨hp, g, d, tk, os⟩ := s
    have f1 := F.conv_sub_int
    have f2 := F.madeHere_int
    have f3 := str_int
    have f4 := str_idx
    have f5 := str_trunc
    have f6 : typeOf (.str x u) = pure (.type "str") := rfl
    have hk := Hid.mk (And.intro hl hr)
    clear hr hl hl2 hn hd
    repeat (any_goals (first
      | assumption
      | ((with_reducible show wpAny _ _ ((int_private% "intFromText") _ _ _) _ _ _); refine wp_textW hd2.out hk.out.1 hk.out.2.1 hk.out.2.2 ?_)
      | wp_step))
    all_goals first | exact ⟨_, rfl, h⟩ | skip
theorem call_textW {prog : Program} {w : World} {A : Around} {E : Value → Shared → Prop} {s : Shared} {Q : Value → Shared → Prop} {x : PySem.Str} {t : Tok} {n : Int} (hd : s.heap.NoDigits) (hn : PySem.intText? x = some n) (hl : x.length ≤ 640 ∨ (¬ (numSeenOf x).length ≤ 640 ∧ x.length ≤ 4300))
    (h : Q (.int n s.toks) { s with toks := s.toks + 1 }) : wpAny (model prog w) A (call (.type "int") [.str x t]) Q E s := by
  rcases hl with hl | ⟨hs, hl⟩
  · exact PySem.W.KIN.call_text hn hl h
  · exact call_int_1 (meets_textW hs (by rw [sizeLine_eq]; omega) hn) ⟨hd, rfl, h⟩
/-- a text that int() takes: short, or all of it digits -/
def IntOk (a : Str) : Prop := a.length ≤ 640 ∨ ((¬ (numSeenOf a).length ≤ 640) ∧ a.length ≤ 4300)
theorem intOk_digits {a : Str} (h : ∀ c ∈ a.cps.toList, c = 45 ∨ (48 ≤ c ∧ c ≤ 57)) (hl : a.length ≤ 4300) : IntOk a := by
  by_cases k : a.length ≤ 640
  · exact .inl k
  · refine .inr ⟨?_, hl⟩
    rw [(numText_signs h).2, Array.length_toList]
    exact k
theorem call_int_strW {X : Cx} (hd : X.base.NoDigits) : CallR X (.type "int") (fun xs H Q => ∃ a n, xs = [.str a] ∧ PySem.intText? a = some n ∧ IntOk a ∧ Q (.int n) H) := by
  intro pins s σ H xs us Q I rs h
  obtain ⟨a, n, rfl, hn, hl, h⟩ := h
  cases rs with
  | cons r1 rs =>
    cases rs
    obtain ⟨t, rfl⟩ := r1
    exact call_textW (hd.keeps I.bk) hn hl ⟨.int n, H, I.tok _, ⟨_, rfl⟩, h⟩
/-- what the head tells of the interpreter's own table -/
def digB (K : Frag) : Bool := match K.lookup cStatics with
  | some o => (match o.data with
    | .dict es _ => es.toList.all fun e => match e.key with
      | .str n _ => decide (n ≠ ("sys.int_max_str_digits" : Str))
      | _ => false
    | _ => false)
  | none => false
theorem noDigits_of {K : Frag} {base : Heap} (X : K.In base) (h : digB K = true) : base.NoDigits := by
  unfold digB at h
  split at h
  · rename_i o ho
    split at h
    · rename_i es ep hd
      have key : ∀ e ∈ es, ∃ n t, e.key = .str n t ∧ n ≠ ("sys.int_max_str_digits" : Str) := fun e he => by
        have k := List.all_eq_true.mp h e (by simpa using he)
        split at k
        · rename_i n t ek
          exact ⟨n, t, ek, of_decide_eq_true k⟩
        · cases k
      refine ⟨fun n => nsFind es n, ⟨o, es, ep, X _ _ ho, hd, fun e he => ?_, fun _ => rfl⟩, ?_⟩
      · obtain ⟨n, t, ek, _⟩ := key e he
        exact ⟨n, t, ek⟩
      · show nsFind es "sys.int_max_str_digits" = none
        unfold nsFind findBy
        have z : es.find? (fun e => e.key.isStr "sys.int_max_str_digits") = none := by
          rw [Array.find?_eq_none]
          intro e he
          obtain ⟨n, t, ek, ne⟩ := key e he
          rw [ek]
          simpa [Value.isStr] using ne
        rw [z]
        rfl
    · cases h
  · cases h
/-! ### a head whose facts see the interpreter's own table, too -/
def obsS (n : Nat) (fa : List He.Fa) (fn : List He.DefD) (ex : Frag → Bool) (g : Addr → Option Obj) : He.AlX := (He.obsT fa fn [] (He.frT g (He.asD g n ++ [cStatics])), ex (He.frT g (He.asD g n ++ [cStatics])))
def hookS (n : Nat) (fa : List He.Fa) (fn : List He.DefD) (ex : Frag → Bool) : PySem.W.Hook where
  α := He.AlX
  obs := fun s => obsS n fa fn ex s.heap.get?
  val := fun w => He.valX fn [] w
  says := fun w h => ∃ K : Frag, K.In h ∧ He.SaysT fa fn [] w K ∧ ex K = true
  of := fun _ _ e => ⟨_, He.frT_in, congrArg (fun z : He.AlX => z.1) e, congrArg (fun z : He.AlX => z.2) e⟩
  keeps := fun _ _ _ ⟨K, hK, c, m⟩ k => ⟨K, Frag.In.keeps hK k, c, m⟩
theorem obsS_eq {n : Nat} {fa : List He.Fa} {fn : List He.DefD} {ex : Frag → Bool} {g : Addr → Option Obj} {s : Shared} (h : ∀ a, g a = s.heap.get? a) : obsS n fa fn ex g = (hookS n fa fn ex).obs s := by
  have e : g = s.heap.get? := funext h
  rw [e] <;> rfl
end L2.Jk

set_option Elab.async false
set_option linter.all false
set_option maxRecDepth 100000
set_option maxHeartbeats 0
namespace L2.K80
open PySem PySem.W PySem.Spec PySem.Calls PyProof.Rows L2.Jk
def top (i : Nat) : Stmt := PySem.Challenge.pw_jointkeys_k80_rows_as_words.main.body.getD i (.Pass ⟨0, 0, 0, 0⟩)
def SG : Str := "-./0123456789ABCDEFGHIJKLMNOPQRSTUVWXYZ_abcdefghijklmnopqrstuvwxyz"
def DG : Str := "0123456789"
abbrev BF (K : Frag) : Addr := He.ga K "BadField"
abbrev BY (K : Frag) : Addr := He.ga K "BadLayout"
abbrev NR (K : Frag) : Addr := He.ga K "NoRow"
def cname : Nat → Str
  | 0 => "Word"
  | 1 => "Number"
  | 2 => "Fixed"
  | 3 => "Listed"
  | 4 => "Ended"
  | 5 => "Marked"
  | 6 => "Layout"
  | _ => ""
abbrev ca (K : Frag) (i : Nat) : Addr := He.ga K (cname i)

def fn : List He.DefD := [⟨("BadField", some "__init__"), "__init__", "BadField.__init__", defArgs (inClass (top 3) 0), defBody (inClass (top 3) 0), defScope (inClass (top 3) 0), [], []⟩,
  ⟨("BadField", some "told"), "told", "BadField.told", defArgs (inClass (top 3) 1), defBody (inClass (top 3) 1), defScope (inClass (top 3) 1), [], []⟩,
  ⟨("BadLayout", some "__init__"), "__init__", "BadLayout.__init__", defArgs (inClass (top 4) 0), defBody (inClass (top 4) 0), defScope (inClass (top 4) 0), [], []⟩,
  ⟨("BadLayout", some "told"), "told", "BadLayout.told", defArgs (inClass (top 4) 1), defBody (inClass (top 4) 1), defScope (inClass (top 4) 1), [], []⟩,
  ⟨("NoRow", some "__init__"), "__init__", "NoRow.__init__", defArgs (inClass (top 5) 0), defBody (inClass (top 5) 0), defScope (inClass (top 5) 0), [], []⟩,
  ⟨("NoRow", some "told"), "told", "NoRow.told", defArgs (inClass (top 5) 1), defBody (inClass (top 5) 1), defScope (inClass (top 5) 1), [], []⟩,
  ⟨("Word", some "__init__"), "__init__", "Word.__init__", defArgs (inClass (top 26) 0), defBody (inClass (top 26) 0), defScope (inClass (top 26) 0), [], []⟩,
  ⟨("Word", some "__eq__"), "__eq__", "Word.__eq__", defArgs (inClass (top 26) 1), defBody (inClass (top 26) 1), defScope (inClass (top 26) 1), [], []⟩,
  ⟨("Word", some "has_sign"), "has_sign", "Word.has_sign", defArgs (inClass (top 26) 7), defBody (inClass (top 26) 7), defScope (inClass (top 26) 7), [], []⟩,
  ⟨("Word", some "has_value"), "has_value", "Word.has_value", defArgs (inClass (top 26) 2), defBody (inClass (top 26) 2), defScope (inClass (top 26) 2), [], []⟩,
  ⟨("Number", some "__init__"), "__init__", "Number.__init__", defArgs (inClass (top 27) 0), defBody (inClass (top 27) 0), defScope (inClass (top 27) 0), [], []⟩,
  ⟨("Number", some "__eq__"), "__eq__", "Number.__eq__", defArgs (inClass (top 27) 1), defBody (inClass (top 27) 1), defScope (inClass (top 27) 1), [], []⟩,
  ⟨("Number", some "has_sign"), "has_sign", "Number.has_sign", defArgs (inClass (top 27) 7), defBody (inClass (top 27) 7), defScope (inClass (top 27) 7), [], []⟩,
  ⟨("Number", some "has_value"), "has_value", "Number.has_value", defArgs (inClass (top 27) 2), defBody (inClass (top 27) 2), defScope (inClass (top 27) 2), [], []⟩,
  ⟨("Fixed", some "__init__"), "__init__", "Fixed.__init__", defArgs (inClass (top 28) 0), defBody (inClass (top 28) 0), defScope (inClass (top 28) 0), [], []⟩,
  ⟨("Fixed", some "__eq__"), "__eq__", "Fixed.__eq__", defArgs (inClass (top 28) 1), defBody (inClass (top 28) 1), defScope (inClass (top 28) 1), [], []⟩,
  ⟨("Fixed", some "has_sign"), "has_sign", "Fixed.has_sign", defArgs (inClass (top 28) 7), defBody (inClass (top 28) 7), defScope (inClass (top 28) 7), [], []⟩,
  ⟨("Fixed", some "has_value"), "has_value", "Fixed.has_value", defArgs (inClass (top 28) 2), defBody (inClass (top 28) 2), defScope (inClass (top 28) 2), [], []⟩,
  ⟨("Listed", some "__init__"), "__init__", "Listed.__init__", defArgs (inClass (top 29) 0), defBody (inClass (top 29) 0), defScope (inClass (top 29) 0), [], []⟩,
  ⟨("Listed", some "__eq__"), "__eq__", "Listed.__eq__", defArgs (inClass (top 29) 1), defBody (inClass (top 29) 1), defScope (inClass (top 29) 1), [], []⟩,
  ⟨("Listed", some "has_sign"), "has_sign", "Listed.has_sign", defArgs (inClass (top 29) 7), defBody (inClass (top 29) 7), defScope (inClass (top 29) 7), [], []⟩,
  ⟨("Listed", some "has_value"), "has_value", "Listed.has_value", defArgs (inClass (top 29) 2), defBody (inClass (top 29) 2), defScope (inClass (top 29) 2), [], []⟩,
  ⟨("Ended", some "__init__"), "__init__", "Ended.__init__", defArgs (inClass (top 30) 0), defBody (inClass (top 30) 0), defScope (inClass (top 30) 0), [], []⟩,
  ⟨("Ended", some "__eq__"), "__eq__", "Ended.__eq__", defArgs (inClass (top 30) 1), defBody (inClass (top 30) 1), defScope (inClass (top 30) 1), [], []⟩,
  ⟨("Ended", some "has_sign"), "has_sign", "Ended.has_sign", defArgs (inClass (top 30) 7), defBody (inClass (top 30) 7), defScope (inClass (top 30) 7), [], []⟩,
  ⟨("Ended", some "has_value"), "has_value", "Ended.has_value", defArgs (inClass (top 30) 2), defBody (inClass (top 30) 2), defScope (inClass (top 30) 2), [], []⟩,
  ⟨("Marked", some "__init__"), "__init__", "Marked.__init__", defArgs (inClass (top 31) 0), defBody (inClass (top 31) 0), defScope (inClass (top 31) 0), [], []⟩,
  ⟨("Marked", some "__eq__"), "__eq__", "Marked.__eq__", defArgs (inClass (top 31) 1), defBody (inClass (top 31) 1), defScope (inClass (top 31) 1), [], []⟩,
  ⟨("Marked", some "has_value"), "has_value", "Marked.has_value", defArgs (inClass (top 31) 2), defBody (inClass (top 31) 2), defScope (inClass (top 31) 2), [], []⟩,
  ⟨("Layout", some "__init__"), "__init__", "Layout.__init__", defArgs (inClass (top 36) 0), defBody (inClass (top 36) 0), defScope (inClass (top 36) 0), [], []⟩,
  ⟨("Layout", some "__eq__"), "__eq__", "Layout.__eq__", defArgs (inClass (top 36) 1), defBody (inClass (top 36) 1), defScope (inClass (top 36) 1), [], []⟩,
  ⟨("is_made_of", none), "is_made_of", "is_made_of", defArgs (top 11), defBody (top 11), defScope (top 11), [], []⟩,
  ⟨("is_sign", none), "is_sign", "is_sign", defArgs (top 12), defBody (top 12), defScope (top 12), [], []⟩,
  ⟨("are_signs", none), "are_signs", "are_signs", defArgs (top 13), defBody (top 13), defScope (top 13), [], []⟩,
  ⟨("is_number", none), "is_number", "is_number", defArgs (top 15), defBody (top 15), defScope (top 15), [], []⟩,
  ⟨("is_numeral", none), "is_numeral", "is_numeral", defArgs (top 16), defBody (top 16), defScope (top 16), [], []⟩,
  ⟨("digits_of", none), "digits_of", "digits_of", defArgs (top 17), defBody (top 17), defScope (top 17), [], []⟩,
  ⟨("number_of", none), "number_of", "number_of", defArgs (top 18), defBody (top 18), defScope (top 18), [], []⟩,
  ⟨("greatest_of", none), "greatest_of", "greatest_of", defArgs (top 19), defBody (top 19), defScope (top 19), [], []⟩,
  ⟨("check_signs", none), "check_signs", "check_signs", defArgs (top 21), defBody (top 21), defScope (top 21), [], []⟩,
  ⟨("check_span", none), "check_span", "check_span", defArgs (top 22), defBody (top 22), defScope (top 22), [], []⟩,
  ⟨("is_within", none), "is_within", "is_within", defArgs (top 23), defBody (top 23), defScope (top 23), [], []⟩,
  ⟨("is_word_of", none), "is_word_of", "is_word_of", defArgs (top 24), defBody (top 24), defScope (top 24), [], []⟩,
  ⟨("has_words_with", none), "has_words_with", "has_words_with", defArgs (top 25), defBody (top 25), defScope (top 25), [], []⟩,
  ⟨("is_sequence", none), "is_sequence", "is_sequence", defArgs (top 33), defBody (top 33), defScope (top 33), [], []⟩,
  ⟨("check_fields", none), "check_fields", "check_fields", defArgs (top 34), defBody (top 34), defScope (top 34), [], []⟩,
  ⟨("is_joint", none), "is_joint", "is_joint", defArgs (top 35), defBody (top 35), defScope (top 35), [], []⟩,
  ⟨("check_row", none), "check_row", "check_row", defArgs (top 37), defBody (top 37), defScope (top 37), [], []⟩,
  ⟨("row_word", none), "row_word", "row_word", defArgs (top 39), defBody (top 39), defScope (top 39), [], []⟩,
  ⟨("value_word", none), "value_word", "value_word", defArgs (top 40), defBody (top 40), defScope (top 40), [], []⟩,
  ⟨("read_row", none), "read_row", "read_row", defArgs (top 41), defBody (top 41), defScope (top 41), [], []⟩,
  ⟨("read_values", none), "read_values", "read_values", defArgs (top 42), defBody (top 42), defScope (top 42), [], []⟩,
  ⟨("is_value_word", none), "is_value_word", "is_value_word", defArgs (top 43), defBody (top 43), defScope (top 43), [], []⟩,
  ⟨("value_in", none), "value_in", "value_in", defArgs (top 44), defBody (top 44), defScope (top 44), [], []⟩,
  ⟨("_law_source", none), "_law_source", "_law_source", defArgs (top 46), defBody (top 46), defScope (top 46), [], []⟩,
  ⟨("_law_draw", none), "_law_draw", "_law_draw", defArgs (top 47), defBody (top 47), defScope (top 47), [], []⟩,
  ⟨("_law_pick", none), "_law_pick", "_law_pick", defArgs (top 48), defBody (top 48), defScope (top 48), [], []⟩,
  ⟨("_law_made", none), "_law_made", "_law_made", defArgs (top 49), defBody (top 49), defScope (top 49), [], []⟩,
  ⟨("_law_shuffled", none), "_law_shuffled", "_law_shuffled", defArgs (top 50), defBody (top 50), defScope (top 50), [], []⟩,
  ⟨("_law_far", none), "_law_far", "_law_far", defArgs (top 51), defBody (top 51), defScope (top 51), [], []⟩,
  ⟨("_law_far_layout", none), "_law_far_layout", "_law_far_layout", defArgs (top 52), defBody (top 52), defScope (top 52), [], []⟩,
  ⟨("_law_some", none), "_law_some", "_law_some", defArgs (top 53), defBody (top 53), defScope (top 53), [], []⟩,
  ⟨("_law_is_word", none), "_law_is_word", "_law_is_word", defArgs (top 54), defBody (top 54), defScope (top 54), [], []⟩,
  ⟨("_law_row_word", none), "_law_row_word", "_law_row_word", defArgs (top 55), defBody (top 55), defScope (top 55), [], []⟩,
  ⟨("_law_part", none), "_law_part", "_law_part", defArgs (top 56), defBody (top 56), defScope (top 56), [], []⟩,
  ⟨("_law_due", none), "_law_due", "_law_due", defArgs (top 57), defBody (top 57), defScope (top 57), [], []⟩,
  ⟨("_law_said", none), "_law_said", "_law_said", defArgs (top 58), defBody (top 58), defScope (top 58), [], []⟩,
  ⟨("_law_bent", none), "_law_bent", "_law_bent", defArgs (top 59), defBody (top 59), defScope (top 59), [], []⟩,
  ⟨("_law_refused_right", none), "_law_refused_right", "_law_refused_right", defArgs (top 60), defBody (top 60), defScope (top 60), [], []⟩,
  ⟨("law", none), "law", "law", defArgs (top 61), defBody (top 61), defScope (top 61), [], []⟩]

def fa : List He.Fa := [.glo "JointError", .glo "BadField", .glo "BadLayout", .glo "NoRow", .glo "Layout", .glo "Word", .glo "Number", .glo "Fixed", .glo "Listed", .glo "Ended", .glo "Marked", .glo "is_made_of", .glo "is_sign", .glo "are_signs", .glo "is_number", .glo "is_numeral", .glo "digits_of", .glo "number_of", .glo "greatest_of", .glo "check_signs", .glo "check_span", .glo "is_within", .glo "is_word_of", .glo "has_words_with", .glo "is_sequence", .glo "check_fields", .glo "is_joint", .glo "check_row", .glo "row_word", .glo "value_word", .glo "read_row", .glo "read_values", .glo "is_value_word", .glo "value_in", .glo "_law_source", .glo "_law_draw", .glo "_law_pick", .glo "_law_made", .glo "_law_shuffled", .glo "_law_far", .glo "_law_far_layout", .glo "_law_some", .glo "_law_is_word", .glo "_law_row_word", .glo "_law_part", .glo "_law_due", .glo "_law_said", .glo "_law_bent", .glo "_law_refused_right", .glo "law", .free "abs", .free "int", .free "bool", .free "isinstance", .free "range", .free "len", .free "set", .free "type", .free "str", .free "reversed", .free "tuple", .free "list", .free "any", .free "all", .free "min", .free "max", .free "zip", .free "enumerate", .str "SIGNS" SG, .str "DIGITS" DG, .str "LOW" "!", .str "HIGH" "~", .cls "Word", .mkr "Word", .noat "Word" "signs", .noat "Word" "least", .noat "Word" "most", .meth "Word" "has_sign", .meth "Word" "has_value", .cls "Number", .mkr "Number", .noat "Number" "least", .noat "Number" "most", .meth "Number" "has_sign", .meth "Number" "has_value", .cls "Fixed", .mkr "Fixed", .noat "Fixed" "width", .meth "Fixed" "has_sign", .meth "Fixed" "has_value", .cls "Listed", .mkr "Listed", .noat "Listed" "texts", .meth "Listed" "has_sign", .meth "Listed" "has_value", .cls "Ended", .mkr "Ended", .noat "Ended" "signs", .noat "Ended" "sign", .noat "Ended" "least", .noat "Ended" "most", .meth "Ended" "has_sign", .meth "Ended" "has_value", .cls "Marked", .mkr "Marked", .noat "Marked" "none", .noat "Marked" "mark", .noat "Marked" "field", .meth "Marked" "has_value", .cls "Layout", .mkr "Layout", .noat "Layout" "fields", .noat "Layout" "joints"]

def kcB (K : Frag) (C : Addr) : Bool := He.eqO (findIn K (.ref C) "__class__") (some (some (.builtin "object.__class__"))) && (decide (mroIn K C (.type "object") = some true) && (notFirst K C (.type "tuple") && (eqcB K C && keepIn K (.ref (He.ma K C "__eq__")))))
def exN (K : Frag) : Bool := errB K (BY K) ["what"] ["told"] && (He.eqO (findIn K (.ref (BY K)) "__init__") (some (some (.ref (He.ma K (BY K) "__init__")))) && (decide (typeIn K (.ref (He.ma K (BY K) "__init__")) = some (.type "function")) && decide (exmOne K (.ref (BY K)) (.ref (BY K)) = some true)))
def exT (K : Frag) : Bool := errB K (NR K) ["place"] ["told"] && (He.eqO (findIn K (.ref (NR K)) "__init__") (some (some (.ref (He.ma K (NR K) "__init__")))) && (decide (typeIn K (.ref (He.ma K (NR K) "__init__")) = some (.type "function")) && decide (exmOne K (.ref (NR K)) (.ref (NR K)) = some true)))
def ex0 (K : Frag) : Bool := exT K && (exN K && ((errB K (BF K) ["what"] ["told"] && (He.eqO (findIn K (.ref (BF K)) "__init__") (some (some (.ref (He.ma K (BF K) "__init__")))) && (decide (typeIn K (.ref (He.ma K (BF K) "__init__")) = some (.type "function")) &&
  (decide (exmOne K (.ref (BF K)) (.ref (BF K)) = some true) && (He.eqO (specialIn K (.builtin "object.__class__") "__get__") (some (some (.builtin "getset_descriptor.__get__"))) && decide (takesIn K (.builtin "object.__class__") = some true)))))) &&
  ((List.range 7).all fun i => kcB K (ca K i) && ((["NoneType", "tuple", "list"] : List String).all (fun T => decide (subIn K (.ref (ca K i)) (.type T) = some false)) && (notFirst K (ca K i) (.type "list") && (List.range 7).all fun j => notFirst K (ca K i) (.ref (ca K j)) && decide ((ca K i = ca K j) ↔ i = j)))) &&
  (List.range 6).all fun i => (["NoneType", "str", "int", "bool", "tuple", "list"] : List String).all (fun T => decide (kitOne K (.type T) (.ref (ca K i)) = some false)) && (decide (kitOne K (.ref (ca K i)) (.type "str") = some false) &&
  (List.range 6).all fun j => decide (kitOne K (.ref (ca K i)) (.ref (ca K j)) = some (decide (i = j))))))
def ex (K : Frag) : Bool := decide ((He.cT K ("_law_refused_right", none)).2 ≠ (He.cT K ("law", none)).2) && ex0 K
abbrev R : PySem.W.OpenRow := PySem.W.OpenLaw.row PySem.Challenge.rw_jointkeys_k80_rows_as_words
abbrev hk : PySem.W.Hook := hookL 4 fa fn [] [("_law_refused_right", none), ("law", none)] ex
def ob (s : PySem.W.SharedT) : He.AlX := obsL 4 fa fn [] [("_law_refused_right", none), ("law", none)] ex (HandSHeadRun.getT s)
theorem ob_eq (s : PySem.W.SharedT) : ob s = hk.obs s.abs := obsL_eq (HandSHeadRun.getT_eq s)
def names : List PySem.Str := (["_wall", "__name__", "JointError", "BadField", "BadLayout", "NoRow", "SIGNS", "DIGITS", "LOW", "HIGH", "is_made_of", "is_sign", "are_signs", "is_number", "is_numeral", "digits_of", "number_of", "greatest_of", "check_signs", "check_span", "is_within", "is_word_of", "has_words_with", "Word", "Number", "Fixed", "Listed", "Ended", "Marked", "is_sequence"] : List PySem.Str) ++ (["check_fields", "is_joint", "Layout", "check_row", "row_word", "value_word", "read_row", "read_values", "is_value_word", "value_in", "_law_source", "_law_draw", "_law_pick", "_law_made", "_law_shuffled", "_law_far", "_law_far_layout", "_law_some", "_law_is_word", "_law_row_word", "_law_part", "_law_due", "_law_said", "_law_bent", "_law_refused_right"] : List PySem.Str)
theorem run (w : World) : HandSHeadRun.RunEq R (PySem.W.view R.prog [61]) hk ob 8000 names w := by
  intro os
  kernel_rfl
end L2.K80

set_option Elab.async false
set_option linter.all false
set_option maxRecDepth 100000
set_option maxHeartbeats 4000000
/-! set(..) of texts: how many members it has. -/
namespace L2.Jk
open PySem PySem.W PySem.Spec PySem.Calls PyProof.Rows

/-- how many of the first i are new -/
def newS (ks : Nat → Str) : Nat → Nat
  | 0 => 0
  | i + 1 => if (List.range i).any (fun j => ks j == ks i) then newS ks i else newS ks i + 1
theorem newS_le (ks : Nat → Str) : ∀ i, newS ks i ≤ i
  | 0 => Nat.le_refl _
  | i + 1 => by
    have := newS_le ks i
    unfold newS
    split <;> omega
section
variable {prog : Program} {w : World} {A : Around} {R : Result → Shared → Prop} {I : Addr} {fp wr : List Addr} {G : Array GenState → Array GenState → Prop} {n : Nat} {P : Nat → Value → Prop} {Z : Nat → Shared → Prop}
/-- what the set holds behind i items -/
def HeldS (prog : Program) (w : World) (h : Heap) (S : Addr) (ks : Nat → Str) (i : Nat) : Prop := h.SetOf (PySem.strKind prog w) S (fun k => (List.range i).any fun j => ks j == k) (newS ks i)
theorem HeldS.at {h h' : Heap} {S : Addr} {ks : Nat → Str} {i : Nat} (H : HeldS prog w h S ks i) (k : ∀ o, h.get? S = some o → h'.get? S = some o) : HeldS prog w h' S ks i := by
  obtain ⟨o, es, ep, t, ho, r⟩ := H
  exact ⟨o, es, ep, t, k o ho, r⟩
theorem set_loop (W : WalksS prog w A.in1 I fp wr G n P Z) (S : Addr) (hS : S ∉ fp) (ks : Nat → Str) (hn : n + 1 < scanBound) (hv : ∀ i v, P i v → ∃ t, v = .str (ks i) t) :
    ∀ (k i : Nat) (s : Shared), n - i = k → i ≤ n → Z i s → HeldS prog w s.heap S ks i →
      (∀ s', Moved (S :: wr) G s s' → HeldS prog w s'.heap S ks n → R (.ok (.ret .none)) s') → codeAny (model prog w) A (.builtin "set.update.loop" ⟨[.ref S, .ref I], []⟩) R s := by
  have sw : S ∉ wr := fun z => hS (W.sub _ z)
  have up : ∀ b ∈ wr, b ∈ S :: wr := fun b z => List.mem_cons_of_mem _ z
  intro k
  induction k with
  | zero =>
    intro i s hk hi hz H hR
    obtain rfl : i = n := by omega
    refine codeAny_builtin PyProof.Rows.F.entry_set_update_loop ?_
    rw [Around.under_plainId PyProof.Rows.F.plain_set_update_loop _]
    show wpAny _ A.in1 (pyNext (.ref I) >>= _) _ _ s
    refine wpAny_bind (W.done s _ _ hz fun s' m => ?_)
    show wpAny _ A.in1 (ret Value.none) _ _ s'
    exact wpAny_pure (hR s' (m.mono up) (H.at fun o e => m.heap S o sw e))
  | succ k ih =>
    intro i s hk hi hz H hR
    have lt : i < n := by omega
    refine codeAny_builtin PyProof.Rows.F.entry_set_update_loop ?_
    rw [Around.under_plainId PyProof.Rows.F.plain_set_update_loop _]
    show wpAny _ A.in1 (pyNext (.ref I) >>= _) _ _ s
    refine wpAny_bind (W.item i s _ _ lt hz fun v s' hp hz' m => ?_)
    obtain ⟨t, rfl⟩ := hv i v hp
    have H' : HeldS prog w s'.heap S ks i := H.at fun o e => m.heap S o sw e
    show wpAny _ A.in1 (holding [Value.str (ks i) t] (setAdd S (.str (ks i) t)) >>= _) _ _ s'
    refine wpAny_bind (wpAny_holding ?_)
    unfold setAdd
    refine wpAny_holding (wpAny_bind ((PySem.strKind prog w).pyHash (k := ks i) (strKind_is _ _ _ _) ?_))
    have few := newS_le ks i
    refine wpAny_setAddHashed_of (knd := PySem.strKind prog w) (s := { s' with toks := s'.toks + 1 }) (strKind_is _ _ _ _) rfl H' (by omega) fun h' sb H2 => ?_
    have H3 : HeldS prog w h' S ks (i + 1) := by
      refine PyProof.Rows.SetOf_congr H2 (fun q => ?_) ?_
      · show ((List.range i).any (fun j => ks j == q) || decide (q = ks i)) = (List.range (i + 1)).any fun j => ks j == q
        rw [List.range_succ, List.any_append]
        congr 1
        by_cases e : q = ks i
        · subst e
          simp
        · have e2 : (ks i == q) = false := beq_eq_false_iff_ne.mpr fun z => e z.symm
          simp [e, e2]
      · show (if (List.range i).any (fun j => ks j == ks i) = true then newS ks i else newS ks i + 1) = newS ks (i + 1)
        rfl
    refine wpAny_pure ⟨plainId_quiet PyProof.Rows.F.plain_set_update_loop _, ih (i + 1) _ (by omega) lt (W.frame _ s' _ _ hz' (Nat.le_succ _) fun b hb o e => ?_) H3 fun s2 m2 H4 => ?_⟩
    · rw [sb.2 b (fun z : b = S => hS (z ▸ hb))]
      exact e
    · refine hR s2 (Moved.trans W.gtrans ((m.mono up).then_heap (Nat.le_succ _) fun b o hb e => ?_) m2) H4
      rw [sb.2 b (fun z : b = S => hb (z ▸ List.mem_cons_self))]
      exact e
end
theorem sign_at {x : Str} {i : Nat} {v : Value} (z : SignAt x i v) : ∃ t, v = .str ⟨#[x.cps.getD i 0]⟩ t := by
  obtain ⟨c, t, h, e⟩ := z
  refine ⟨t, ?_⟩
  subst e
  rw [Array.getD_eq_getD_getElem?, h]
  rfl
end L2.Jk

set_option Elab.async false
set_option linter.all false
set_option maxRecDepth 100000
set_option maxHeartbeats 8000000
namespace L2.Jk
open PySem PySem.W PySem.Spec PySem.Calls PyProof.Rows
section
variable {prog : Program} {w : World} {A : Around} {E : Value → Shared → Prop} {s : Shared}
set_option maxHeartbeats 8000000 in
theorem set_callStr {x : Str} {tk0 : Tok} {Q : Value → Shared → Prop} (hh : A.handled = none)  (hn : x.cps.size + 1 < scanBound)
    (h : ∀ (h' : Heap) (tk : Nat), HeldS prog w h' s.heap.objs.size (fun i => ⟨#[x.cps.getD i 0]⟩) (x.cps.size) → (∀ b o, b < s.heap.objs.size → s.heap.get? b = some o → h'.get? b = some o) → Q (.ref s.heap.objs.size) { s with heap := h', toks := tk }) :
    wpAny (model prog w) A (call (.type "set") [(.str x tk0)]) Q E s := by
  obtain ⟨c, tl, hmro⟩ := PySem.F.called_set.mro
  have c1 := PySem.F.called_set.made
  have c2 := PySem.F.called_set.sub
  refine wpAny_call (codeAny_of_tree ?_)
  show wpAny _ _ (callAny (.type "set") _) _ _ _
  refine wpAny_pure ⟨Code.quiet_builtin _ (by decide +kernel), codeAny_builtin PySem.F.entry_type_call ?_⟩
  rw [Around.under_plain (weight_type_call_type "set" [(.str x tk0)] []) rfl]
  have c3 := PySem.F.called_set.notType
  have c4 := PySem.F.called_set.canCreate
  have c5 := PySem.F.typeCall_set_1 (.str x tk0)
  repeat (any_goals (first | assumption | wp_step))
  refine codeAny_mono (code_set_new_1 (.str x tk0) (E := E) (Q₁ := fun ob s₁ => ∃ led : Bool, ob = .ref s.heap.objs.size ∧ s₁ = { s with heap := s.heap.push { cls := .type "set", dict := none, data := .set #[] 0 (.fresh 0 0 led) } }) fun led => ⟨led, rfl, rfl⟩) fun r s₁ hr => ?_
  cases r with
  | error e => exact hr
  | ok fl =>
    cases fl with
    | ret ob =>
      obtain ⟨led, rfl, rfl⟩ := hr
      have hS : (s.heap.push { cls := .type "set", dict := none, data := .set #[] 0 (.fresh 0 0 led) }).get? s.heap.objs.size = some { cls := .type "set", dict := none, data := .set #[] 0 (.fresh 0 0 led) } := Heap.get?_push_size _ rfl
      have hT : Shared.TypeIs { s with heap := s.heap.push { cls := .type "set", dict := none, data := .set #[] 0 (.fresh 0 0 led) } } (.ref s.heap.objs.size) "set" := ⟨_, hS, rfl⟩
      have c6 := PySem.F.called_set.init.lookup
      have c7 := PySem.F.called_set.init.bind (.ref s.heap.objs.size)
      repeat (any_goals (first | assumption | wp_step))
      refine codeAny_mono (codeAny_call_builtin (R := wants (fun r s₂ => r = .none ∧ ∃ h' tk, s₂ = { s with heap := h', toks := tk } ∧ HeldS prog w h' s.heap.objs.size (fun i => ⟨#[x.cps.getD i 0]⟩) (x.cps.size) ∧
          (∀ b o, b < s.heap.objs.size → s.heap.get? b = some o → h'.get? b = some o)) E) PySem.F.called_set.init.plain PySem.F.entry_set_init (check_set_init_1 hT ?_)) fun r₂ s₂ hr₂ => ?_
      · have a1 := PySem.F.sub_str_set
        have a2 := PySem.F.sub_str_frozenset
        have a3 : (Value.type "str" == Value.type "dict") = false := by decide
        unfold Builtin.«set.__init__» noKeywords Builtin.Frozenset.updateFrom
        generalize hPI : pyIter = PI
        wp_walk
        subst hPI
        refine wpAny_pyIter_strU ?_
        refine wpAny_bind (wpAny_runValue ?_)
        have sf : s.heap.objs.size ∉ [(s.heap.push { cls := .type "set", dict := none, data := .set #[] 0 (.fresh 0 0 led) }).objs.size] := by
          rw [Heap.size_push]
          simp only [List.mem_cons, List.mem_singleton, List.not_mem_nil, or_false, not_or]
          exact Nat.ne_of_lt (Nat.lt_succ_self _)
        have h3 : A.in1.in1.in1.handled = none := by simp [hh]
        have sv : ∀ i v, SignAt x i v → ∃ t, v = .str ⟨#[x.cps.getD i 0]⟩ t := fun i v z => sign_at z
        have got : ∀ T, ((s.heap.push { cls := .type "set", dict := none, data := .set #[] 0 (.fresh 0 0 led) }).push { cls := .type T, data := .fields #[.str x tk0, .int 0 0] }).IsStrIter (s.heap.push { cls := .type "set", dict := none, data := .set #[] 0 (.fresh 0 0 led) }).objs.size T x tk0 0 := fun T => ⟨_, Heap.get?_push_size _ rfl, rfl, rfl⟩
        cases ha : x.cps.all (· < 128) with
        | false =>
          rw [show strIterType x = "str_iterator" by unfold strIterType; rw [ha]; rfl]
          refine set_loop ((Walks.strWide h3 _ x tk0).toS) s.heap.objs.size sf _ hn sv (x.cps.size - 0) 0 _ (by omega) (Nat.zero_le _) (got _) (PyProof.Rows.SetOf_congr ((PyProof.Rows.setObjOf_fresh (knd := PySem.strKind prog w) led).setOf (Heap.get?_push_of_some _ hS) (by unfold scanBound; omega)) (fun _ => rfl) rfl) ?hR
          case hR =>
            intro s' m H'
            obtain ⟨h', g', d', tk', os'⟩ := s'
            obtain rfl : g' = s.gens := m.gens
            obtain rfl : d' = s.drawn := m.drawn
            obtain rfl : os' = s.os := m.os
            show wpAny _ _ _ _ _ _
            refine wpAny_pure ?_
            show wpAny _ _ (ret Value.none) _ _ _
            refine wpAny_pure ⟨rfl, h', tk', rfl, H', fun b o hb e => ?_⟩
            have b1 : b ≠ s.heap.objs.size := Nat.ne_of_lt hb
            have b2 : b ≠ (s.heap.push { cls := .type "set", dict := none, data := .set #[] 0 (.fresh 0 0 led) }).objs.size := by
              rw [Heap.size_push]
              exact Nat.ne_of_lt (Nat.lt_succ_of_lt hb)
            exact m.heap b o (by simp only [List.mem_cons, List.mem_singleton, List.not_mem_nil, or_false, not_or]; exact ⟨b1, b2⟩) (Heap.get?_push_of_some _ (Heap.get?_push_of_some _ e))
        | true =>
          rw [show strIterType x = "str_ascii_iterator" by unfold strIterType; rw [ha]; rfl]
          refine set_loop ((Walks.strAscii h3 _ x tk0).toS) s.heap.objs.size sf _ hn sv (x.cps.size - 0) 0 _ (by omega) (Nat.zero_le _) (got _) (PyProof.Rows.SetOf_congr ((PyProof.Rows.setObjOf_fresh (knd := PySem.strKind prog w) led).setOf (Heap.get?_push_of_some _ hS) (by unfold scanBound; omega)) (fun _ => rfl) rfl) ?hR
          case hR =>
            intro s' m H'
            obtain ⟨h', g', d', tk', os'⟩ := s'
            obtain rfl : g' = s.gens := m.gens
            obtain rfl : d' = s.drawn := m.drawn
            obtain rfl : os' = s.os := m.os
            show wpAny _ _ _ _ _ _
            refine wpAny_pure ?_
            show wpAny _ _ (ret Value.none) _ _ _
            refine wpAny_pure ⟨rfl, h', tk', rfl, H', fun b o hb e => ?_⟩
            have b1 : b ≠ s.heap.objs.size := Nat.ne_of_lt hb
            have b2 : b ≠ (s.heap.push { cls := .type "set", dict := none, data := .set #[] 0 (.fresh 0 0 led) }).objs.size := by
              rw [Heap.size_push]
              exact Nat.ne_of_lt (Nat.lt_succ_of_lt hb)
            exact m.heap b o (by simp only [List.mem_cons, List.mem_singleton, List.not_mem_nil, or_false, not_or]; exact ⟨b1, b2⟩) (Heap.get?_push_of_some _ (Heap.get?_push_of_some _ e))

      · cases r₂ with
        | error e => exact hr₂
        | ok f2 =>
          cases f2 with
          | ret r =>
            obtain ⟨rfl, h', tk, rfl, H', k'⟩ := hr₂
            repeat (any_goals (first | assumption | wp_step))
            exact h _ _ H' k'
          | _ => exact hr₂.elim
    | _ => exact hr.elim
end
end L2.Jk

set_option Elab.async false
set_option linter.all false
set_option maxRecDepth 100000
set_option maxHeartbeats 8000000
namespace L2.Jk
open PySem PySem.W PySem.Spec PySem.Calls PyProof.Rows
section
variable {prog : Program} {w : World} {A : Around} {E : Value → Shared → Prop} {s : Shared}
set_option maxHeartbeats 8000000 in
theorem set_callList {l : Addr} {its : Array Value} {ks : Nat → Str} {Q : Value → Shared → Prop} (hh : A.handled = none) (hl : s.heap.IsList l its) (hk : ∀ i v, its[i]? = some v → ∃ t : Tok, v = Value.str (ks i) t) (hn : its.size + 1 < scanBound)
    (h : ∀ (h' : Heap) (tk : Nat), HeldS prog w h' s.heap.objs.size (ks) (its.size) → (∀ b o, b < s.heap.objs.size → s.heap.get? b = some o → h'.get? b = some o) → Q (.ref s.heap.objs.size) { s with heap := h', toks := tk }) :
    wpAny (model prog w) A (call (.type "set") [(.ref l)]) Q E s := by
  obtain ⟨c, tl, hmro⟩ := PySem.F.called_set.mro
  have c1 := PySem.F.called_set.made
  have c2 := PySem.F.called_set.sub
  refine wpAny_call (codeAny_of_tree ?_)
  show wpAny _ _ (callAny (.type "set") _) _ _ _
  refine wpAny_pure ⟨Code.quiet_builtin _ (by decide +kernel), codeAny_builtin PySem.F.entry_type_call ?_⟩
  rw [Around.under_plain (weight_type_call_type "set" [(.ref l)] []) rfl]
  have c3 := PySem.F.called_set.notType
  have c4 := PySem.F.called_set.canCreate
  have c5 := PySem.F.typeCall_set_1 (.ref l)
  repeat (any_goals (first | assumption | wp_step))
  refine codeAny_mono (code_set_new_1 (.ref l) (E := E) (Q₁ := fun ob s₁ => ∃ led : Bool, ob = .ref s.heap.objs.size ∧ s₁ = { s with heap := s.heap.push { cls := .type "set", dict := none, data := .set #[] 0 (.fresh 0 0 led) } }) fun led => ⟨led, rfl, rfl⟩) fun r s₁ hr => ?_
  cases r with
  | error e => exact hr
  | ok fl =>
    cases fl with
    | ret ob =>
      obtain ⟨led, rfl, rfl⟩ := hr
      have hS : (s.heap.push { cls := .type "set", dict := none, data := .set #[] 0 (.fresh 0 0 led) }).get? s.heap.objs.size = some { cls := .type "set", dict := none, data := .set #[] 0 (.fresh 0 0 led) } := Heap.get?_push_size _ rfl
      have hT : Shared.TypeIs { s with heap := s.heap.push { cls := .type "set", dict := none, data := .set #[] 0 (.fresh 0 0 led) } } (.ref s.heap.objs.size) "set" := ⟨_, hS, rfl⟩
      have c6 := PySem.F.called_set.init.lookup
      have c7 := PySem.F.called_set.init.bind (.ref s.heap.objs.size)
      repeat (any_goals (first | assumption | wp_step))
      refine codeAny_mono (codeAny_call_builtin (R := wants (fun r s₂ => r = .none ∧ ∃ h' tk, s₂ = { s with heap := h', toks := tk } ∧ HeldS prog w h' s.heap.objs.size (ks) (its.size) ∧
          (∀ b o, b < s.heap.objs.size → s.heap.get? b = some o → h'.get? b = some o)) E) PySem.F.called_set.init.plain PySem.F.entry_set_init (check_set_init_1 hT ?_)) fun r₂ s₂ hr₂ => ?_
      · obtain ⟨⟨oc, od, odt, osl⟩, hol, hcl, nl, hdl⟩ := id hl
        dsimp only at hcl hdl
        subst hcl; subst hdl
        have old := Heap.get?_push_of_some ({ cls := .type "set", dict := none, data := .set #[] 0 (.fresh 0 0 led) } : Obj) hol
        have a1 := PySem.F.sub_list_set
        have a2 := PySem.F.sub_list_frozenset
        have a3 : (Value.type "list" == Value.type "dict") = false := by decide
        have hl1 : (s.heap.push { cls := .type "set", dict := none, data := .set #[] 0 (.fresh 0 0 led) }).IsList l its := ⟨_, old, rfl, nl, rfl⟩
        unfold Builtin.«set.__init__» noKeywords Builtin.Frozenset.updateFrom
        generalize hPI : pyIter = PI
        wp_walk
        subst hPI
        refine wpAny_pyIter_list hl1 ?_
        refine wpAny_bind (wpAny_runValue ?_)
        have h3 : A.in1.in1.in1.handled = none := by simp [hh]
        have nI : l ≠ (s.heap.push { cls := .type "set", dict := none, data := .set #[] 0 (.fresh 0 0 led) }).objs.size := by
          rw [Heap.size_push]
          exact Nat.ne_of_lt (Nat.lt_succ_of_lt (Heap.lt_size hol))
        have sf : s.heap.objs.size ∉ [(s.heap.push { cls := .type "set", dict := none, data := .set #[] 0 (.fresh 0 0 led) }).objs.size, l] := by
          rw [Heap.size_push]
          simp only [List.mem_cons, List.mem_singleton, List.not_mem_nil, or_false, not_or]
          exact ⟨Nat.ne_of_lt (Nat.lt_succ_self _), Nat.ne_of_gt (Heap.lt_size hol)⟩
        refine set_loop ((Walks.list h3 _ l nI its).toS) s.heap.objs.size sf ks hn (fun i v z => hk i v z) (its.size - 0) 0 _ (by omega) (Nat.zero_le _) ⟨⟨_, Heap.get?_push_size _ rfl, rfl, rfl⟩, (hl1.push _)⟩ (PyProof.Rows.SetOf_congr ((PyProof.Rows.setObjOf_fresh (knd := PySem.strKind prog w) led).setOf (Heap.get?_push_of_some _ hS) (by unfold scanBound; omega)) (fun _ => rfl) rfl) ?hR
        case hR =>
          intro s' m H'
          obtain ⟨h', g', d', tk', os'⟩ := s'
          obtain rfl : g' = s.gens := m.gens
          obtain rfl : d' = s.drawn := m.drawn
          obtain rfl : os' = s.os := m.os
          show wpAny _ _ _ _ _ _
          refine wpAny_pure ?_
          show wpAny _ _ (ret Value.none) _ _ _
          refine wpAny_pure ⟨rfl, h', tk', rfl, H', fun b o hb e => ?_⟩
          have b1 : b ≠ s.heap.objs.size := Nat.ne_of_lt hb
          have b2 : b ≠ (s.heap.push { cls := .type "set", dict := none, data := .set #[] 0 (.fresh 0 0 led) }).objs.size := by
            rw [Heap.size_push]
            exact Nat.ne_of_lt (Nat.lt_succ_of_lt hb)
          exact m.heap b o (by simp only [List.mem_cons, List.mem_singleton, List.not_mem_nil, or_false, not_or]; exact ⟨b1, b2⟩) (Heap.get?_push_of_some _ (Heap.get?_push_of_some _ e))

      · cases r₂ with
        | error e => exact hr₂
        | ok f2 =>
          cases f2 with
          | ret r =>
            obtain ⟨rfl, h', tk, rfl, H', k'⟩ := hr₂
            repeat (any_goals (first | assumption | wp_step))
            exact h _ _ H' k'
          | _ => exact hr₂.elim
    | _ => exact hr.elim
end
end L2.Jk

set_option Elab.async false
set_option linter.all false
set_option maxRecDepth 100000
set_option maxHeartbeats 8000000
namespace L2.Jk
open PySem PySem.W PySem.Spec PySem.Calls PyProof.Rows
section
variable {prog : Program} {w : World} {A : Around} {E : Value → Shared → Prop} {s : Shared}
set_option maxHeartbeats 8000000 in
theorem set_callTup {l : Addr} {its : Array Value} {ks : Nat → Str} {Q : Value → Shared → Prop} (hh : A.handled = none) (hl : s.heap.IsTuple l its) (hk : ∀ i v, its[i]? = some v → ∃ t : Tok, v = Value.str (ks i) t) (hn : its.size + 1 < scanBound)
    (h : ∀ (h' : Heap) (tk : Nat), HeldS prog w h' s.heap.objs.size (ks) (its.size) → (∀ b o, b < s.heap.objs.size → s.heap.get? b = some o → h'.get? b = some o) → Q (.ref s.heap.objs.size) { s with heap := h', toks := tk }) :
    wpAny (model prog w) A (call (.type "set") [(.ref l)]) Q E s := by
  obtain ⟨c, tl, hmro⟩ := PySem.F.called_set.mro
  have c1 := PySem.F.called_set.made
  have c2 := PySem.F.called_set.sub
  refine wpAny_call (codeAny_of_tree ?_)
  show wpAny _ _ (callAny (.type "set") _) _ _ _
  refine wpAny_pure ⟨Code.quiet_builtin _ (by decide +kernel), codeAny_builtin PySem.F.entry_type_call ?_⟩
  rw [Around.under_plain (weight_type_call_type "set" [(.ref l)] []) rfl]
  have c3 := PySem.F.called_set.notType
  have c4 := PySem.F.called_set.canCreate
  have c5 := PySem.F.typeCall_set_1 (.ref l)
  repeat (any_goals (first | assumption | wp_step))
  refine codeAny_mono (code_set_new_1 (.ref l) (E := E) (Q₁ := fun ob s₁ => ∃ led : Bool, ob = .ref s.heap.objs.size ∧ s₁ = { s with heap := s.heap.push { cls := .type "set", dict := none, data := .set #[] 0 (.fresh 0 0 led) } }) fun led => ⟨led, rfl, rfl⟩) fun r s₁ hr => ?_
  cases r with
  | error e => exact hr
  | ok fl =>
    cases fl with
    | ret ob =>
      obtain ⟨led, rfl, rfl⟩ := hr
      have hS : (s.heap.push { cls := .type "set", dict := none, data := .set #[] 0 (.fresh 0 0 led) }).get? s.heap.objs.size = some { cls := .type "set", dict := none, data := .set #[] 0 (.fresh 0 0 led) } := Heap.get?_push_size _ rfl
      have hT : Shared.TypeIs { s with heap := s.heap.push { cls := .type "set", dict := none, data := .set #[] 0 (.fresh 0 0 led) } } (.ref s.heap.objs.size) "set" := ⟨_, hS, rfl⟩
      have c6 := PySem.F.called_set.init.lookup
      have c7 := PySem.F.called_set.init.bind (.ref s.heap.objs.size)
      repeat (any_goals (first | assumption | wp_step))
      refine codeAny_mono (codeAny_call_builtin (R := wants (fun r s₂ => r = .none ∧ ∃ h' tk, s₂ = { s with heap := h', toks := tk } ∧ HeldS prog w h' s.heap.objs.size (ks) (its.size) ∧
          (∀ b o, b < s.heap.objs.size → s.heap.get? b = some o → h'.get? b = some o)) E) PySem.F.called_set.init.plain PySem.F.entry_set_init (check_set_init_1 hT ?_)) fun r₂ s₂ hr₂ => ?_
      · obtain ⟨⟨oc, od, odt, osl⟩, hol, hcl, nl, hdl⟩ := id hl
        dsimp only at hcl hdl
        subst hcl; subst hdl
        have old := Heap.get?_push_of_some ({ cls := .type "set", dict := none, data := .set #[] 0 (.fresh 0 0 led) } : Obj) hol
        have a1 := PySem.F.sub_tuple_set
        have a2 := PySem.F.sub_tuple_frozenset
        have a3 : (Value.type "tuple" == Value.type "dict") = false := by decide
        have hl1 : (s.heap.push { cls := .type "set", dict := none, data := .set #[] 0 (.fresh 0 0 led) }).IsTuple l its := ⟨_, old, rfl, nl, rfl⟩
        unfold Builtin.«set.__init__» noKeywords Builtin.Frozenset.updateFrom
        generalize hPI : pyIter = PI
        wp_walk
        subst hPI
        refine wpAny_pyIter_tuple hl1 ?_
        refine wpAny_bind (wpAny_runValue ?_)
        have h3 : A.in1.in1.in1.handled = none := by simp [hh]
        have nI : l ≠ (s.heap.push { cls := .type "set", dict := none, data := .set #[] 0 (.fresh 0 0 led) }).objs.size := by
          rw [Heap.size_push]
          exact Nat.ne_of_lt (Nat.lt_succ_of_lt (Heap.lt_size hol))
        have sf : s.heap.objs.size ∉ [(s.heap.push { cls := .type "set", dict := none, data := .set #[] 0 (.fresh 0 0 led) }).objs.size, l] := by
          rw [Heap.size_push]
          simp only [List.mem_cons, List.mem_singleton, List.not_mem_nil, or_false, not_or]
          exact ⟨Nat.ne_of_lt (Nat.lt_succ_self _), Nat.ne_of_gt (Heap.lt_size hol)⟩
        refine set_loop ((Walks.tuple h3 _ l nI its).toS) s.heap.objs.size sf ks hn (fun i v z => hk i v z) (its.size - 0) 0 _ (by omega) (Nat.zero_le _) ⟨⟨_, Heap.get?_push_size _ rfl, rfl, rfl⟩, (hl1.push _)⟩ (PyProof.Rows.SetOf_congr ((PyProof.Rows.setObjOf_fresh (knd := PySem.strKind prog w) led).setOf (Heap.get?_push_of_some _ hS) (by unfold scanBound; omega)) (fun _ => rfl) rfl) ?hR
        case hR =>
          intro s' m H'
          obtain ⟨h', g', d', tk', os'⟩ := s'
          obtain rfl : g' = s.gens := m.gens
          obtain rfl : d' = s.drawn := m.drawn
          obtain rfl : os' = s.os := m.os
          show wpAny _ _ _ _ _ _
          refine wpAny_pure ?_
          show wpAny _ _ (ret Value.none) _ _ _
          refine wpAny_pure ⟨rfl, h', tk', rfl, H', fun b o hb e => ?_⟩
          have b1 : b ≠ s.heap.objs.size := Nat.ne_of_lt hb
          have b2 : b ≠ (s.heap.push { cls := .type "set", dict := none, data := .set #[] 0 (.fresh 0 0 led) }).objs.size := by
            rw [Heap.size_push]
            exact Nat.ne_of_lt (Nat.lt_succ_of_lt hb)
          exact m.heap b o (by simp only [List.mem_cons, List.mem_singleton, List.not_mem_nil, or_false, not_or]; exact ⟨b1, b2⟩) (Heap.get?_push_of_some _ (Heap.get?_push_of_some _ e))

      · cases r₂ with
        | error e => exact hr₂
        | ok f2 =>
          cases f2 with
          | ret r =>
            obtain ⟨rfl, h', tk, rfl, H', k'⟩ := hr₂
            repeat (any_goals (first | assumption | wp_step))
            exact h _ _ H' k'
          | _ => exact hr₂.elim
    | _ => exact hr.elim
end
end L2.Jk

set_option Elab.async false
set_option linter.all false
set_option maxRecDepth 100000
set_option maxHeartbeats 4000000
/-! != of two tuples that are equal item by item, instances with an own __eq__ among the items. -/
namespace L2.Jk
open PySem PySem.W PySem.Spec PySem.Calls PyProof.Rows PySem.SeqAt
open AutoSeq1 (wpAny_loadPart')

section
variable {prog : Program} {w : World} {A : Around} {R : Result → Shared → Prop} {E : Value → Shared → Prop} {s : Shared}
theorem tup_ne_same (l b : Addr) (its jts : Array Value) (n n2 : Nat) (dd dd2 : Option Addr) (sl sl2 : Array (Option Value)) (hsz : its.size = jts.size) (J : Nat → Shared → Prop)
    (turn : ∀ i (h1 : i < its.size) (h2 : i < jts.size) s, J i s → wpAny (model prog w) A.in1 (eqBool its[i] jts[i]) (fun r s' => r = true ∧ J (i + 1) s') (fun e s' => R (.error e) s') s)
    (fin : ∀ s, J its.size s → R (.ok (.ret (.bool false))) s) (hl : s.heap.get? l = some { cls := .type "tuple", dict := dd, data := .seq its n, slots := sl }) (hb : s.heap.get? b = some { cls := .type "tuple", dict := dd2, data := .seq jts n2, slots := sl2 })
    (h : J 0 s) : wpAny (model prog w) A.in1 (Builtin.«tuple.__ne__» ⟨[.ref l, .ref b], []⟩) (GQ.FinOf prog w A R) (fun e s' => R (.error e) s') s := by
  have f2 := AutoSeq1.sub_tuple_tuple
  have len : (its.toList.zip jts.toList).length = its.size := by simp [hsz]
  have h0 := h
  obtain ⟨hp, g, d, tk, os⟩ := s
  wp_walk using wpAny_loadPart' hl, wpAny_loadPart' hb, wpAny_forIn_list _ (fun rest b s' => b.1 = none ∧ ∃ i, rest = (its.toList.zip jts.toList).drop i ∧ i ≤ its.size ∧ J i s') _
  case turn =>
    rintro ⟨y, x⟩ rest b s' ⟨hb', i, hz, hi, hJ⟩
    have lt : i < (its.toList.zip jts.toList).length := by
      refine Nat.lt_of_not_le fun z => ?_
      rw [List.drop_of_length_le z] at hz
      cases hz
    have h1 : i < its.size := len ▸ lt
    have h2 : i < jts.size := hsz ▸ h1
    rw [List.drop_eq_getElem_cons lt] at hz
    obtain ⟨e1, e2⟩ := List.cons.inj hz
    obtain rfl : y = its[i] := by simpa using congrArg Prod.fst e1
    obtain rfl : x = jts[i] := by simpa using congrArg Prod.snd e1
    refine wpAny_bind (wpAny_mono (turn i h1 h2 s' hJ) (fun r s2 q2 => ?_) fun _ _ x => x)
    obtain ⟨rfl, q2⟩ := q2
    wp_walk
    exact ⟨rfl, i + 1, e2, h1, q2⟩
  case fin =>
    rintro ⟨b1, b2⟩ s' ⟨hb', i, hz, hi, hJ⟩
    dsimp only at hb'
    subst hb'
    have ge : its.size ≤ i := by
      refine Nat.le_of_not_lt fun z => ?_
      rw [List.drop_eq_getElem_cons (by rw [len]; exact z)] at hz
      cases hz
    obtain rfl : i = its.size := by omega
    have hR := fin s' hJ
    wp_walk
    simpa [Builtin.Tuple.tupleCompareSizes, hsz] using hR
  case h => exact ⟨rfl, 0, rfl, Nat.zero_le _, h0⟩
theorem tup_ne_rich {l b : Addr} {its jts : Array Value} {Q : Value → Shared → Prop} (hsz : its.size = jts.size) (hu : A.units < cLine) (J : Nat → Shared → Prop) (hl : s.heap.IsTuple l its) (hb : s.heap.IsTuple b jts)
    (turn : ∀ i (h1 : i < its.size) (h2 : i < jts.size) s, J i s → wpAny (model prog w) A.in1 (eqBool its[i] jts[i]) (fun r s' => r = true ∧ J (i + 1) s') E s)
    (fin : ∀ s, J its.size s → Q (.bool false) s) (h : J 0 s) : wpAny (model prog w) A (richCompare .NotEq (.ref l) (.ref b)) Q E s := by
  obtain ⟨⟨c1, d1, t1, s1⟩, g1, k1, n1, e1⟩ := id hl
  obtain ⟨⟨c2, d2, t2, s2⟩, g2, k2, n2, e2⟩ := id hb
  dsimp only at k1 e1 k2 e2
  subst k1 e1 k2 e2
  refine wpAny_richCompare_same_room (op := .NotEq) ⟨_, g1, rfl⟩ ⟨_, g2, rfl⟩ PySem.F.slot_tuple_ne (GQ.call_here PySem.F.slot_tuple_ne ⟨_, g1, rfl⟩ PySem.F.entry_tuple_ne (PySem.F.args_tuple_ne_2 _ _) ?_) hu
  exact tup_ne_same (R := wants (fun v s' => v ≠ .notImplemented ∧ Q v s') E) l b its jts n1 n2 d1 d2 s1 s2 hsz J turn (fun s' q => ⟨(fun x => nomatch x), fin s' q⟩) g1 g2 h
end
section
variable {X : Cx} {n : Nat} {D : Eqv}
/-- t != u of two tuples whose items D says to be equal -/
def rNeT (X : Cx) (D : Eqv) : R2 := fun x y H Q => DTup X.K D x y H ∧ ∀ H', Same H H' → Q (.bl false) H'
theorem op_neT (hD : Mon D) (h : EqG X n D) (hr : Room (n + 1) X.A) : OpR X (compareOp .NotEq) (rNeT X D) := by
  intro pins s σ H x y v u Q I rx ry hq
  obtain ⟨⟨a, b, xs, ys, rfl, rfl, ha, hb, p⟩, q⟩ := hq
  cases rx
  cases ry
  obtain ⟨its, r, e, z⟩ := I.tuple ha
  obtain ⟨jts, r2, e2, z2⟩ := I.tuple hb
  have hsz : its.toArray.size = jts.toArray.size := by rw [List.size_toArray, List.size_toArray, ← r.length, ← r2.length]; exact p.1
  show wpAny (model X.prog X.w) X.A (richCompare .NotEq (.ref a) (.ref b)) (EP X pins σ Q) X.xe s
  refine tup_ne_rich hsz hr.units0 (fun _ s' => LoopI X pins σ H s') e e2 (fun i h1 h2 s' k => turnG hD h ⟨hr, rfl⟩ p r r2 i h1 h2 s' k) (fun s' k => ?_) ⟨H, I, Ext.rfl'⟩
  obtain ⟨H', I', x⟩ := k
  exact ⟨.bl false, H', I', rfl, q H' x⟩
end
end L2.Jk

set_option Elab.async false
set_option linter.all false
set_option maxRecDepth 100000
set_option maxHeartbeats 4000000
/-! ''.join(reversed(xs)), list(text), len(set(..)), type(x) is type(y). -/
namespace L2.Jk
open PySem PySem.W PySem.Spec PySem.Calls PyProof.Rows

theorem paired_of {α β : Type} {F : α → β → Prop} : ∀ {xs : List α} {ys : List β}, xs.length = ys.length → (∀ (i : Nat) x y, xs[i]? = some x → ys[i]? = some y → F x y) → Paired F xs ys
  | [], [], _, _ => .nil
  | [], _ :: _, e, _ => by cases e
  | _ :: _, [], e, _ => by cases e
  | x :: xs, y :: ys, e, h => .cons (h 0 x y rfl rfl) (paired_of (Nat.succ.inj e) fun i a b h1 h2 => h (i + 1) a b h1 h2)
section
variable {X : Cx}
/-! ### list(text) -/
/-- its signs, one text each -/
def signsV (z : Str) : List V := (List.range z.cps.size).map fun i => V.str ⟨#[z.cps.getD i 0]⟩
theorem call_listStr (hc : X.calm = true) : CallR X (.type "list") (fun xs H Q => ∃ z : Str, xs = [.str z] ∧ z.cps.size ≤ 1000 ∧ ∀ p H', H p = none → Same H H' → H' p = some (.lst (signsV z)) → Q (.ref p) H') := by
  intro pins s σ H xs us Q I r h
  obtain ⟨z, rfl, hz, q⟩ := h
  obtain ⟨u, rfl, t, rfl⟩ := vals1 r
  have hz' : z.cps.size ≤ sizeLine := by rw [sizeLine_eq]; omega
  refine call_list_str (I.ok.hd hc) z t (fun h' tk acc c k hp ha => ?_) hz'
  obtain ⟨al, ai⟩ := ha
  have vs : Vals (signsV z) acc.toList := by
    refine paired_of (show (signsV z).length = acc.toList.length by
      have e : acc.toList.length = acc.size := Array.length_toList
      rw [e, al]
      simp [signsV]) fun i x v hx hv => ?_
    have hi : i < z.cps.size := by
      have := (List.getElem?_eq_some_iff.mp hx).1
      simpa [signsV] using this
    obtain ⟨t', e⟩ := sign_at (ai i v (by rw [← Array.getElem?_toList]; exact hv))
    subst e
    have e2 : x = V.str ⟨#[z.cps.getD i 0]⟩ := by
      unfold signsV at hx
      rw [List.getElem?_map, List.getElem?_range hi] at hx
      exact (Option.some.inj hx).symm
    subst e2
    exact ⟨t', rfl⟩
  have n := I.fresh
  refine ⟨.ref s.heap.objs.size, _, I.laid (t' := tk) (h' := h') (o := .lst (signsV z)) k (Nat.le_refl _) ⟨?_, acc.toList, c, vs, by simpa using hp⟩, rfl, q _ _ n (same_upd n) upd_same⟩
  simp only [signsV, List.length_map, List.length_range]
  exact hz'
/-! ### len(set(..)) -/
def tLenSetStr (te : TE) : TE := fun σ H Q => te σ H fun x H1 => ∃ z : Str, x = .str z ∧ z.cps.size ≤ 4000 ∧ Q (.int (newS (fun i => ⟨#[z.cps.getD i 0]⟩) z.cps.size : Nat)) H1
theorem held_len {h : Heap} {S : Addr} {ks : Nat → Str} {i : Nat} {A : Around} {E : Value → Shared → Prop} {Q : Value → Shared → Prop} {s : Shared} (H : HeldS X.prog X.w s.heap S ks i) (hi : i ≤ 4000)
    (q : ∀ tk, Q (.int (newS ks i : Nat) tk) { s with toks := tk + 1 }) : wpAny (model X.prog X.w) A (call (.builtin "len") [.ref S]) Q E s := by
  have few := newS_le ks i
  obtain ⟨o, es, ep, t, ho, hex, hd, _, _, _, hf, hn⟩ := H
  exact call_len_set ho hex hd hf (by rw [hn]; omega) (by rw [hn]; exact q _)
theorem pe_lenSetStr {a : Expr} {ta : TE} {p p2 q pos : Pos} (hc : X.calm = true) (hg : Gl X "len") (hm : X.mg "len" = none) (hg2 : Gl X "set") (hm2 : X.mg "set" = none) (ha : PE X a ta)
    (na : starEach [a] X.env = (false, eval a X.env) :: starEach [] X.env := by rfl) : PE X (.Call (.Name "len" p) [.Call (.Name "set" p2) [a] [] q] [] pos) (tLenSetStr ta) := by
  constructor
  intro pins s σ H Q I h
  refine Call_ (ld_blt I hg hm boot_len (PyProof.Rows.callWith_builtin1 (PyProof.Rows.args_cons ?_ rfl) rfl rfl))
  refine Call_ (ld_blt I hg2 hm2 boot_set (PyProof.Rows.callWith_type1 (PyProof.Rows.args_cons (thn (ha.run pins s σ H _ I h) fun v s1 ⟨x, H1, I1, r1, z, ex, hz, q1⟩ => PyProof.Rows.args_nil ?_) na) na rfl))
  subst ex
  obtain ⟨t, rfl⟩ := r1
  refine set_callStr (I1.ok.hd hc) (by unfold scanBound; omega) fun h' tk hS hk => PyProof.Rows.args_nil ?_
  have I2 : Inv X pins σ H1 { s1 with heap := h', toks := tk } := I1.kept fun b o e => hk b o (Heap.lt_size e) e
  exact held_len (h := h') (s := { s1 with heap := h', toks := tk }) hS hz fun tk' => ⟨.int _, H1, I2.tok _, ⟨_, rfl⟩, q1⟩
/-- .. of a list or a tuple of texts -/
def tLenSetSeq (K : Frag) (te : TE) : TE := fun σ H Q => te σ H fun x H1 => ∃ (l : Addr) (ys : List Str), x = .ref l ∧ (SqL K H1 l (ys.map V.str) ∨ SqT K H1 l (ys.map V.str)) ∧ ys.length ≤ 4000 ∧ Q (.int (newS (fun i => ys.getD i Str.empty) ys.length : Nat)) H1
theorem strs_get {ys : List Str} {us : List Value} (r : Vals (ys.map V.str) us) (i : Nat) (v : Value) (h : us.toArray[i]? = some v) : ∃ t : Tok, v = Value.str (ys.getD i Str.empty) t := by
  have h' : us[i]? = some v := by simpa using h
  have lt : i < ys.length := by
    have := (List.getElem?_eq_some_iff.mp h').1
    rw [← r.length, List.length_map] at this
    exact this
  obtain ⟨u, hu, ru⟩ := r.get (i := i) (x := V.str (ys.getD i Str.empty)) (by rw [List.getElem?_map, List.getElem?_eq_getElem lt, List.getD_eq_getElem?_getD, List.getElem?_eq_getElem lt]; rfl)
  rw [h'] at hu
  cases hu
  exact ru
theorem pe_lenSetSeq {a : Expr} {ta : TE} {p p2 q pos : Pos} (hc : X.calm = true) (hg : Gl X "len") (hm : X.mg "len" = none) (hg2 : Gl X "set") (hm2 : X.mg "set" = none) (ha : PE X a ta)
    (na : starEach [a] X.env = (false, eval a X.env) :: starEach [] X.env := by rfl) : PE X (.Call (.Name "len" p) [.Call (.Name "set" p2) [a] [] q] [] pos) (tLenSetSeq X.K ta) := by
  constructor
  intro pins s σ H Q I h
  refine Call_ (ld_blt I hg hm boot_len (PyProof.Rows.callWith_builtin1 (PyProof.Rows.args_cons ?_ rfl) rfl rfl))
  refine Call_ (ld_blt I hg2 hm2 boot_set (PyProof.Rows.callWith_type1 (PyProof.Rows.args_cons (thn (ha.run pins s σ H _ I h) fun v s1 ⟨x, H1, I1, r1, l, ys, ex, hq, hz, q1⟩ => PyProof.Rows.args_nil ?_) na) na rfl))
  subst ex
  cases r1
  have fin : ∀ (its : List Value), Vals (ys.map V.str) its → ∀ (h' : Heap) (tk : Nat), HeldS X.prog X.w h' s1.heap.objs.size (fun i => ys.getD i Str.empty) its.toArray.size → (∀ b o, b < s1.heap.objs.size → s1.heap.get? b = some o → h'.get? b = some o) →
      wpAny (model X.prog X.w) X.A (spliced (backTo pos (starEach [] X.env))) (fun vs s₂ => wpAny (model X.prog X.w) X.A (call (.builtin "len") (Value.ref s1.heap.objs.size :: vs)) (EP X pins σ Q) X.xe s₂) X.xe { s1 with heap := h', toks := tk } := fun its r h' tk hS hk => by
    have hl : its.toArray.size = ys.length := by rw [List.size_toArray, ← r.length, List.length_map]
    rw [hl] at hS
    have I2 : Inv X pins σ H1 { s1 with heap := h', toks := tk } := I1.kept fun b o e => hk b o (Heap.lt_size e) e
    exact PyProof.Rows.args_nil (held_len (h := h') (s := { s1 with heap := h', toks := tk }) hS hz fun tk' => ⟨.int _, H1, I2.tok _, ⟨_, rfl⟩, q1⟩)
  rcases hq with hq | hq
  · obtain ⟨its, r, pl, _⟩ := I1.list hq
    have hl : its.toArray.size = ys.length := by rw [List.size_toArray, ← r.length, List.length_map]
    exact set_callList (I1.ok.hd hc) pl.isList (strs_get r) (by unfold scanBound; omega) fun h' tk hS hk => fin its r h' tk hS hk
  · obtain ⟨its, r, pl, _⟩ := I1.tuple hq
    have hl : its.toArray.size = ys.length := by rw [List.size_toArray, ← r.length, List.length_map]
    exact set_callTup (I1.ok.hd hc) pl (strs_get r) (by unfold scanBound; omega) fun h' tk hS hk => fin its r h' tk hS hk
/-! ### type(x) is type(y) -/
def rTyA (X : Cx) : List V → Hp → VK → Prop := fun xs H Q => ∃ x, xs = [x] ∧ ((∃ a C dx fs, x = .ref a ∧ H a = some (.ins C dx fs) ∧ Q (.ref C) H) ∨ ∃ T, RZ.Ty4 H x T ∧ Q (.ty T) H)
theorem call_tyA : CallR X (.type "type") (rTyA X) := by
  intro pins s σ H xs us Q I r h
  obtain ⟨x, rfl, h | h⟩ := h
  · obtain ⟨a, C, dx, fs, rfl, ha, q⟩ := h
    exact cr_type pins s σ H _ us Q I r ⟨a, C, dx, fs, rfl, ha, q⟩
  · obtain ⟨T, t, q⟩ := h
    exact RZ.call_type4 pins s σ H _ us Q I r ⟨x, T, rfl, t, q⟩
def rIsA (X : Cx) : R2 := fun x y H Q => ∃ a, x = .ref a ∧ ((∃ b, y = .ref b ∧ (a = b ∨ (makesIn X.K a = true ∧ makesIn X.K b = true)) ∧ Q (.bl (decide (a = b))) H) ∨ ∃ T, y = .ty T ∧ Q (.bl false) H)
theorem op_isA : OpR X (compareOp .Is) (rIsA X) := by
  intro pins s σ H x y v u Q I rx ry h
  obtain ⟨a, rfl, h | h⟩ := h
  · obtain ⟨b, rfl, hab, q⟩ := h
    exact op_is_cls pins s σ H _ _ v u Q I rx ry ⟨a, b, rfl, rfl, hab, q⟩
  · obtain ⟨T, rfl, q⟩ := h
    cases rx
    cases ry
    show wpAny _ _ (do return Value.bool (← isSame (.ref a) (.type T))) _ _ _
    exact wpAny_bind (wpAny_of_eq (a := false) rfl (wpAny_pure ⟨.bl false, H, I, rfl, q⟩))
/-! ### ''.join(reversed(xs)) -/
def tJoinRev (K : Frag) (to te : TE) : TE := fun σ H Q => to σ H fun o H0 => ∃ z : Str, o = .str z ∧ te σ H0 fun v H1 => ∃ (a : Addr) (ys : List Str), v = .ref a ∧ SqL K H1 a (ys.map V.str) ∧ JoinOk z ys.reverse = true ∧ Q (.str (Txt.join z ys.reverse)) H1
theorem strs_pairs : ∀ {ys : List Str} {us : List Value}, Vals (ys.map V.str) us → ∃ l : List (Str × Tok), strValues l = us ∧ l.map (·.1) = ys
  | [], _, .nil => ⟨[], rfl, rfl⟩
  | y :: ys, _, .cons r t => by
    obtain ⟨k, rfl⟩ := r
    obtain ⟨l, e1, e2⟩ := strs_pairs t
    exact ⟨(y, k) :: l, by rw [← e1]; rfl, by rw [← e2]; rfl⟩
theorem joined_tail (z : Str) : ∀ l : List (Str × Tok), Builtin.Str.tooLong ((l.map (·.1)).toArray.foldl (· + ·.length + z.length) 0) = false → Gives (joinTail z (strValues l)) (joinMade z l)
  | [], h => gives_joinTail z [] h
  | [p], h => gives_joinTail z [p] h
  | p :: q :: r, h => gives_joinTail z (p :: q :: r) h
theorem pe_joinRev {o e : Expr} {to te : TE} {apos p2 pos2 cpos : Pos} (hc : X.calm = true) (hg2 : Gl X "reversed") (hm2 : X.mg "reversed" = none) (ho : PE X o to) (he : PE X e te)
    (hbase : attributeBase o "join" X.env (eval o X.env) = eval o X.env := by rfl)
    (hfew : ((backTo cpos (starEach [Expr.Call (.Name "reversed" p2) [e] [] pos2] X.env)).all (fun x => !x.1) && (backToKw cpos (keywordEach [] X.env)).all (fun x => x.1.isSome)
      && decide ([Expr.Call (.Name "reversed" p2) [e] [] pos2].length + ([] : List Keyword).length + (if ([] : List Keyword).isEmpty then 0 else 1) < 30)) = true := by rfl)
    (hline : (apos.endLine == cpos.line) = true := by rfl) (hs : starEach [e] X.env = (false, eval e X.env) :: starEach [] X.env := by rfl)
    (hs2 : starEach [Expr.Call (.Name "reversed" p2) [e] [] pos2] X.env = (false, eval (.Call (.Name "reversed" p2) [e] [] pos2) X.env) :: starEach [] X.env := by rfl) :
    PE X (.Call (.Attribute o "join" apos) [.Call (.Name "reversed" p2) [e] [] pos2] [] cpos) (tJoinRev X.K to te) := by
  constructor
  intro pins s σ H Q I h
  refine wpAny_Call_method_late hbase hfew hline rfl (thn (ho.run pins s σ H _ I h) fun v s1 ⟨x, H0, I0, r0, z, ex, q0⟩ => ?_)
  subst ex
  obtain ⟨t, rfl⟩ := r0
  refine ⟨"str", "str.join", PySem.F.plainAttrs_str, PySem.F.slot_str_join, PySem.F.type_str_join, typeIs_str _ _ _, (fun a e => nomatch e), ?_⟩
  refine Calls.callWith_builtin (by rw [hs2]; rfl) ?_
  rw [hs2]
  refine Calls.evalArgs_plain (Calls.spliced_cons ?_)
  refine Call_ (ld_blt I0 hg2 hm2 PyProof.Rows.boot_reversed (PyProof.Rows.callWith_type1 (PyProof.Rows.args_cons (thn (he.run pins s1 σ H0 _ I0 q0) fun u s2 ⟨y, H1, I1, r1, a, ys, ey, hq, ok, q1⟩ => PyProof.Rows.args_nil ?_) hs) hs rfl))
  subst ey
  obtain rfl : u = Value.ref a := r1
  obtain ⟨its, rv, pl, hz⟩ := I1.list hq
  refine call_reversed_list pl.isList (Calls.spliced_nil ?_)
  have k0 : ∀ b o, s2.heap.get? b = some o → (s2.heap.push (revObj a ((its.toArray.size : Int) - 1))).get? b = some o := fun b o e => Heap.get?_push_of_some _ e
  have I2 : Inv X pins σ H1 { s2 with heap := s2.heap.push (revObj a ((its.toArray.size : Int) - 1)) } := I1.kept (t' := s2.toks) k0
  obtain ⟨f0, f1, f2, f3, f4, f5⟩ := I1.fpOk (H' := H1) (b := s2.heap.objs.size) (Nat.le_refl _) (I1.hok.fresh (Nat.le_refl _))
  have hl := pl.isList
  obtain ⟨ol, hol, _⟩ := id hl
  have ne : a ≠ s2.heap.objs.size := Nat.ne_of_lt (Heap.lt_size hol)
  have sm : its.toArray.size ≤ sizeLine := by rw [List.size_toArray, ← rv.length]; exact hz
  have hit : (s2.heap.push (revObj a ((its.toArray.size : Int) - 1))).IsRevIter s2.heap.objs.size a ((its.toArray.size : Int) - 1) := ⟨_, Heap.get?_push_size _ rfl, rfl, rfl⟩
  refine wpAny_call (codeAny_call_builtin F.slot_str_join.plain F.entry_str_join (F.slot_str_join.check _ _ _ _ _ _ _ _ (typeIs_str _ _ _) (F.args_str_join_2 _ _) ?_))
  show wpAny _ _ (Builtin.«str.join» ⟨[.str z t, .ref s2.heap.objs.size], []⟩) _ _ _
  rw [join_tree_other]
  refine wpAny_bind (wpAny_typeOf hit.typeIs ?_)
  show wpAny _ X.A.in1 ((pyIter (.ref s2.heap.objs.size)).tryCatch _ >>= fun it => collect it >>= fun items => joinTail z items) _ _ _
  refine wpAny_bind (wpAny_tryCatch (wpAny_pyIter_revIter hit ?_))
  refine wpAny_bind (RT.collect_rev (I1.ok.hd hc) hit (hl.push _) ne sm fun h' tk acc hk hi => ?_)
  have I3 : Inv X pins σ H1 { s2 with heap := h', toks := tk } := I2.turned (t' := tk) (fun b o hb e => hk b o hb e) f0 f1 f3 f4 f5
  have rr := RT.vals_rev rv hi
  rw [← List.map_reverse] at rr
  obtain ⟨l, el, em⟩ := strs_pairs rr
  rw [← el]
  have fit : Builtin.Str.tooLong ((l.map (·.1)).toArray.foldl (· + ·.length + z.length) 0) = false := by
    rw [em]
    unfold JoinOk at ok
    rwa [Bool.not_eq_true'] at ok
  have g : Gives (joinTail z (strValues l)) (joinMade z l) := joined_tail z l fit
  refine g X.prog X.w X.A (wants (EP X pins σ Q) X.xe) _ (post_join l ⟨?_, fun t' k => ?_⟩)
  · exact joinFit_length fit
  · rw [em]
    exact ⟨.str _, H1, I3.tok k, ⟨t', rfl⟩, q1⟩
end
end L2.Jk

set_option Elab.async false
set_option linter.all false
set_option maxRecDepth 100000
set_option maxHeartbeats 4000000
/-! Errors raised, instances made where their __init__ may raise, isinstance of flat values. -/
namespace L2.Jk
open PySem PySem.W PySem.Spec PySem.Calls PyProof.Rows

section
variable {X : Cx} {CX : CXT} {k : Nat} {x : Str} {ps : List Str} {sp : Sp} {e : Expr} {es : List Expr} {t : TA} {p pos : Pos} {W : WX}
theorem pe_fnS (G : FnAt X.prog X.w X.K X.mg X.base CX k x ps sp) (hr : Room k X.A) {E : St → XK} (hx : ∀ σ, PassesAt CX X σ (E σ)) (hg : Gl X x) (ha : PA X (e :: es) t)
    (hdb : (x == ("__debug__" : Str)) = false := by decide) (he : starEach (e :: es) X.env = (false, eval e X.env) :: starEach es X.env := by rfl) (hpl : (backTo pos (starEach es X.env)).any (·.1) = false := by rfl) :
    PE X (.Call (.Name x p) (e :: es) [] pos) (tCallS sp E t) := by
  obtain ⟨f, fd, hm, kp, F, hb⟩ := G.ex
  exact pe_callS F hr hg hm kp hb hx ha hdb he hpl
/-! ### an error that is raised -/
def tMkErr (C : Addr) (fs : List Str) (ta : TA) : St → Hp → XK → Prop := fun σ H Q => ta σ H fun vs H1 => vs.length = fs.length ∧ ∀ d H2, H1 d = none → Same H1 H2 → H2 d = some (.xd (fldE fs vs)) → Q (.ref C) (some d) H2
theorem same_raise {H : Hp} {a C d : Addr} {fs : List (Str × V)} (ha : H a = none) (hd : H d = none) (ne : d ≠ a) : Same H (upd (del (mkE H a C d fs) a) d (.xd fs)) := fun b o e => by
  have n1 := ne_of_none e ha
  have n2 := ne_of_none e hd
  rw [upd_ne n2, del_ne n1]
  unfold mkE
  rw [upd_ne n1, upd_ne n2]
  exact e
end
/-- what is wished of an error C(v) that is raised at H -/
def RaiseE (C : Addr) (f : Str) (v : V) (H : Hp) (Q : XK) : Prop := ∀ d H2, H d = none → Same H H2 → H2 d = some (.xd [(f, v)]) → Q (.ref C) (some d) H2
theorem mkO_1 {C : Addr} {f : Str} {v : V} {H : Hp} {Q : XK} (q : RaiseE C f v H Q) : ([v] : List V).length ≤ 1000 ∧ ∀ a, H a = none → spI1 C f (.ref a :: ([v] ++ [])) (upd H a (exo a C none))
    (fun u H2 => u = .non ∧ ∃ (d : Addr) (fs : List (Str × V)), H2 a = some (exo a C (some d)) ∧ H2 d = some (exd d fs) ∧ H d = none ∧ Q (.ref C) (some d) (upd (del H2 a) d (.xd fs))) (fun _ _ _ => False) := by
  refine ⟨by show 1 ≤ 1000; decide, fun a ha => ⟨a, v, rfl, upd_same, fun d hd ne => ⟨rfl, d, [(f, v)], ?_, ?_, ?_, ?_⟩⟩⟩
  · rw [mkE_new ne]
    exact upd_same
  · rw [mkE_new ne]
    unfold mkE
    rw [upd_ne ne, upd_same]
  · rw [upd_ne ne] at hd
    exact hd
  · rw [mkE_new ne]
    rw [upd_ne ne] at hd
    exact q d _ hd (same_raise ha hd ne) upd_same
section
variable {X : Cx} {x : Str} {e : Expr} {es : List Expr} {ta : TA} {p pos : Pos}
/-- raise C(e), C an error of one field -/
theorem pmk_1 {C : Addr} {f z : Str} (T : ErrAt X.prog X.w X.K X.mg X.base x C [f] z) (hr : Room 2 X.A) (hg : Gl X x) (ha : PA X (e :: es) ta)
    (hdb : (x == ("__debug__" : Str)) = false := by decide) (he : starEach (e :: es) X.env = (false, eval e X.env) :: starEach es X.env := by rfl) (hpl : (backTo pos (starEach es X.env)).any (·.1) = false := by rfl) :
    PMk X (.Call (.Name x p) (e :: es) [] pos) (tMkO C (spI1 C f) [] ta) := by
  obtain ⟨fd, hb, iok⟩ := T.iok
  exact pmk_oex (X := X) (ta := ta) T.ex.ec.ox T.ini.1 T.ini.2 iok hr hb .nil pass0 hg T.mgC ha hdb he hpl
/-! ### an instance made by a class whose __init__ may raise -/
structure ClsAt (P : Program) (w : World) (K : Frag) (mg : Str → Option Value) (base : Heap) (CX : CXT) (k : Nat) (x : Str) (C : Addr) (ps : List Str) (sp : Sp) : Prop where
  mgC : mg x = some (.ref C)
  cl : Cls K C
  mkr : Mk K C (He.ma K C "__init__")
  ok : ∃ fd, FnOk P w K mg base CX k (He.ma K C "__init__") fd ps sp ∧ Binds K fd ps []
def tNewS (C : Addr) (sp : Sp) (E : St → XK) (t : TA) : TE := fun σ H Q => t σ H fun vs H1 => ∀ a dx, H1 a = none → H1 dx = none → dx ≠ a → sp (.ref a :: vs) (upd (upd H1 dx (.own a)) a (.ins C dx [])) (fun v H2 => v = .non ∧ Q (.ref a) H2) (E σ)
theorem pe_newS {CX : CXT} {k : Nat} {C : Addr} {ps : List Str} {sp : Sp} {E : St → XK} (G : ClsAt X.prog X.w X.K X.mg X.base CX k x C ps sp) (hr : Room (k + 1) X.A) (hx : ∀ σ, PassesAt CX X σ (E σ)) (hg : Gl X x) (ha : PA X (e :: es) ta)
    (hdb : (x == ("__debug__" : Str)) = false := by decide) (he : starEach (e :: es) X.env = (false, eval e X.env) :: starEach es X.env := by rfl) (hpl : (backTo pos (starEach es X.env)).any (·.1) = false := by rfl) :
    PE X (.Call (.Name x p) (e :: es) [] pos) (tNewS C sp E ta) := by
  obtain ⟨fd, F, hb⟩ := G.ok
  have M := G.mkr
  constructor
  intro pins s σ H Q I h
  refine wpAny_Call_Name_kw (ld_glob I hg G.mgC ?_ hdb)
  refine callWith_K (h₀ := X.base) I.ok.mod.kin M.kp (thn (ha.run pos pins s σ H _ I h) fun us s1 ⟨vs, H1, I1, r, q⟩ => ⟨I1.kIn, ?_⟩) he hpl
  show wpAny _ _ (call (.ref C) us) _ _ _
  have pr := q (s1.heap.objs.size + 1) s1.heap.objs.size (I1.hok.fresh (Nat.le_succ _)) I1.fresh (Nat.ne_of_lt (Nat.lt_succ_self _))
  have I2 := Inv.made (C := C) I1
  have r2 : Vals (V.ref (s1.heap.objs.size + 1) :: vs) (Value.ref (s1.heap.objs.size + 1) :: us) := .cons rfl r
  have hl : (Value.ref (s1.heap.objs.size + 1) :: us).length = ps.length := by
    rw [← r2.length]
    exact F.len _ _ _ _ pr
  have hb' := hb _ (Value.ref (s1.heap.objs.size + 1) :: us) I2.kIn (by rw [List.append_nil]; exact hl)
  rw [List.append_nil] at hb'
  refine wpAny_call (make_map (f := He.ma X.K C "__init__") I1.kIn M.makes M.init (beq_iff_eq.mp M.fn) (codeAny_mono (F.run _ X.stack _ _ ⟨Value.ref (s1.heap.objs.size + 1) :: us, []⟩ (Value.ref (s1.heap.objs.size + 1) :: us) _ _ (E σ) (hr.make C us [])
    (I2.env0.make C us []) hb' r2 pr) fun r s' hq' => ?_))
  cases r with
  | error er => exact hx σ pins _ _ er s' I2 hq'
  | ok fl =>
    cases fl with
    | ret u =>
      obtain ⟨v, H', I3, rv, ev, q3⟩ := I2.after hq'
      subst ev
      exact ⟨rv, ⟨V.ref (s1.heap.objs.size + 1), H', I3, rfl, q3⟩⟩
    | next => exact False.elim hq'
    | brk => exact False.elim hq'
    | cont => exact False.elim hq'
end
/-! ### isinstance of flat values against built-in types -/
def tyN : V → String
  | .non => "NoneType"
  | .bl _ => "bool"
  | .int _ => "int"
  | .str _ => "str"
  | _ => ""
theorem flat_ty {K : Frag} {H : Hp} {v : V} (h : flatV v = true) : TyE K H v (.type (tyN v)) := by
  cases v with
  | non => exact .x (.base .non)
  | bl b => exact .x (.base (.bl b))
  | int i => exact .x (.base (.int i))
  | str z => exact .x (.base (.str z))
  | _ => cases h
def isStr : V → Bool
  | .str _ => true
  | _ => false
/-- an int or a bool -/
def isInt : V → Bool
  | .int _ => true
  | .bl _ => true
  | _ => false
def isBl : V → Bool
  | .bl _ => true
  | _ => false
theorem kit_str {v : V} (h : flatV v = true) : kitB (tyN v) "str" = some (isStr v) := by
  cases v with
  | non => show kitB "NoneType" "str" = some false; decide +kernel
  | bl b => show kitB "bool" "str" = some false; decide +kernel
  | int i => show kitB "int" "str" = some false; decide +kernel
  | str z => show kitB "str" "str" = some true; decide +kernel
  | _ => cases h
theorem kit_int {v : V} (h : flatV v = true) : kitB (tyN v) "int" = some (isInt v) := by
  cases v with
  | non => show kitB "NoneType" "int" = some false; decide +kernel
  | bl b => show kitB "bool" "int" = some true; decide +kernel
  | int i => show kitB "int" "int" = some true; decide +kernel
  | str z => show kitB "str" "int" = some false; decide +kernel
  | _ => cases h
theorem kit_bool {v : V} (h : flatV v = true) : kitB (tyN v) "bool" = some (isBl v) := by
  cases v with
  | non => show kitB "NoneType" "bool" = some false; decide +kernel
  | bl b => show kitB "bool" "bool" = some true; decide +kernel
  | int i => show kitB "int" "bool" = some false; decide +kernel
  | str z => show kitB "str" "bool" = some false; decide +kernel
  | _ => cases h
theorem ie_of {K : Frag} {H : Hp} {v : V} {S T : String} {b : Bool} {Q : VK} (ty : TyE K H v (.type S)) (k : kitB S T = some b) (q : Q (.bl b) H) : rIe K [v, .ty T] H Q :=
  ⟨v, .ty T, .type S, .type T, b, rfl, .ty T, ty, kit_ty k, q⟩
end L2.Jk

set_option Elab.async false
set_option linter.all false
set_option maxRecDepth 100000
set_option maxHeartbeats 4000000
/-! A comprehension over a text; a method of an instance whose class shows in the heap; what happens to an error that is raised in a make. -/
namespace L2.Jk
open PySem PySem.W PySem.Spec PySem.Calls PyProof.Rows

theorem lc_str {x : Str} {g : TG} {tt : TT} {te : TE} {vs : List Nat} {σ : St} {H1 : Hp} {D : Addr} {Qd : Hp → Prop} (Pv : Nat → Hp → Prop) (h0 : Pv 0 (upd H1 D (.lst [])))
    (hs : ∀ (i c : Nat) H, x.cps[i]? = some c → Pv i H → g (.str ⟨#[c]⟩) (wipe σ vs) H fun σ2 H2 => wipe σ2 vs = wipe σ vs ∧ tt σ2 H2 fun b H3 =>
      if b = true then te σ2 H3 fun y H4 => ∃ acc, H4 D = some (.lst acc) ∧ acc.length < sizeLine ∧ Pv (i + 1) (upd H4 D (.lst (acc ++ [y]))) else Pv (i + 1) H3) (hd : ∀ H, Pv x.cps.size H → Qd H) :
    ∃ W : Nat → Nat → Hp → Prop, (∃ m, W 0 m (upd H1 D (.lst []))) ∧ ∀ i m H, W i m H →
      ((Its x).stop i H ∧ Qd H) ∨ ((Its x).go i H ∧ ∃ Nx : Hp → Prop, (∀ H', Nx H' → ∃ m', m' < m ∧ W (i + 1) m' H') ∧ ∀ y H', (Its x).yld i H y H' → g y (wipe σ vs) H' fun σ2 H2 => wipe σ2 vs = wipe σ vs ∧ tt σ2 H2 fun b H3 =>
        if b = true then te σ2 H3 fun y H4 => ∃ acc, H4 D = some (.lst acc) ∧ acc.length < sizeLine ∧ Nx (upd H4 D (.lst (acc ++ [y]))) else Nx H3) := by
  refine ⟨fun i m H => m = x.cps.size - i ∧ i ≤ x.cps.size ∧ Pv i H, ⟨x.cps.size, by simp, Nat.zero_le _, h0⟩, ?_⟩
  rintro i m H ⟨rfl, hi, p⟩
  by_cases hlt : i < x.cps.size
  · refine .inr ⟨hlt, Pv (i + 1), fun H' p' => ⟨x.cps.size - (i + 1), by omega, rfl, hlt, p'⟩, fun y H' z => ?_⟩
    obtain ⟨e, c, hc, ev⟩ := z
    subst e ev
    exact hs i c _ hc p
  · have e : i = x.cps.size := by omega
    subst e
    exact .inl ⟨Nat.le_refl _, hd H p⟩
/-- o.m(e, ..), the class of o as the heap has it -/
def tMethD (X : Cx) (CX : CXT) (m : Str) (E : XK) (ta : TE) (t : TA) : TE := fun σ H Q => ta σ H fun x H1 => ∃ (a C dx f : Addr) (fs : List (Str × V)) (k : Nat) (fd : FuncData) (ps : List Str) (sp : Sp), x = .ref a ∧ H1 a = some (.ins C dx fs) ∧ fs.lookup m = none ∧
  Cls X.K C ∧ Meth X.K C m f ∧ FnOk X.prog X.w X.K X.mg X.base CX k f fd ps sp ∧ Room k X.A ∧ Binds X.K fd ps [] ∧ t σ H1 fun vs H2 => sp (x :: vs) H2 Q E
section
variable {X : Cx} {CX : CXT} {E : XK} {o e : Expr} {es : List Expr} {m : Str} {ta : TE} {t : TA} {apos pos : Pos}
theorem pe_methD {pl : Sem Bool} (he : PE X o ta) (hx : Passes CX X E) (ha : PA X (e :: es) t)
    (hst : starEach (e :: es) X.env = (false, eval e X.env) :: starEach es X.env := by rfl) (hpl : (backTo pos (starEach es X.env)).any (·.1) = false := by rfl)
    (ht : eval (.Call (.Attribute o m apos) (e :: es) [] pos) X.env = (do
      let ov ← eval o X.env
      standAt apos.atName
      let (f, first) ← holding [ov] (getMethod ov m pl)
      callWith pos f first (backTo pos (starEach (e :: es) X.env)) (backToKw pos (keywordEach [] X.env))) := by rfl) :
    PE X (.Call (.Attribute o m apos) (e :: es) [] pos) (tMethD X CX m E ta t) := by
  refine ⟨fun pins s σ H Q I h => ?_⟩
  refine PySem.W.methodCall_KW (pl := pl) (thn (he.run pins s σ H _ I h) fun u s1 hh => ?_) ht
  obtain ⟨x, H1, I1, rx, a, C, dx, f, fs, k, fd, ps, sp, ex, ea, l, c, hm, F, hr, hb, q⟩ := hh
  subst ex
  obtain rfl : u = Value.ref a := rx
  refine getmeth_ok I1 ea c hm l ?_
  refine PySem.W.callWith_K (first := [.ref a]) (h₀ := X.base) I.ok.mod.kin hm.kp (thn (ha.run pos pins s1 σ H1 _ I1 q) fun us s2 ⟨vs, H2, I2, r, q2⟩ => ⟨I2.kIn, ?_⟩) hst hpl
  have q2' : sp (V.ref a :: (vs ++ [])) H2 Q E := by rw [List.append_nil]; exact q2
  exact run_fn (us := .ref a :: us) (vs := .ref a :: vs) (dvs := []) (ds := []) F hr hb .nil hx I2 (.cons rfl r) q2'
end
/-- a call that the reading never comes to -/
theorem fn_never {P : Program} {w : World} {K : Frag} {mg : Str → Option Value} {base : Heap} {CX : CXT} {k : Nat} {f : Addr} {fd : FuncData} {ps : List Str} : FnOk P w K mg base CX k f fd ps (fun _ _ _ _ => False) where
  len := fun _ _ _ _ h => False.elim h
  run := fun _ _ _ _ _ _ _ _ _ _ _ _ _ h => False.elim h
theorem same_new {H : Hp} {a dx C : Addr} {fs : List (Str × V)} (ha : H a = none) (hd : H dx = none) : Same H (upd (upd H dx (.own a)) a (.ins C dx fs)) := fun b o e => by
  rw [upd_ne (ne_of_none e ha), upd_ne (ne_of_none e hd)]
  exact e
theorem same_put {H H1 : Hp} {p : Addr} {o : HO} (S : Same H H1) (n : H p = none) : Same H (upd H1 p o) := fun b u e => by
  rw [upd_ne (ne_of_none e n)]
  exact S b u e
end L2.Jk

set_option Elab.async false
set_option linter.all false
set_option maxRecDepth 100000
set_option maxHeartbeats 4000000
/-! The things that are drawn, and what is told of them. -/
namespace L2.K80
open PySem PySem.W PySem.Spec PySem.Calls PyProof.Rows L2.Jk

/-- a kind of things, by what is true of them -/
structure Menu (α : Type) where
  p : α → Prop
instance {α : Type} : Membership α (Menu α) := ⟨fun m a => m.p a⟩
def lenOf : V → Nat
  | .str z => z.length
  | _ => 0
def vM : Menu V := ⟨fun v => flatV v = true ∧ lenOf v ≤ 20⟩
abbrev sM := vM
abbrev eM := vM
abbrev mQ := vM
def nM : Menu V := ⟨fun v => flatV v = true ∧ ∀ i, v = .int i → i ≤ 999999999⟩
abbrev hM := nM
/-- what the texts of a listed field are drawn from -/
inductive LX where
  | lst (xs : List V)
  | tup (xs : List V)
  | val (v : V)
  deriving DecidableEq
def LX.els : LX → List V
  | .lst xs => xs
  | .tup xs => xs
  | .val _ => []
def dV : V → PyData
  | .bl b => .bool b
  | .int i => .int i
  | .str z => .str z
  | _ => .none
def lM : Menu LX := ⟨fun x => (x = .lst x.els ∨ x = .tup x.els) ∧ x.els.length ≤ 20 ∧ (∀ v ∈ x.els, v ∈ vM) ∧ SeqAt.shaped (.tuple (x.els.map dV)) = true⟩
def wM : Menu V := ⟨fun v => ∃ i, v = .int i ∧ 1 ≤ i ∧ i < 60⟩

/-- text.strip(signs) == '' -/
def madeB (a b : Str) : Bool := decide (V.str (Txt.stripChars a b) = V.str "")
/-- c in z, c one sign -/
def inB (c z : Str) : Bool := decide (c.cps.getD 0 0 ∈ z.cps.toList)
def isSignB : V → Bool
  | .str z => (z.length == 1) && inB z SG
  | _ => false
def areB : V → Bool
  | .str z => madeB z SG
  | _ => false
def sgB : V → Bool
  | .str z => z.cps.toList.all fun c => decide (c ∈ SG.cps.toList)
  | _ => false
def numB : V → Bool
  | .int _ => true
  | _ => false
def lenV : V → Nat
  | .str z => z.length
  | _ => 0
/-- signs that stand twice -/
def twB : V → Bool
  | .str z => decide ((newS (fun i => ⟨#[z.cps.getD i 0]⟩) z.cps.size : Nat) < z.length)
  | _ => false
def sBad (v : V) : Bool := !areB v || (decide (v = .str "") || twB v)
def ltV : V → V → Bool
  | .int a, .int b => decide (a < b)
  | _, _ => false
def bDue (l m : V) : Option Str :=
  if (!numB l || ltV l (.int 0)) = true then some "least" else if (!decide (m = .non) && (!numB m || ltV m l)) = true then some "most" else none
def wDue (w : V) : Option Str := if (!numB w || ltV w (.int 1)) = true then some "width" else none
/-- the texts of a list, if all are texts of signs -/
def strV : V → Str
  | .str z => z
  | _ => ""
def xsBad (xs : List V) : Bool := !xs.all areB || decide ((newS (fun i => (xs.map strV).getD i Str.empty) (xs.map strV).length : Nat) < xs.length)
def lxDue : LX → Option Str
  | .val _ => some "texts"
  | .lst xs => if (decide (xs.length = 0) || xsBad xs) = true then some "texts" else none
  | .tup xs => if (decide (xs.length = 0) || xsBad xs) = true then some "texts" else none
def eDue (s e l m : V) : Option Str :=
  if sBad s = true then some "signs" else if (!isSignB e || inB (strV e) (strV s)) = true then some "sign" else bDue l m
def oDue (s l m : V) : Option Str := if sBad s = true then some "signs" else bDue l m
inductive PD where
  | word (s l m : V)
  | number (l m : V)
  | fixed (w : V)
  | listed (x : LX)
  | ended (s e l m : V)
def PD.due : PD → Option Str
  | .word s l m => oDue s l m
  | .number l m => bDue l m
  | .fixed w => wDue w
  | .listed x => lxDue x
  | .ended s e l m => eDue s e l m
def PD.In : PD → Prop
  | .word s l m => s ∈ sM ∧ l ∈ nM ∧ m ∈ nM
  | .number l m => l ∈ nM ∧ m ∈ hM
  | .fixed w => w ∈ wM
  | .listed x => x ∈ lM
  | .ended s e l m => s ∈ sM ∧ e ∈ eM ∧ l ∈ nM ∧ m ∈ nM
/-- has a sign: what the program asks -/
def dg (n : Int) : Str := Txt.join "" [(toString n : Str)]
def wwB (s m : V) (c : Str) : Bool := inB c (strV s) && !decide (m = .int 0)
def intV : V → Int
  | .int i => i
  | _ => 0
def PD.has (c : Str) : PD → Bool
  | .word s _ m => wwB s m c
  | .number l m => if (decide (m = .non) || decide (9 ≤ intV m - intV l)) = true then inB c DG else (List.range (intV m + 1 - intV l).toNat).any fun (i : Nat) => inB c (dg (intV l + i))
  | .fixed _ => inB c DG
  | .listed x => x.els.any fun v => inB c (strV v)
  | .ended s e _ m => decide (V.str c = e) || wwB s m c
inductive OD where
  | val (v : V)
  | pl (d : PD)
  | mk (n m : V) (i : OD)
def iDue (n m : V) : OD → Option Str
  | .pl d => if (d.has (strV n) || d.has (strV m)) = true then some "field" else none
  | _ => some "field"
def OD.due : OD → Option Str
  | .val _ => none
  | .pl d => d.due
  | .mk n m i => if (!isSignB n) = true then some "none" else if (!isSignB m || decide (m = n)) = true then some "mark" else iDue n m i
theorem one_of {z : Str} (h : z.length = 1) : z = ⟨#[z.cps.getD 0 0]⟩ := by
  obtain ⟨a⟩ := z
  have h : a.size = 1 := h
  cases e : a.toList with
  | nil =>
    have z : a.toList.length = 1 := by rw [Array.length_toList]; exact h
    rw [e] at z
    cases z
  | cons x xs =>
    have z : a.toList.length = 1 := by rw [Array.length_toList]; exact h
    rw [e] at z
    have e2 : xs = [] := List.length_eq_zero_iff.mp (Nat.succ.inj z)
    have e3 : a = #[x] := by rw [← Array.toArray_toList (xs := a), e, e2]
    rw [e3]
    rfl
theorem vM_facts (v : V) (h : v ∈ vM) : flatV v = true ∧ True ∧ True ∧ lenV v ≤ 20 := by
  obtain ⟨h1, h2⟩ := (show flatV v = true ∧ lenOf v ≤ 20 from h)
  refine ⟨h1, trivial, trivial, ?_⟩
  cases v <;> exact h2
theorem one_sign (v : V) (_ : v ∈ vM) (h : lenV v = 1) : v = .str ⟨#[(strV v).cps.getD 0 0]⟩ := by
  cases v with
  | str z => exact congrArg V.str (one_of h)
  | _ => cases h
theorem bDue_none {l m : V} (h : bDue l m = none) : (∃ i, l = .int i ∧ 0 ≤ i) ∧ (m = .non ∨ ∃ j, m = .int j ∧ 0 ≤ j) := by
  unfold bDue at h
  split at h
  · cases h
  · rename_i h1
    split at h
    · cases h
    · rename_i h2
      cases l with
      | int i =>
        have hi : 0 ≤ i := by
          have z : ¬ (decide (i < 0)) = true := fun e => h1 (by show (!true || decide (i < 0)) = true; rw [e]; rfl)
          have : ¬ i < 0 := fun e => z (decide_eq_true e)
          omega
        refine ⟨⟨i, rfl, hi⟩, ?_⟩
        cases m with
        | non => exact .inl rfl
        | int j =>
          refine .inr ⟨j, rfl, ?_⟩
          have z : ¬ (decide (j < i)) = true := fun e => h2 (by show (!decide (V.int j = .non) && (!true || decide (j < i))) = true; rw [e, decide_eq_false (fun z => nomatch z)]; rfl)
          have : ¬ j < i := fun e => z (decide_eq_true e)
          omega
        | _ => exact absurd (by rw [decide_eq_false (fun z => nomatch z)]; rfl) h2
      | _ => exact absurd rfl h1
theorem sBad_str {s : V} (h : sBad s = false) : ∃ z, s = .str z := by
  cases s with
  | str z => exact ⟨z, rfl⟩
  | _ => cases h
theorem scal_flat {v : V} (h : flatV v = true) : scal v v = true := by cases v <;> first | rfl | cases h
theorem oDue_none {s l m : V} (h : oDue s l m = none) : sBad s = false ∧ bDue l m = none := by
  unfold oDue at h
  split at h
  · cases h
  · rename_i k
    exact ⟨Bool.eq_false_iff.mpr k, h⟩
theorem eDue_none {s e l m : V} (h : eDue s e l m = none) : sBad s = false ∧ isSignB e = true ∧ bDue l m = none := by
  unfold eDue at h
  split at h
  · cases h
  · rename_i k
    split at h
    · cases h
    · rename_i k2
      refine ⟨Bool.eq_false_iff.mpr k, ?_, h⟩
      cases z : isSignB e with
      | true => rfl
      | false => exact absurd (by rw [z]; rfl) k2
theorem sign_one {v : V} (h : isSignB v = true) : v = .str ⟨#[(strV v).cps.getD 0 0]⟩ ∧ True := by
  cases v with
  | str z =>
    have k : (z.length == 1) = true := (Bool.and_eq_true_iff.mp h).1
    exact ⟨congrArg V.str (one_of (by simpa using k)), trivial⟩
  | _ => cases h
theorem sM_vM {v : V} (h : v ∈ sM) : v ∈ vM := h
theorem eM_vM {v : V} (h : v ∈ eM) : v ∈ vM := h
theorem mQ_vM {v : V} (h : v ∈ mQ) : v ∈ vM := h
theorem nh {v : V} (h : v ∈ nM) : v ∈ hM := h
theorem word_due (s : V) (_ : s ∈ sM) (l : V) (_ : l ∈ nM) (m : V) (_ : m ∈ nM) (h : oDue s l m = none) : s = .str (strV s) ∧ scal m (.int 0) = true ∧ (scal s s && (scal l l && scal m m)) = true := by
  obtain ⟨h1, h2⟩ := oDue_none h
  obtain ⟨z, rfl⟩ := sBad_str h1
  obtain ⟨⟨i, rfl, _⟩, rfl | ⟨j, rfl, _⟩⟩ := bDue_none h2 <;> exact ⟨rfl, rfl, rfl⟩
theorem num_due (l : V) (hl : l ∈ nM) (m : V) (hm : m ∈ hM) (h : bDue l m = none) : l = .int (intV l) ∧ (m = .non ∨ m = .int (intV m)) ∧ 0 ≤ intV l ∧ intV l ≤ 999999999 ∧ 0 ≤ intV m ∧ intV m ≤ 999999999 ∧ (scal l l && scal m m) = true := by
  obtain ⟨⟨i, rfl, hi⟩, rfl | ⟨j, rfl, hj⟩⟩ := bDue_none h
  · exact ⟨rfl, .inl rfl, hi, hl.2 i rfl, Int.le_refl _, by decide, rfl⟩
  · exact ⟨rfl, .inr rfl, hi, hl.2 i rfl, hj, hm.2 j rfl, rfl⟩
theorem fix_due (w : V) (h : w ∈ wM) (_ : wDue w = none) : scal w w = true := by
  obtain ⟨i, rfl, _⟩ := h
  rfl
theorem lx_bad {x : LX} (hx : x ∈ lM) (h : lxDue x = none) : x.els.all areB = true ∧ x.els ≠ [] := by
  obtain ⟨k, _⟩ := hx
  have z : (if (decide (x.els.length = 0) || xsBad x.els) = true then (some "texts" : Option Str) else none) = none := by
    rcases k with k | k <;> (rw [k] at h ⊢; exact h)
  split at z
  · cases z
  · rename_i h1
    refine ⟨?_, fun e => h1 (by rw [e]; rfl)⟩
    cases q : x.els.all areB with
    | true => rfl
    | false => exact absurd (by unfold xsBad; rw [q]; show (_ || (true || _)) = true; rw [Bool.true_or, Bool.or_true]) h1
theorem are_str {v : V} (h : areB v = true) : v = .str (strV v) := by
  cases v with
  | str z => rfl
  | _ => cases h
theorem lst_due (x : LX) (hx : x ∈ lM) (h : lxDue x = none) : (∀ v ∈ x.els, v = .str (strV v)) ∧ x.els.length ≤ 20 ∧ x.els ≠ [] := by
  obtain ⟨h1, h2⟩ := lx_bad hx h
  exact ⟨fun v hv => are_str (List.all_eq_true.mp h1 v hv), hx.2.1, h2⟩
theorem lst_are (x : LX) (hx : x ∈ lM) (h : lxDue x = none) : x.els.all areB = true := (lx_bad hx h).1
theorem end_due (s : V) (_ : s ∈ sM) (e : V) (_ : e ∈ eM) (l : V) (_ : l ∈ nM) (m : V) (_ : m ∈ nM) (h : eDue s e l m = none) : s = .str (strV s) ∧ e = .str ⟨#[(strV e).cps.getD 0 0]⟩ ∧ scal m (.int 0) = true ∧ (scal s s && (scal e e && (scal l l && scal m m))) = true := by
  obtain ⟨h1, h2, h3⟩ := eDue_none h
  obtain ⟨z, rfl⟩ := sBad_str h1
  have ee := (sign_one h2).1
  refine ⟨rfl, ee, ?_⟩
  rw [ee]
  obtain ⟨⟨i, rfl, _⟩, rfl | ⟨j, rfl, _⟩⟩ := bDue_none h3 <;> exact ⟨rfl, rfl⟩
theorem nM_flat (v : V) (h : v ∈ hM) : flatV v = true := h.1
theorem wM_flat (v : V) (h : v ∈ wM) : flatV v = true := by
  obtain ⟨i, rfl, _⟩ := h
  rfl
theorem lM_vM (x : LX) (h : x ∈ lM) : (∀ v ∈ x.els, v ∈ vM) ∧ x.els.length ≤ 20 := ⟨h.2.2.1, h.2.1⟩
theorem lM_val (x : LX) (h : x ∈ lM) : x = .val (.str "ab") ∨ x = .val .non ∨ (x = .lst x.els ∨ x = .tup x.els) := .inr (.inr h.1)
theorem eM_one (e : V) (_ : e ∈ eM) (h : isSignB e = true) : e = .str ⟨#[(strV e).cps.getD 0 0]⟩ := (sign_one h).1
theorem sM_str (s : V) (_ : s ∈ sM) (h : sBad s = false) : s = .str (strV s) := by
  obtain ⟨z, rfl⟩ := sBad_str h
  rfl
theorem mQ_one (v : V) (_ : v ∈ mQ) (h : isSignB v = true) : v = .str ⟨#[(strV v).cps.getD 0 0]⟩ ∧ True := sign_one h
theorem lM_shaped (x : LX) (hx : x ∈ lM) (h : lxDue x = none) : x.els.all flatV = true ∧ SeqAt.shaped (.tuple (x.els.map dV)) = true :=
  ⟨List.all_eq_true.mpr fun v hv => (hx.2.2.1 v hv).1, hx.2.2.2⟩
theorem word_all (s : V) (_ : s ∈ sM) (l : V) (_ : l ∈ nM) (m : V) (_ : m ∈ nM) (h : oDue s l m = none) : s = .str (strV s) ∧ l = .int (intV l) ∧ (m = .non ∨ m = .int (intV m)) := by
  obtain ⟨h1, h2⟩ := oDue_none h
  obtain ⟨z, rfl⟩ := sBad_str h1
  obtain ⟨⟨i, rfl, _⟩, rfl | ⟨j, rfl, _⟩⟩ := bDue_none h2
  · exact ⟨rfl, rfl, .inl rfl⟩
  · exact ⟨rfl, rfl, .inr rfl⟩
theorem end_all (s : V) (_ : s ∈ sM) (e : V) (_ : e ∈ eM) (l : V) (_ : l ∈ nM) (m : V) (_ : m ∈ nM) (h : eDue s e l m = none) : s = .str (strV s) ∧ e = .str (strV e) ∧ l = .int (intV l) ∧ (m = .non ∨ m = .int (intV m)) ∧ (strV e).length ≤ 10 := by
  obtain ⟨h1, h2, h3⟩ := eDue_none h
  obtain ⟨z, rfl⟩ := sBad_str h1
  have ee := (sign_one h2).1
  have el : (strV e).length ≤ 10 := by rw [ee]; show 1 ≤ 10; decide
  have e2 : e = .str (strV e) := by
    cases e with
    | str y => rfl
    | _ => cases h2
  obtain ⟨⟨i, rfl, _⟩, rfl | ⟨j, rfl, _⟩⟩ := bDue_none h3
  · exact ⟨rfl, e2, rfl, .inl rfl, el⟩
  · exact ⟨rfl, e2, rfl, .inr rfl, el⟩
end L2.K80

set_option Elab.async false
set_option linter.all false
set_option maxRecDepth 100000
set_option maxHeartbeats 4000000
/-! Things that may be asked for their class: flat values, lists, tuples, dicts. -/
namespace L2.Jk
open PySem PySem.W PySem.Spec PySem.Calls PyProof.Rows
def Thg (H : Hp) (v : V) : Prop := flatV v = true ∨ ∃ p, v = .ref p ∧ ((∃ xs, H p = some (.lst xs)) ∨ (∃ xs, H p = some (.tup xs)) ∨ ∃ kvs, H p = some (.dK kvs))
theorem Thg.same {H H' : Hp} {v : V} (S : Same H H') : Thg H v → Thg H' v
  | .inl h => .inl h
  | .inr ⟨p, e, .inl ⟨xs, h⟩⟩ => .inr ⟨p, e, .inl ⟨xs, S _ _ h⟩⟩
  | .inr ⟨p, e, .inr (.inl ⟨xs, h⟩)⟩ => .inr ⟨p, e, .inr (.inl ⟨xs, S _ _ h⟩)⟩
  | .inr ⟨p, e, .inr (.inr ⟨xs, h⟩)⟩ => .inr ⟨p, e, .inr (.inr ⟨xs, S _ _ h⟩)⟩
theorem thg_ty {K : Frag} {H : Hp} {v : V} (h : Thg H v) : ∃ T : String, TyE K H v (.type T) ∧ kitB T "str" = some (isStr v) ∧ kitB T "int" = some (isInt v) ∧ kitB T "bool" = some (isBl v) := by
  rcases h with h | ⟨p, rfl, ⟨xs, h⟩ | ⟨xs, h⟩ | ⟨kvs, h⟩⟩
  · exact ⟨_, flat_ty h, kit_str h, kit_int h, kit_bool h⟩
  · exact ⟨"list", .x (.base (.lst h)), by show kitB "list" "str" = some false; decide +kernel, by show kitB "list" "int" = some false; decide +kernel, by show kitB "list" "bool" = some false; decide +kernel⟩
  · exact ⟨"tuple", .x (.base (.tup h)), by show kitB "tuple" "str" = some false; decide +kernel, by show kitB "tuple" "int" = some false; decide +kernel, by show kitB "tuple" "bool" = some false; decide +kernel⟩
  · exact ⟨"dict", .x (.base (.dK h)), by show kitB "dict" "str" = some false; decide +kernel, by show kitB "dict" "int" = some false; decide +kernel, by show kitB "dict" "bool" = some false; decide +kernel⟩
end L2.Jk

set_option Elab.async false
set_option linter.all false
set_option maxRecDepth 100000
set_option maxHeartbeats 4000000
namespace L2.K80
open PySem PySem.W PySem.Spec PySem.Calls PyProof.Rows L2.Jk



/-! ### the law's own numbers: a list of three -/
def StAt (H : Hp) (a : Addr) : Prop := ∃ p q r : Int, H a = some (.lst [.int p, .int q, .int r]) ∧ 0 ≤ p ∧ 0 ≤ q ∧ q < 2147483700 ∧ 0 ≤ r
def spSource : Sp := fun vs H Q _ => ∃ n : Int, vs = [.int n] ∧ ∀ a H', H a = none → Same H H' → StAt H' a → Q (.ref a) H'
def spDraw : Sp := fun vs H Q _ => ∃ (a : Addr) (b : Int), vs = [.ref a, .int b] ∧ StAt H a ∧ 0 < b ∧ b < 1073741824 ∧ ∀ d H', 0 ≤ d → d < b → But a H H' → StAt H' a → Q (.int d) H'
theorem abs_line (n : Int) : 0 ≤ (if n < 0 then -n else n) * (if decide (10 ^ (18 : Int).toNat ≤ (if n < 0 then -n else n)) = true then 1 else 0) := by
  by_cases h : n < 0
  · simp only [if_pos h]
    split <;> omega
  · simp only [if_neg h]
    split <;> omega

structure Bl (mg : Str → Option Value) : Prop where
  abs : mg "abs" = none
  int : mg "int" = none
  bool : mg "bool" = none
  isinstance : mg "isinstance" = none
  range : mg "range" = none
  len : mg "len" = none
  set : mg "set" = none
  type : mg "type" = none
  str : mg "str" = none
  reversed : mg "reversed" = none
  tuple : mg "tuple" = none
  list : mg "list" = none
  any : mg "any" = none
  all : mg "all" = none

theorem bit_line (c : Prop) [Decidable c] : -(2 ^ 64) < (if c then (1 : Int) else 0) ∧ (if c then (1 : Int) else 0) < 2 ^ 64 := by
  split <;> exact ⟨by decide, by decide⟩
/-- the module's own names, the error class -/
structure G0 (P : Program) (w : World) (K : Frag) (mg : Str → Option Value) (base : Heap) : Prop extends Bl mg where
  sg : ∃ t, mg "SIGNS" = some (.str SG t)
  dgs : ∃ t, mg "DIGITS" = some (.str DG t)
  bf : ErrAt P w K mg base "BadField" (He.ga K "BadField") ["what"] "refused badfield"
section
variable {P : Program} {w : World} {K : Frag} {mg : Str → Option Value} {base : Heap} {f : Addr} {fd : FuncData}

theorem pe_sg {X : Cx} {x : Str} {z : Str} {pos : Pos} (h : ∃ t, X.mg x = some (.str z t)) (hg : Gl X x := by rfl) (hd : (x == ("__debug__" : Str)) = false := by decide) : PE X (.Name x pos) (tC (.str z)) := by
  obtain ⟨t, h⟩ := h
  exact pe_glob (v := .str z) hg h ⟨t, rfl⟩ hd

def spMade : Sp := fun vs H Q _ => ∃ a b : Str, vs = [.str a, .str b] ∧ a.length ≤ 1000 ∧ Q (.bl (madeB a b)) H
def spV (p : V → Bool) : Sp := fun vs H Q _ => ∃ v : V, vs = [v] ∧ v ∈ vM ∧ Q (.bl (p v)) H
def spNumT : Sp := fun vs H Q _ => ∃ v : V, vs = [v] ∧ Thg H v ∧ Q (.bl (numB v)) H
def spNum : Sp := fun vs H Q _ => ∃ v : V, vs = [v] ∧ flatV v = true ∧ Q (.bl (numB v)) H
def spDig : Sp := fun vs H Q _ => ∃ n : Int, vs = [.int n] ∧ 0 ≤ n ∧ n < 1000000000000 ∧ ∀ H', Same H H' → Q (.str (dg n)) H'
theorem small_line (z : Str) (h : z.length ≤ 1000) : z.length ≤ sizeLine := by
  rw [sizeLine_eq]
  omega

abbrev s_source : Stmt := top 46
theorem sc_source : FnScope ["_law_cell"] ["_law_cell"] (defScope s_source) := ⟨rfl, rfl, rfl, by decide +kernel, rfl, by decide +kernel, by decide +kernel⟩

theorem ok_source (F : FunD K "_law_source" "_law_source" (defArgs s_source) (defBody s_source) (defScope s_source) [] [] f fd) (G : Bl mg) : FnOk P w K mg base CX0 1 f fd ["_law_cell"] spSource := by
  refine F.ok (CX := CX0) sc_source (fun vs H Q E h => ?_) (fun cdv A outer s H vs Q E hr h => ?_)
  · obtain ⟨n, rfl, _⟩ := h
    rfl
  · refine ⟨_, PSs.nox (pss_one (ps_ret (pe_lstS (pa_cons (pe_op op_mul (pe_callB call_abs (by rfl) G.abs (by decide +kernel) (pa_cons (pv 0) pa_nil)) (pe_callTy call_int1 (by rfl) G.int (by decide +kernel) (pa_cons (pe_cmpR op_ge (pe_callB call_abs (by rfl) G.abs (by decide +kernel) (pa_cons (pv 0) pa_nil)) (pe_op op_pow pe_int pe_int) (nomark _)) pa_nil))) (pa_cons (pe_op op_mod (pe_callTy call_int1 (by rfl) G.int (by decide +kernel) (pa_cons (pv 0) pa_nil)) pe_int) (pa_cons pe_int pa_nil)))))), ?_⟩
    obtain ⟨n, rfl, q⟩ := h
    refine ⟨_, rfl, n, rfl, ?_⟩
    refine ⟨_, rfl, n, rfl, _, _, rfl, rfl, ⟨by decide, by decide, by decide⟩, _, _, rfl, rfl, .inr ⟨_, rfl, ?_⟩⟩
    refine ⟨_, _, rfl, rfl, .inr (bit_line _), _, rfl, .inl ⟨_, rfl, _, _, rfl, rfl, (by show (0 : Int) < 2147483629; decide), ?_⟩⟩
    refine ⟨by show 3 ≤ 1000; decide, fun p H' hp S e => q p H' hp S ⟨_, _, _, e, abs_line n, ?_, ?_, by decide⟩⟩
    · exact Int.emod_nonneg _ (by decide)
    · have := Int.emod_lt_of_pos n (show (0 : Int) < 2147483629 by decide)
      omega

abbrev s_draw : Stmt := top 47
theorem sc_draw : FnScope ["_law_source_here", "_law_many", "_law_found", "_law_mixed"] ["_law_source_here", "_law_many"] (defScope s_draw) := ⟨rfl, rfl, rfl, by decide +kernel, rfl, by decide +kernel, by decide +kernel⟩

theorem ok_draw (F : FunD K "_law_draw" "_law_draw" (defArgs s_draw) (defBody s_draw) (defScope s_draw) [] [] f fd) (G : Bl mg) : FnOk P w K mg base CX0 1 f fd ["_law_source_here", "_law_many"] spDraw := by
  refine F.ok (CX := CX0) sc_draw (fun vs H Q E h => ?_) (fun cdv A outer s H vs Q E hr h => ?_)
  · obtain ⟨a, b, rfl, _⟩ := h
    rfl
  · refine ⟨_, PSs.nox (pss_cons (ps_if (pt_cmpR op_gt (pe_ix ix_list (pv 0) pe_int (fun _ _ => rfl)) pe_int (nomark _))
      (pss_cons (ps_set (i := 2) sc_draw.nd rfl (Or.inl rfl) (pe_op op_mod (pe_callTy call_int1 (by rfl) G.int (by decide +kernel) (pa_cons (pe_ix ix_list (pv 0) pe_int (fun _ _ => rfl)) pa_nil)) (pv 1)))
      (pss_cons (ps_asg (pe_op op_fdiv (pe_ix ix_list (pv 0) pe_int (fun _ _ => rfl)) (pv 1)) (pg_sub (pv 0) pe_int set_list))
      (pss_one (ps_ret (pv 2)))))
      pss_nil)
    (pss_cons (ps_asg (pe_op op_add (pe_ix ix_list (pv 0) pe_int (fun _ _ => rfl)) pe_int) (pg_sub (pv 0) pe_int set_list))
    (pss_cons (ps_set (i := 3) sc_draw.nd rfl (Or.inl rfl) (pe_op op_mod (pe_callTy call_int1 (by rfl) G.int (by decide +kernel) (pa_cons (pe_op op_mul (pe_op op_add (pe_op op_add (pe_ix ix_list (pv 0) pe_int (fun _ _ => rfl)) (pe_op op_mul pe_int (pe_ix ix_list (pv 0) pe_int (fun _ _ => rfl)))) pe_int) pe_int) pa_nil)) pe_int))
    (pss_cons (ps_set (i := 3) sc_draw.nd rfl (Or.inl rfl) (pe_op op_mod (pe_callTy call_int1 (by rfl) G.int (by decide +kernel) (pa_cons (pe_op op_mul (pv 3) (pe_op op_add (pe_op op_add (pe_op op_fdiv (pv 3) pe_int) pe_int) (pe_ix ix_list (pv 0) pe_int (fun _ _ => rfl)))) pa_nil)) pe_int))
    (pss_one (ps_ret (pe_op op_mod (pe_callTy call_int1 (by rfl) G.int (by decide +kernel) (pa_cons (pe_op op_fdiv (pe_op op_mod (pe_callTy call_int1 (by rfl) G.int (by decide +kernel) (pa_cons (pe_op op_mul (pv 3) (pe_op op_add (pe_op op_fdiv (pv 3) pe_int) pe_int)) pa_nil)) pe_int) pe_int) pa_nil)) (pv 1)))))))), ?_⟩
    obtain ⟨a, b, rfl, ⟨x, y, z, ha, hx, hy, hy2, hz⟩, hb, hb2, q⟩ := h
    refine ⟨_, rfl, _, _, _, _, rfl, rfl, SqL.of ha, atI_nat (j := 0) rfl, _, _, rfl, rfl, _, rfl, ?_⟩
    refine ite2 (fun h0 => ?_) (fun h0 => ?_)
    · refine ⟨_, rfl, _, _, _, _, rfl, rfl, SqL.of ha, atI_nat (j := 0) rfl, .inl ⟨_, rfl, _, rfl, _, _, rfl, rfl, hb, ?_⟩⟩
      refine ⟨_, rfl, _, _, _, _, rfl, rfl, SqL.of ha, atI_nat (j := 0) rfl, _, rfl, _, _, rfl, rfl, ⟨hb, hb2⟩, ?_⟩
      refine ⟨_, rfl, _, _, _, 0, rfl, rfl, ha, rfl, ?_⟩
      refine ⟨_, rfl, q _ _ (Int.emod_nonneg _ (by omega)) (Int.emod_lt_of_pos _ hb) (but_upd _ _ _) ⟨_, _, _, upd_same, Int.ediv_nonneg hx (by omega), hy, hy2, hz⟩⟩
    · refine ⟨_, rfl, _, _, _, _, rfl, rfl, SqL.of ha, atI_nat (j := 2) rfl, _, _, rfl, rfl, ?_⟩
      refine ⟨_, rfl, _, _, _, 2, rfl, rfl, ha, rfl, ?_⟩
      obtain ⟨H1, e1⟩ : ∃ H1, upd H a (.lst ([V.int x, V.int y, V.int z].set 2 (V.int (z + 1)))) = H1 := ⟨_, rfl⟩
      have ha1 : H1 a = some (.lst [.int x, .int y, .int (z + 1)]) := by rw [← e1, upd_same]; rfl
      rw [e1]
      refine ⟨_, rfl, _, _, _, _, rfl, rfl, SqL.of ha1, atI_nat (j := 1) rfl, _, rfl, _, _, _, _, rfl, rfl, SqL.of ha1, atI_nat (j := 2) rfl, _, _, rfl, rfl, .inl ⟨by decide, by decide⟩, _, _, rfl, rfl, _, _, rfl, rfl, _, _, rfl, rfl, .inr ⟨by decide, by decide⟩, .inl ⟨_, rfl, _, _, rfl, rfl, (by show (0 : Int) < 2147483647; decide), ?_⟩⟩
      have k1 := Int.emod_nonneg ((y + 104729 * (z + 1) + 11) * 48271) (show (2147483647 : Int) ≠ 0 by decide)
      have k2 := Int.emod_lt_of_pos ((y + 104729 * (z + 1) + 11) * 48271) (show (0 : Int) < 2147483647 by decide)
      refine ⟨_, rfl, _, rfl, _, _, rfl, rfl, ⟨by decide, by decide⟩, _, _, rfl, rfl, _, rfl, _, _, _, _, rfl, rfl, SqL.of ha1, atI_nat (j := 2) rfl, _, _, rfl, rfl, _, _, rfl, rfl, .inl ⟨by omega, by omega⟩, .inl ⟨_, rfl, _, _, rfl, rfl, (by show (0 : Int) < 2147483587; decide), ?_⟩⟩
      have k3 := Int.emod_nonneg ((((y + 104729 * (z + 1) + 11) * 48271) % 2147483647) * ((((y + 104729 * (z + 1) + 11) * 48271) % 2147483647) / 1009 + 69621 + (z + 1))) (show (2147483587 : Int) ≠ 0 by decide)
      have k4 := Int.emod_lt_of_pos ((((y + 104729 * (z + 1) + 11) * 48271) % 2147483647) * ((((y + 104729 * (z + 1) + 11) * 48271) % 2147483647) / 1009 + 69621 + (z + 1))) (show (0 : Int) < 2147483587 by decide)
      refine ⟨_, rfl, _, rfl, _, _, rfl, rfl, ⟨by decide, by decide⟩, _, _, rfl, rfl, _, _, rfl, rfl, .inl ⟨by omega, by omega⟩, .inl ⟨_, rfl, _, _, rfl, rfl, (by show (0 : Int) < 2147483563; decide), _, _, rfl, rfl, ⟨by decide, by decide⟩, .inl ⟨_, rfl, _, rfl, _, _, rfl, rfl, hb, ?_⟩⟩⟩
      refine q _ _ (Int.emod_nonneg _ (by omega)) (Int.emod_lt_of_pos _ hb) ?_ ⟨_, _, _, ha1, hx, hy, hy2, by omega⟩
      rw [← e1]
      exact but_upd _ _ _

abbrev s_made_of : Stmt := top 11
theorem sc_made_of : FnScope ["text", "signs"] ["text", "signs"] (defScope s_made_of) := ⟨rfl, rfl, rfl, by decide +kernel, rfl, by decide +kernel, by decide +kernel⟩

theorem ok_made_of (F : FunD K "is_made_of" "is_made_of" (defArgs s_made_of) (defBody s_made_of) (defScope s_made_of) [] [] f fd) (G : G0 P w K mg base) : FnOk P w K mg base CX0 1 f fd ["text", "signs"] spMade := by
  refine F.ok (CX := CX0) sc_made_of (fun vs H Q E h => ?_) (fun cdv A outer s H vs Q E hr h => ?_)
  · obtain ⟨a, b, rfl, _⟩ := h
    rfl
  · refine ⟨_, PSs.nox (pss_one (ps_ret (pe_cmpR op_eq (pe_bm PySem.F.plainAttrs_str PySem.F.slot_str_strip PySem.F.type_str_strip mt_stripChars (pv 0) (pa_cons (pv 1) pa_nil)) pe_str (nomark _)))), ?_⟩
    obtain ⟨a, b, rfl, hz, q⟩ := h
    exact ⟨_, rfl, rfl, _, rfl, a, b, rfl, rfl, small_line a hz, rfl, q⟩

abbrev s_is_sign : Stmt := top 12
theorem sc_is_sign : FnScope ["thing"] ["thing"] (defScope s_is_sign) := ⟨rfl, rfl, rfl, by decide +kernel, rfl, by decide +kernel, by decide +kernel⟩

theorem ok_is_sign (F : FunD K "is_sign" "is_sign" (defArgs s_is_sign) (defBody s_is_sign) (defScope s_is_sign) [] [] f fd) (G : G0 P w K mg base) : FnOk P w K mg base CX0 1 f fd ["thing"] (spV isSignB) := by
  refine F.ok (CX := CX0) sc_is_sign (fun vs H Q E h => ?_) (fun cdv A outer s H vs Q E hr h => ?_)
  · obtain ⟨v, rfl, _⟩ := h
    rfl
  · refine ⟨_, PSs.nox (pss_one (ps_ret (pe_and (pe_callB call_ie (by rfl) G.isinstance (by decide +kernel) (pa_cons (pv 0) (pa_cons (pe_bty (n := "str") (by rfl) G.str (by decide +kernel)) pa_nil))) (pe_and (pe_cmpR op_eq (pe_callB call_len_str (by rfl) G.len (by decide +kernel) (pa_cons (pv 0) pa_nil)) pe_int (nomark _)) (pe_one (pe_cmpR op_in_sign (pv 0) (pe_sg G.sg) (by rfl))))))), ?_⟩
    obtain ⟨v, rfl, hv, q⟩ := h
    obtain ⟨hf, _, _, hz⟩ := vM_facts v hv
    refine ⟨_, rfl, _, _, _, _, _, rfl, .ty _, flat_ty hf, kit_ty (kit_str hf), _, rfl, ?_⟩
    cases v with
    | str z =>
      refine iteT ⟨_, rfl, z, rfl, small_line z (Nat.le_trans hz (by decide)), rfl, _, rfl, ?_⟩
      refine ite2 (fun h1 => ?_) (fun h1 => ?_)
      · have h1' : z.length = 1 := by have := of_decide_eq_true h1; simp at this; omega
        have e := one_sign (.str z) hv h1'
        refine ⟨_, rfl, _, SG, e, rfl, ?_⟩
        have r : isSignB (.str z) = decide (z.cps.getD 0 0 ∈ SG.cps.toList) := by show ((z.length == 1) && inB z SG) = _; rw [h1']; rfl
        rw [r] at q
        exact q
      · have h1' : z.length ≠ 1 := fun e => h1 (by rw [e]; rfl)
        have r : isSignB (.str z) = false := by show ((z.length == 1) && inB z SG) = _; rw [beq_eq_false_iff_ne.mpr h1']; rfl
        rw [r] at q
        exact q
    | non => exact iteF q
    | bl b => exact iteF q
    | int i => exact iteF q
    | _ => cases hf

abbrev s_is_numberT : Stmt := top 15
theorem sc_is_numberT : FnScope ["thing"] ["thing"] (defScope s_is_numberT) := ⟨rfl, rfl, rfl, by decide +kernel, rfl, by decide +kernel, by decide +kernel⟩

theorem ok_is_numberT (F : FunD K "is_number" "is_number" (defArgs s_is_numberT) (defBody s_is_numberT) (defScope s_is_numberT) [] [] f fd) (G : G0 P w K mg base) : FnOk P w K mg base CX0 1 f fd ["thing"] spNumT := by
  refine F.ok (CX := CX0) sc_is_numberT (fun vs H Q E h => ?_) (fun cdv A outer s H vs Q E hr h => ?_)
  · obtain ⟨v, rfl, _⟩ := h
    rfl
  · refine ⟨_, PSs.nox (pss_one (ps_ret (pe_and (pe_callB call_ie (by rfl) G.isinstance (by decide +kernel) (pa_cons (pv 0) (pa_cons (pe_bty (n := "int") (by rfl) G.int (by decide +kernel)) pa_nil))) (pe_one (pe_not (pe_callB call_ie (by rfl) G.isinstance (by decide +kernel) (pa_cons (pv 0) (pa_cons (pe_bty (n := "bool") (by rfl) G.bool (by decide +kernel)) pa_nil)))))))), ?_⟩
    obtain ⟨v, rfl, hf, q⟩ := h
    obtain ⟨T, ty, ks, ki, kb⟩ := thg_ty (K := K) hf
    refine ⟨_, rfl, _, _, _, _, _, rfl, .ty _, ty, kit_ty ki, _, rfl, ?_⟩
    cases v with
    | bl b => exact iteT ⟨_, rfl, _, _, _, _, _, rfl, .ty _, ty, kit_ty kb, _, rfl, q⟩
    | int i => exact iteT ⟨_, rfl, _, _, _, _, _, rfl, .ty _, ty, kit_ty kb, _, rfl, q⟩
    | _ => exact iteF q

theorem ok_is_number (F : FunD K "is_number" "is_number" (defArgs s_is_numberT) (defBody s_is_numberT) (defScope s_is_numberT) [] [] f fd) (G : G0 P w K mg base) : FnOk P w K mg base CX0 1 f fd ["thing"] spNum := (ok_is_numberT F G).imp fun vs H Q E ⟨v, e, h, q⟩ => ⟨v, e, .inl h, q⟩
theorem dg_is (n : Int) : dg n = (toString n : Str) := rfl
theorem dg_len12 {n : Nat} (h : n < 1000000000000) : (dg (n : Nat)).length ≤ 12 := toString_length_le (Int.natCast_nonneg n) (by decide) (by show (n : Int) < 1000000000000; omega)
theorem dg_log {n : Nat} (h : n < 1000000000000) : (n : Int).natAbs.log2 < 1920 := by
  have h : (n : Int).natAbs < 2 ^ 40 := by show n < 1099511627776; omega
  by_cases h0 : (n : Int).natAbs = 0
  · rw [h0]
    decide
  · have := (Nat.log2_lt h0).mpr h
    omega
theorem dg_ok {n : Nat} (h : n < 1000000000000) : JoinOk "" [(toString (n : Int) : Str)] = true := by
  have := dg_len12 h
  rw [dg_is] at this
  show (!decide (0 + (toString (n : Int) : Str).length + 0 > 2 ^ 24)) = true
  rw [decide_eq_false (by omega)]
  rfl

abbrev s_digits_of : Stmt := top 17
theorem sc_digits_of : FnScope ["number", "limit", "pieces", "piece"] ["number"] (defScope s_digits_of) := ⟨rfl, rfl, rfl, by decide +kernel, rfl, by decide +kernel, by decide +kernel⟩

theorem ok_digits_of (F : FunD K "digits_of" "digits_of" (defArgs s_digits_of) (defBody s_digits_of) (defScope s_digits_of) [] [] f fd) (G : G0 P w K mg base) : FnOk P w K mg base CX0 1 f fd ["number"] spDig := by
  refine F.ok (CX := CX0) sc_digits_of (fun vs H Q E h => ?_) (fun cdv A outer s H vs Q E hr h => ?_)
  · obtain ⟨n, rfl, _⟩ := h
    rfl
  · refine ⟨_, PSs.nox (pss_cons (ps_set (i := 1) sc_digits_of.nd rfl (Or.inl rfl) (pe_op op_pow pe_int pe_int))
    (pss_cons (ps_set (i := 2) sc_digits_of.nd rfl (Or.inl rfl) (pe_lstS pa_nil))
    (pss_cons (ps_while PassesOwn.never (pt_cmpR op_ge (pv 0) (pv 1) (nomark _)) pss_never)
    (pss_cons (ps_expr (pe_bm PySem.F.plainAttrs_list PySem.F.slot_list_append PySem.F.type_list_append mt_append (pv 2) (pa_cons (pe_callTy call_str_int (by rfl) G.str (by decide +kernel) (pa_cons (pv 0) pa_nil)) pa_nil)))
    (pss_one (ps_ret (pe_joinRev rfl (by rfl) G.reversed pe_str (pv 2)))))))), ?_⟩
    obtain ⟨n, rfl, h0, h1, q⟩ := h
    obtain ⟨k, rfl⟩ : ∃ k : Nat, n = (k : Int) := ⟨n.toNat, by omega⟩
    have hk : k < 1000000000000 := by omega
    refine ⟨_, _, rfl, rfl, ⟨by decide, by decide, by decide⟩, ?_⟩
    refine ⟨by show 0 ≤ 1000; decide, fun p H1 hp S e => ?_⟩
    refine ⟨fun m σ' H' => m = 0 ∧ σ' = [some (.int (k : Int)), some (.int (10 ^ (64 : Int).toNat)), some (.ref p), none] ∧ H' = H1, ⟨0, rfl, rfl, rfl⟩, ?_⟩
    rintro m σ' H' ⟨rfl, rfl, rfl⟩
    refine ⟨_, rfl, _, rfl, _, _, rfl, rfl, _, rfl, ?_⟩
    refine ite2 (fun hf => ?_) (fun _ => ?_)
    · have z := of_decide_eq_true hf
      have e : (10 : Int) ^ (64 : Int).toNat = 10000000000000000000000000000000000000000000000000000000000000000 := by decide +kernel
      rw [e] at z
      omega
    refine ⟨_, rfl, .inl ⟨rfl, _, SqL.of e⟩, _, rfl, _, rfl, dg_log hk, p, _, _, rfl, rfl, e, (by rw [sizeLine_eq]; decide), ?_⟩
    refine ⟨_, rfl, _, rfl, p, [(toString (k : Int) : Str)], rfl, SqL.of upd_same, dg_ok hk, ?_⟩
    exact q _ (same_put S hp)

structure G1 (P : Program) (w : World) (K : Frag) (mg : Str → Option Value) (base : Heap) : Prop extends G0 P w K mg base where
  is_made_of : FnAt P w K mg base CX0 1 "is_made_of" ["text", "signs"] spMade
  is_sign : FnAt P w K mg base CX0 1 "is_sign" ["thing"] (spV isSignB)
  is_number : FnAt P w K mg base CX0 1 "is_number" ["thing"] spNum
  digits_of : FnAt P w K mg base CX0 1 "digits_of" ["number"] spDig

abbrev s_are_signs : Stmt := top 13
theorem sc_are_signs : FnScope ["thing"] ["thing"] (defScope s_are_signs) := ⟨rfl, rfl, rfl, by decide +kernel, rfl, by decide +kernel, by decide +kernel⟩

theorem ok_are_signs (F : FunD K "are_signs" "are_signs" (defArgs s_are_signs) (defBody s_are_signs) (defScope s_are_signs) [] [] f fd) (G : G1 P w K mg base) : FnOk P w K mg base CX0 2 f fd ["thing"] (spV areB) := by
  refine F.ok (CX := CX0) sc_are_signs (fun vs H Q E h => ?_) (fun cdv A outer s H vs Q E hr h => ?_)
  · obtain ⟨v, rfl, _⟩ := h
    rfl
  · refine ⟨_, PSs.nox (pss_one (ps_ret (pe_and (pe_callB call_ie (by rfl) G.isinstance (by decide +kernel) (pa_cons (pv 0) (pa_cons (pe_bty (n := "str") (by rfl) G.str (by decide +kernel)) pa_nil))) (pe_one (pe_fn G.is_made_of hr pass0 (by rfl) (pa_cons (pv 0) (pa_cons (pe_sg G.sg) pa_nil))))))), ?_⟩
    obtain ⟨v, rfl, hv, q⟩ := h
    obtain ⟨hf, _, _, hz⟩ := vM_facts v hv
    refine ⟨_, rfl, _, _, _, _, _, rfl, .ty _, flat_ty hf, kit_ty (kit_str hf), _, rfl, ?_⟩
    cases v with
    | str z => exact iteT ⟨_, rfl, z, SG, rfl, Nat.le_trans hz (by decide), q⟩
    | non => exact iteF q
    | bl b => exact iteF q
    | int i => exact iteF q
    | _ => cases hf

structure G2 (P : Program) (w : World) (K : Frag) (mg : Str → Option Value) (base : Heap) : Prop extends G1 P w K mg base where
  are_signs : FnAt P w K mg base CX0 2 "are_signs" ["thing"] (spV areB)
def spChkS (K : Frag) : Sp := fun vs H Q E => ∃ v : V, vs = [v] ∧ v ∈ sM ∧ (sBad v = false → Q .non H) ∧ (sBad v = true → RaiseE (BF K) "what" (.str "signs") H E)
def spChkB (K : Frag) : Sp := fun vs H Q E => ∃ l m : V, vs = [l, m] ∧ flatV l = true ∧ flatV m = true ∧ (bDue l m = none → Q .non H) ∧ (∀ z, bDue l m = some z → RaiseE (BF K) "what" (.str z) H E)

abbrev s_check_signs : Stmt := top 21
theorem sc_check_signs : FnScope ["signs"] ["signs"] (defScope s_check_signs) := ⟨rfl, rfl, rfl, by decide +kernel, rfl, by decide +kernel, by decide +kernel⟩

theorem ok_check_signs (F : FunD K "check_signs" "check_signs" (defArgs s_check_signs) (defBody s_check_signs) (defScope s_check_signs) [] [] f fd) (G : G2 P w K mg base) : FnOk P w K mg base (L2.CX P w) 3 f fd ["signs"] (spChkS K) := by
  refine F.ok (CX := (L2.CX P w)) sc_check_signs (fun vs H Q E h => ?_) (fun cdv A outer s H vs Q E hr h => ?_)
  · obtain ⟨v, rfl, _⟩ := h
    rfl
  · have hr2 : Room 2 _ := hr
    refine ⟨_, (pss_one (ps_if (PW.pt (pw_or (pt_not (pt_val (pe_fn G.are_signs hr2 pass0 (by rfl) (pa_cons (pv 0) pa_nil)))) (pw_or (pt_cmpR op_eq (pv 0) pe_str (nomark _)) (pw_or1 (pt_cmpR op_lt (pe_lenSetStr rfl (by rfl) G.len (by rfl) G.set (pv 0)) (pe_callB call_len_str (by rfl) G.len (by decide +kernel) (pa_cons (pv 0) pa_nil)) (nomark _))))))
      (pss_one (ps_raise rfl (takes_of rfl rfl rfl rfl) (pmk_1 G.bf hr2 (by rfl) (pa_cons pe_str pa_nil))))
      pss_nil)), ?_⟩
    obtain ⟨v, rfl, hv, q1, q2⟩ := h
    obtain ⟨hf, _, _, hz⟩ := vM_facts v (sM_vM hv)
    refine ⟨_, rfl, v, rfl, sM_vM hv, _, rfl, ?_⟩
    have bad : ∀ h : sBad v = true, _ := fun h => mkO_1 (q2 h)
    show if (!areB v) = true then _ else _
    refine ite2 (fun h1 => bad (by show (!areB v || _) = true; rw [h1]; rfl)) (fun h1 => ?_)
    cases v with
    | str z =>
      refine ⟨_, rfl, rfl, _, rfl, ?_⟩
      refine ite2 (fun h2 => bad (by show (_ || (decide _ || _)) = true; rw [h2]; exact Bool.or_true _)) (fun h2 => ?_)
      refine ⟨_, rfl, z, rfl, Nat.le_trans hz (by decide), _, rfl, z, rfl, small_line z (Nat.le_trans hz (by decide)), _, _, rfl, rfl, _, rfl, ?_⟩
      refine ite2 (fun h3 => bad ?_) (fun h3 => q1 ?_)
      · have h4 : twB (.str z) = true := decide_eq_true (by have := of_decide_eq_true h3; omega)
        show (_ || (_ || twB (.str z))) = true
        rw [h4, Bool.or_true, Bool.or_true]
      · have h4 : twB (.str z) = false := decide_eq_false (fun h => h3 (decide_eq_true (by omega)))
        show (!areB (.str z) || (decide (V.str z = .str "") || twB (.str z))) = false
        rw [h4, Bool.eq_false_iff.mpr h1, Bool.eq_false_iff.mpr h2]
        rfl
    | _ => exact absurd rfl h1

abbrev s_check_span : Stmt := top 22
theorem sc_check_span : FnScope ["least", "most"] ["least", "most"] (defScope s_check_span) := ⟨rfl, rfl, rfl, by decide +kernel, rfl, by decide +kernel, by decide +kernel⟩

theorem ok_check_span (F : FunD K "check_span" "check_span" (defArgs s_check_span) (defBody s_check_span) (defScope s_check_span) [] [] f fd) (G : G2 P w K mg base) : FnOk P w K mg base (L2.CX P w) 3 f fd ["least", "most"] (spChkB K) := by
  refine F.ok (CX := (L2.CX P w)) sc_check_span (fun vs H Q E h => ?_) (fun cdv A outer s H vs Q E hr h => ?_)
  · obtain ⟨l, m, rfl, _⟩ := h
    rfl
  · have hr2 : Room 2 _ := hr
    refine ⟨_, (pss_cons (ps_if (PW.pt (pw_or (pt_not (pt_val (pe_fn G.is_number (hr2.mono (by decide)) pass0 (by rfl) (pa_cons (pv 0) pa_nil)))) (pw_or1 (pt_cmpR op_lt (pv 0) pe_int (nomark _)))))
      (pss_one (ps_raise rfl (takes_of rfl rfl rfl rfl) (pmk_1 G.bf hr2 (by rfl) (pa_cons pe_str pa_nil))))
      pss_nil)
    (pss_one (ps_if (PW.pt (pw_and (pt_cmpR op_notN (pv 1) pe_non (nomark _)) (pw_and1 (PW.pt (pw_or (pt_not (pt_val (pe_fn G.is_number (hr2.mono (by decide)) pass0 (by rfl) (pa_cons (pv 1) pa_nil)))) (pw_or1 (pt_cmpR op_lt (pv 1) (pv 0) (nomark _))))))))
      (pss_one (ps_raise rfl (takes_of rfl rfl rfl rfl) (pmk_1 G.bf hr2 (by rfl) (pa_cons pe_str pa_nil))))
      pss_nil))), ?_⟩
    obtain ⟨l, m, rfl, hl, hm, q1, q2⟩ := h
    refine ⟨_, rfl, l, rfl, hl, _, rfl, ?_⟩
    show if (!numB l) = true then _ else _
    refine ite2 (fun h1 => mkO_1 (q2 _ (by show (if (!numB l || _) = true then _ else _) = _; rw [h1]; rfl))) (fun h1 => ?_)
    cases l with
    | int i =>
      refine ⟨_, rfl, _, _, rfl, rfl, _, rfl, ?_⟩
      refine ite2 (fun h2 => mkO_1 (q2 _ (by show (if (_ || decide (i < 0)) = true then _ else _) = _; rw [h2]; rfl))) (fun h2 => ?_)
      refine ⟨_, rfl, rfl, _, rfl, ?_⟩
      have e0 : bDue (.int i) m = if (!decide (m = .non) && (!numB m || ltV m (.int i))) = true then (some "most" : Option Str) else none := by
        show (if (!true || decide (i < 0)) = true then _ else _) = _
        rw [Bool.eq_false_iff.mpr h2]
        rfl
      rw [e0] at q1 q2
      refine ite2 (fun h3 => ?_) (fun h3 => q1 (by rw [Bool.eq_false_iff.mpr h3]; rfl))
      refine ⟨_, rfl, m, rfl, hm, _, rfl, ?_⟩
      show if (!numB m) = true then _ else _
      refine ite2 (fun h4 => mkO_1 (q2 _ (by rw [h3, h4]; rfl))) (fun h4 => ?_)
      cases m with
      | int j =>
        refine ⟨_, rfl, _, rfl, _, _, rfl, rfl, _, rfl, ?_⟩
        refine ite2 (fun h5 => mkO_1 (q2 _ (by show (if (_ && (_ || decide (j < i))) = true then _ else _) = _; rw [h3, h5]; rfl))) (fun h5 => q1 (by show (if (_ && (!true || decide (j < i))) = true then _ else _) = _; rw [h3, Bool.eq_false_iff.mpr h5]; rfl))
      | _ => exact absurd rfl h4
    | _ => exact absurd rfl h1

def spHww (K : Frag) : Sp := fun vs H Q _ => ∃ (a C dx : Addr) (fs : List (Str × V)) (c : Nat) (z : Str) (m : V), vs = [.ref a, .str ⟨#[c]⟩] ∧ H a = some (.ins C dx fs) ∧ Cls K C ∧ NoAttr K C "signs" ∧ NoAttr K C "most" ∧ fs.lookup ("signs" : Str) = some (.str z) ∧ fs.lookup ("most" : Str) = some m ∧
  scal m (.int 0) = true ∧ Q (.bl (wwB (.str z) m ⟨#[c]⟩)) H

abbrev s_has_words : Stmt := top 25
theorem sc_has_words : FnScope ["field", "sign"] ["field", "sign"] (defScope s_has_words) := ⟨rfl, rfl, rfl, by decide +kernel, rfl, by decide +kernel, by decide +kernel⟩

theorem ok_has_words (F : FunD K "has_words_with" "has_words_with" (defArgs s_has_words) (defBody s_has_words) (defScope s_has_words) [] [] f fd) (G : G0 P w K mg base) : FnOk P w K mg base CX0 1 f fd ["field", "sign"] (spHww K) := by
  refine F.ok (CX := CX0) sc_has_words (fun vs H Q E h => ?_) (fun cdv A outer s H vs Q E hr h => ?_)
  · obtain ⟨a, C, dx, fs, c, z, m, rfl, _⟩ := h
    rfl
  · refine ⟨_, PSs.nox (pss_one (ps_ret (pe_and (pe_cmpR op_in_sign (pv 1) (pe_fld (pv 0) rfl) (by rfl)) (pe_one (pe_cmpR op_ne (pe_fld (pv 0) rfl) pe_int (nomark _)))))), ?_⟩
    obtain ⟨a, C, dx, fs, c, z, m, rfl, ha, hC, n1, n2, l1, l2, sc, q⟩ := h
    refine ⟨_, rfl, _, rfl, a, C, dx, fs, _, rfl, ha, hC, n1, l1, c, z, rfl, rfl, _, rfl, ?_⟩
    refine ite2 (fun h1 => ?_) (fun h1 => ?_)
    · refine ⟨_, rfl, a, C, dx, fs, _, rfl, ha, hC, n2, l2, sc, ?_⟩
      have e : wwB (.str z) m ⟨#[c]⟩ = !decide (m = .int 0) := by show (decide (c ∈ z.cps.toList) && _) = _; rw [h1]; rfl
      rw [e] at q
      exact q
    · have e : wwB (.str z) m ⟨#[c]⟩ = false := by show (decide (c ∈ z.cps.toList) && _) = _; rw [Bool.eq_false_iff.mpr h1]; rfl
      rw [e] at q
      exact q

end
end L2.K80

set_option Elab.async false
set_option linter.all false
set_option maxRecDepth 100000
set_option maxHeartbeats 4000000
/-! 'x' * n, n at least 1. -/
namespace L2.Jk
open PySem PySem.W PySem.Spec PySem.Calls PyProof.Rows
def repS (z : Str) (i : Int) : Str := ⟨(List.replicate i.toNat z.cps).foldl (· ++ ·) #[]⟩
/-- it may be done -/
def repOk (z : Str) (i : Int) : Bool := decide (1 ≤ i) && (decide (i < 1000) && (decide (z.length = 1) && (!Builtin.Str.tooLong (z.length * i.toNat) && decide ((repS z i).length ≤ 16777216))))
theorem op_mulStr {X : Cx} : OpR X (binaryOp .Mult) (fun x y H Q => ∃ (z : Str) (i : Int), x = .str z ∧ y = .int i ∧ repOk z i = true ∧ Q (.str (repS z i)) H) := by
  intro pins s σ H x y v u Q I rx ry h
  obtain ⟨z, i, rfl, rfl, ok, q⟩ := h
  obtain ⟨t, rfl⟩ := rx
  obtain ⟨t', rfl⟩ := ry
  obtain ⟨o1, ok⟩ := Bool.and_eq_true_iff.mp ok
  obtain ⟨o2, ok⟩ := Bool.and_eq_true_iff.mp ok
  obtain ⟨o3, ok⟩ := Bool.and_eq_true_iff.mp ok
  obtain ⟨o4, o5⟩ := Bool.and_eq_true_iff.mp ok
  replace o1 := of_decide_eq_true o1
  replace o2 := of_decide_eq_true o2
  replace o3 := of_decide_eq_true o3
  replace o5 := of_decide_eq_true o5
  have e1 : ¬ i < 1 := by omega
  by_cases h1 : i = 1
  · subst h1
    have er : repS z 1 = z := by
      obtain ⟨c⟩ := z
      show (⟨(List.replicate 1 c).foldl (· ++ ·) #[]⟩ : Str) = ⟨c⟩
      simp
    rw [er] at q
    refine P.mul_str (by decide) (fun _ h => absurd h (by simp)) (fun _ h => absurd h (by simp)) ?_
    rw [if_neg e1, if_pos (show ((1 : Int) == 1 || z.length == 0) = true from rfl)]
    exact ⟨.str z, H, I, ⟨t, rfl⟩, q⟩
  have e2 : (i == 1 || z.length == 0) = false := by
    rw [o3, show (i == 1) = false from beq_eq_false_iff_ne.mpr h1]
    rfl
  refine P.mul_str (by rw [decide_eq_false (by omega), decide_eq_false (by omega)]; rfl) (fun _ _ => ?_) (fun _ _ => by rwa [Bool.not_eq_true'] at o4) ?_
  · rw [o3]
    have h2 : (1 : Int) ≤ (2 ^ 63 - 1) / i := Int.le_ediv_of_mul_le (by omega) (by omega)
    omega
  · rw [if_neg e1, e2]
    exact ⟨by rw [sizeLine_eq]; exact o5, ⟨.str _, H, I.tok _, ⟨_, rfl⟩, q⟩⟩
end L2.Jk

set_option Elab.async false
set_option linter.all false
set_option maxRecDepth 100000
set_option maxHeartbeats 4000000
/-! Tuples of which it is known that they have no dict: made, their methods called. -/
namespace L2.Jk
open PySem PySem.W PySem.Spec PySem.Calls PyProof.Rows
/-- at t: a tuple of these items, an object without a dict -/
def TupZ (H : Hp) (t : Addr) (xs : List V) : Prop := ∃ o : Obj, o.cls = .type "tuple" ∧ o.dict = none ∧ H t = some (.frz o (.tup xs))
theorem TupZ.same {H H' : Hp} {t : Addr} {xs : List V} (S : Same H H') (h : TupZ H t xs) : TupZ H' t xs := by
  obtain ⟨o, c, d, e⟩ := h
  exact ⟨o, c, d, S _ _ e⟩
theorem TupZ.sq {K : Frag} {H : Hp} {t : Addr} {xs : List V} (h : TupZ H t xs) : SqT K H t xs := by
  obtain ⟨o, c, d, e⟩ := h
  exact .inl (.inr ⟨o, e⟩)
section
variable {X : Cx}
def rTupZ (K : Frag) : List V → Hp → VK → Prop := fun xs H Q => ∃ p ys, xs = [.ref p] ∧ ((SqL K H p ys ∧ ∀ l H', H l = none → Same H H' → TupZ H' l ys → Q (.ref l) H') ∨ (SqT K H p ys ∧ Q (.ref p) H))
theorem call_tupleZ : CallR X (.type "tuple") (rTupZ X.K) := by
  intro pins s σ H xs us Q I r h
  obtain ⟨p, ys, rfl, h⟩ := h
  obtain ⟨u, rfl, rx⟩ := vals1 r
  cases rx
  rcases h with ⟨hq, q⟩ | ⟨hq, q⟩
  · obtain ⟨its, r', pl, hz⟩ := I.list hq
    have hlen := r'.length
    refine call_tuple_list pl.isList (fun h' kp => ?_) (by simp only [List.size_toArray] <;> omega)
    have I1 : Inv X pins σ H { s with heap := h' } := I.kept (t' := s.toks) kp
    have I2 : Inv X pins σ (upd H h'.objs.size (.frz { cls := .type "tuple", data := .seq its.toArray } (.tup ys))) { s with heap := h'.push { cls := .type "tuple", data := .seq its.toArray } } :=
      I1.laid (t' := s.toks) (fun b o e => Heap.get?_push_of_some _ e) (Nat.le_refl _) ⟨Heap.get?_push_size _ rfl, show ObjOk X.prog X.w _ _ _ (.tup ys) from ⟨hz, its, r', IsTup.new _ _⟩⟩
    have n := I1.hok.fresh (a := h'.objs.size) (Nat.le_refl _)
    exact ⟨.ref h'.objs.size, _, I2, rfl, q _ _ n (same_upd n) ⟨_, rfl, rfl, upd_same⟩⟩
  · obtain ⟨its, r', pl, hz⟩ := I.tuple hq
    exact call_tuple_same pl ⟨.ref p, H, I, rfl, q⟩
/-- a tuple display -/
def tTupZ (t : TA) : TE := fun σ H Q => t σ H fun xs H1 => xs.length ≤ 1000 ∧ ∀ p H', H1 p = none → Same H1 H' → TupZ H' p xs → Q (.ref p) H'
theorem pe_tupZ {es : List Expr} {t : TA} {pos : Pos} {k} (ha : PA X es t) : PE X (.Tuple es k pos) (tTupZ t) := by
  constructor
  intro pins s σ H Q I h
  refine wpAny_Tuple_spliced (thn (ha.run pos pins s σ H _ I h) fun us s1 ⟨xs, H1, I1, r, z, q⟩ => ?_)
  have z' := Nat.le_of_lt (small1000 z)
  have n : H1 s1.heap.objs.size = none := I1.fresh
  refine ⟨by rw [← r.length]; exact z', .ref s1.heap.objs.size, _, I1.laid (t' := s1.toks) (o := .frz { cls := .type "tuple", data := .seq us.toArray } (.tup xs)) (fun b u e => Heap.get?_push_of_some _ e) (Nat.le_refl _) ?_, rfl, q _ _ n (same_upd n) ⟨_, rfl, rfl, upd_same⟩⟩
  exact ⟨Heap.get?_push_size _ rfl, z', us, r, IsTup.new _ _⟩
/-- o.m(e, ..) of such a tuple -/
def tBMZ (r : V → List V → Hp → VK → Prop) (to : TE) (t : TA) : TE := fun σ H Q => to σ H fun x H1 => (∃ p xs, x = .ref p ∧ TupZ H1 p xs) ∧ t σ H1 fun xs H2 => r x xs H2 Q
variable {o e : Expr} {es : List Expr} {to : TE} {t : TA} {name : Str} {apos cpos : Pos} {id : String} {r : V → List V → Hp → VK → Prop}
theorem pe_bmZ (slot : Slot "tuple" name id) (hty : typeOf (.builtin id) = pure (.type "method_descriptor")) (pa : PlainAttrs "tuple") (hm : MtR X id r) (ho : PE X o to) (ha : PA X (e :: es) t)
    (hbase : attributeBase o name X.env (eval o X.env) = eval o X.env := by rfl)
    (hfew : ((backTo cpos (starEach (e :: es) X.env)).all (fun x => !x.1) && (backToKw cpos (keywordEach [] X.env)).all (fun x => x.1.isSome)
      && decide ((e :: es).length + ([] : List Keyword).length + (if ([] : List Keyword).isEmpty then 0 else 1) < 30)) = true := by rfl)
    (hline : (apos.endLine == cpos.line) = true := by rfl) (hs : starEach (e :: es) X.env = (false, eval e X.env) :: starEach es X.env := by rfl) (hplain : (backTo cpos (starEach es X.env)).any (·.1) = false := by rfl) :
    PE X (.Call (.Attribute o name apos) (e :: es) [] cpos) (tBMZ r to t) := by
  refine ⟨fun pins s σ H Q I h => ?_⟩
  refine wpAny_Call_method_late hbase hfew hline rfl (thn (ho.run pins s σ H _ I h) fun v s1 ⟨x, H1, I1, r1, ⟨p, ys, ex, ob, hc, hd, hp⟩, q1⟩ => ?_)
  subst ex
  obtain rfl : v = Value.ref p := r1
  obtain ⟨hg, _⟩ := (show s1.heap.get? p = some ob ∧ ObjOk X.prog X.w H1 s1.heap p (.tup ys) from I1.hok p _ hp)
  refine ⟨"tuple", id, pa, slot, hty, ⟨ob, hg, hc⟩, (fun a e => by cases e; exact ⟨ob, hg, hd⟩), ?_⟩
  have hA := ha.run cpos pins s1 σ H1 _ I1 q1
  rw [hs] at hA ⊢
  refine Calls.callWith_builtin (by show (false || (backTo cpos (starEach es X.env)).any (·.1)) = false; rw [hplain] <;> rfl) (Calls.evalArgs_plain ?_)
  exact thn hA fun us s2 ⟨vs, H2, I2, r2, q2⟩ => hm pins s2 σ H2 (.ref p) vs (.ref p) us Q I2 rfl r2 q2
end
end L2.Jk

set_option Elab.async false
set_option linter.all false
set_option maxRecDepth 100000
set_option maxHeartbeats 4000000
namespace L2.K80
open PySem PySem.W PySem.Spec PySem.Calls PyProof.Rows L2.Jk
section
variable {P : Program} {w : World} {K : Frag} {mg : Str → Option Value} {base : Heap} {f : Addr} {fd : FuncData}

/-- a field class: its name, its attributes -/
structure C0 (K : Frag) (mg : Str → Option Value) (x : Str) (fs : List Str) : Prop where
  mgC : mg x = some (.ref (He.ga K x))
  cl : Cls K (He.ga K x)
  no : ∀ f ∈ fs, NoAttr K (He.ga K x) f

def fWord (s l m : V) : List (Str × V) := (putF "most" m (putF "least" l (putF "signs" s [])))
theorem lWord_signs {s l m : V} : (fWord s l m).lookup ("signs" : Str) = some s := by unfold fWord; rw [lookup_putF, if_neg (by decide +kernel)]; rw [lookup_putF, if_neg (by decide +kernel)]; rw [lookup_putF, if_pos rfl]
theorem lWord_least {s l m : V} : (fWord s l m).lookup ("least" : Str) = some l := by unfold fWord; rw [lookup_putF, if_neg (by decide +kernel)]; rw [lookup_putF, if_pos rfl]
theorem lWord_most {s l m : V} : (fWord s l m).lookup ("most" : Str) = some m := by unfold fWord; rw [lookup_putF, if_pos rfl]
theorem lWord_hs {s l m : V} : (fWord s l m).lookup ("has_sign" : Str) = none := by unfold fWord; rw [lookup_putF, if_neg (by decide +kernel)]; rw [lookup_putF, if_neg (by decide +kernel)]; rw [lookup_putF, if_neg (by decide +kernel)]; rfl
def fNumber (l m : V) : List (Str × V) := (putF "most" m (putF "least" l []))
theorem lNumber_least {l m : V} : (fNumber l m).lookup ("least" : Str) = some l := by unfold fNumber; rw [lookup_putF, if_neg (by decide +kernel)]; rw [lookup_putF, if_pos rfl]
theorem lNumber_most {l m : V} : (fNumber l m).lookup ("most" : Str) = some m := by unfold fNumber; rw [lookup_putF, if_pos rfl]
theorem lNumber_hs {l m : V} : (fNumber l m).lookup ("has_sign" : Str) = none := by unfold fNumber; rw [lookup_putF, if_neg (by decide +kernel)]; rw [lookup_putF, if_neg (by decide +kernel)]; rfl
def fFixed (w : V) : List (Str × V) := (putF "width" w [])
theorem lFixed_width {w : V} : (fFixed w).lookup ("width" : Str) = some w := by unfold fFixed; rw [lookup_putF, if_pos rfl]
theorem lFixed_hs {w : V} : (fFixed w).lookup ("has_sign" : Str) = none := by unfold fFixed; rw [lookup_putF, if_neg (by decide +kernel)]; rfl
def fListed (x : V) : List (Str × V) := (putF "texts" x [])
theorem lListed_texts {x : V} : (fListed x).lookup ("texts" : Str) = some x := by unfold fListed; rw [lookup_putF, if_pos rfl]
theorem lListed_hs {x : V} : (fListed x).lookup ("has_sign" : Str) = none := by unfold fListed; rw [lookup_putF, if_neg (by decide +kernel)]; rfl
def fEnded (s e l m : V) : List (Str × V) := (putF "most" m (putF "least" l (putF "sign" e (putF "signs" s []))))
theorem lEnded_signs {s e l m : V} : (fEnded s e l m).lookup ("signs" : Str) = some s := by unfold fEnded; rw [lookup_putF, if_neg (by decide +kernel)]; rw [lookup_putF, if_neg (by decide +kernel)]; rw [lookup_putF, if_neg (by decide +kernel)]; rw [lookup_putF, if_pos rfl]
theorem lEnded_sign {s e l m : V} : (fEnded s e l m).lookup ("sign" : Str) = some e := by unfold fEnded; rw [lookup_putF, if_neg (by decide +kernel)]; rw [lookup_putF, if_neg (by decide +kernel)]; rw [lookup_putF, if_pos rfl]
theorem lEnded_least {s e l m : V} : (fEnded s e l m).lookup ("least" : Str) = some l := by unfold fEnded; rw [lookup_putF, if_neg (by decide +kernel)]; rw [lookup_putF, if_pos rfl]
theorem lEnded_most {s e l m : V} : (fEnded s e l m).lookup ("most" : Str) = some m := by unfold fEnded; rw [lookup_putF, if_pos rfl]
theorem lEnded_hs {s e l m : V} : (fEnded s e l m).lookup ("has_sign" : Str) = none := by unfold fEnded; rw [lookup_putF, if_neg (by decide +kernel)]; rw [lookup_putF, if_neg (by decide +kernel)]; rw [lookup_putF, if_neg (by decide +kernel)]; rw [lookup_putF, if_neg (by decide +kernel)]; rfl
def fMarked (n k y : V) : List (Str × V) := (putF "field" y (putF "mark" k (putF "none" n [])))
theorem lMarked_none {n k y : V} : (fMarked n k y).lookup ("none" : Str) = some n := by unfold fMarked; rw [lookup_putF, if_neg (by decide +kernel)]; rw [lookup_putF, if_neg (by decide +kernel)]; rw [lookup_putF, if_pos rfl]
theorem lMarked_mark {n k y : V} : (fMarked n k y).lookup ("mark" : Str) = some k := by unfold fMarked; rw [lookup_putF, if_neg (by decide +kernel)]; rw [lookup_putF, if_pos rfl]
theorem lMarked_field {n k y : V} : (fMarked n k y).lookup ("field" : Str) = some y := by unfold fMarked; rw [lookup_putF, if_pos rfl]
theorem lMarked_hs {n k y : V} : (fMarked n k y).lookup ("has_sign" : Str) = none := by unfold fMarked; rw [lookup_putF, if_neg (by decide +kernel)]; rw [lookup_putF, if_neg (by decide +kernel)]; rw [lookup_putF, if_neg (by decide +kernel)]; rfl

/-- the field d stands at a -/
def FieldAt (K : Frag) (H : Hp) (a : Addr) : PD → Prop
  | .word s l m => ∃ dx, H a = some (.ins (He.ga K "Word") dx (fWord s l m))
  | .number l m => ∃ dx, H a = some (.ins (He.ga K "Number") dx (fNumber l m))
  | .fixed w => ∃ dx, H a = some (.ins (He.ga K "Fixed") dx (fFixed w))
  | .listed x => ∃ dx t, H a = some (.ins (He.ga K "Listed") dx (fListed (.ref t))) ∧ TupZ H t x.els
  | .ended s e l m => ∃ dx, H a = some (.ins (He.ga K "Ended") dx (fEnded s e l m))
theorem FieldAt.same {H H' : Hp} {a : Addr} (S : Same H H') : ∀ {d : PD}, FieldAt K H a d → FieldAt K H' a d
  | .word .., ⟨dx, h⟩ => ⟨dx, S _ _ h⟩
  | .number .., ⟨dx, h⟩ => ⟨dx, S _ _ h⟩
  | .fixed _, ⟨dx, h⟩ => ⟨dx, S _ _ h⟩
  | .listed _, ⟨dx, t, h, k⟩ => ⟨dx, t, S _ _ h, k.same S⟩
  | .ended .., ⟨dx, h⟩ => ⟨dx, S _ _ h⟩
/-- of values that are taken -/
structure G3 (P : Program) (w : World) (K : Frag) (mg : Str → Option Value) (base : Heap) : Prop extends G2 P w K mg base where
  check_signs : FnAt P w K mg base (L2.CX P w) 3 "check_signs" ["signs"] (spChkS K)
  check_span : FnAt P w K mg base (L2.CX P w) 3 "check_span" ["least", "most"] (spChkB K)
  has_words_with : FnAt P w K mg base CX0 1 "has_words_with" ["field", "sign"] (spHww K)
  cWord : C0 K mg "Word" ["signs", "least", "most"]
  cNumber : C0 K mg "Number" ["least", "most"]
  cFixed : C0 K mg "Fixed" ["width"]
  cListed : C0 K mg "Listed" ["texts"]
  cEnded : C0 K mg "Ended" ["signs", "sign", "least", "most"]
  cMarked : C0 K mg "Marked" ["none", "mark", "field"]

def spWord (K : Frag) : Sp := fun vs H Q E => ∃ (a dx : Addr) (s l m : V), vs = [.ref a, s, l, m] ∧ H a = some (.ins (He.ga K "Word") dx []) ∧ s ∈ sM ∧ l ∈ nM ∧ m ∈ nM ∧ (oDue s l m = none → Q .non (upd H a (.ins (He.ga K "Word") dx (fWord s l m)))) ∧
  ∀ z, oDue s l m = some z → RaiseE (BF K) "what" (.str z) H E

abbrev s_Word_init : Stmt := inClass (top 26) 0
theorem sc_Word_init : FnScope ["self", "signs", "least", "most"] ["self", "signs", "least", "most"] (defScope s_Word_init) := ⟨rfl, rfl, rfl, by decide +kernel, rfl, by decide +kernel, by decide +kernel⟩

theorem ok_Word_init (F : FunD K "__init__" "Word.__init__" (defArgs s_Word_init) (defBody s_Word_init) (defScope s_Word_init) [] [] f fd) (G : G3 P w K mg base) : FnOk P w K mg base (L2.CX P w) 4 f fd ["self", "signs", "least", "most"] (spWord K) := by
  refine F.ok (CX := (L2.CX P w)) sc_Word_init (fun vs H Q E h => ?_) (fun cdv A outer s H vs Q E hr h => ?_)
  · obtain ⟨a, dx, s, l, m, rfl, _⟩ := h
    rfl
  · have hr3 : Room 3 _ := hr
    refine ⟨_, (pss_cons (ps_expr (pe_fnS G.check_signs hr3 (fun σ => passAt (takes_of rfl rfl rfl rfl) σ) (by rfl) (pa_cons (pv 1) pa_nil)))
    (pss_cons (ps_expr (pe_fnS G.check_span hr3 (fun σ => passAt (takes_of rfl rfl rfl rfl) σ) (by rfl) (pa_cons (pv 2) (pa_cons (pv 3) pa_nil))))
    (pss_cons (ps_fld (pv 0) (pv 1) rfl)
    (pss_cons (ps_fld (pv 0) (pv 2) rfl)
    (pss_one (ps_fld (pv 0) (pv 3) rfl)))))), ?_⟩
    obtain ⟨a, dx, s, l, m, rfl, ha, hs, hl, hm, q1, q2⟩ := h
    refine ⟨_, rfl, s, rfl, hs, fun e1 => ?_, fun e1 => q2 _ (by unfold oDue; rw [if_pos e1])⟩
    have e0 : oDue s l m = bDue l m := by unfold oDue; rw [e1]; rfl
    rw [e0] at q1 q2
    refine ⟨_, rfl, _, rfl, l, m, rfl, nM_flat l (nh hl), nM_flat m (nh hm), fun e2 => ?_, fun z e2 => q2 z e2⟩
    refine ⟨_, rfl, _, rfl, a, _, dx, _, rfl, ha, G.cWord.cl, G.cWord.no _ (by decide +kernel), (by show 0 < 1000; decide), _, rfl, _, rfl, a, _, dx, _, rfl, upd_same, G.cWord.cl, G.cWord.no _ (by decide +kernel), (by show 1 < 1000; decide), _, rfl, _, rfl, a, _, dx, _, rfl, upd_same, G.cWord.cl, G.cWord.no _ (by decide +kernel), (by show 2 < 1000; decide), ?_⟩
    have z := q1 e2
    show Q .non _
    rw [upd_upd, upd_upd]
    exact z

theorem pi_or {X : Cx} {tg e : Expr} {t1 t2 : TI} (h1 : PI X tg e t1) (h2 : PI X tg e t2) : PI X tg e (fun σ H R => t1 σ H R ∨ t2 σ H R) :=
  ⟨fun pins s σ H R I h => h.elim (h1.run pins s σ H R I) (h2.run pins s σ H R I)⟩
def spNumber (K : Frag) : Sp := fun vs H Q E => ∃ (a dx : Addr) (l m : V), vs = [.ref a, l, m] ∧ H a = some (.ins (He.ga K "Number") dx []) ∧ l ∈ nM ∧ m ∈ hM ∧ (bDue l m = none → Q .non (upd H a (.ins (He.ga K "Number") dx (fNumber l m)))) ∧
  ∀ z, bDue l m = some z → RaiseE (BF K) "what" (.str z) H E

abbrev s_Number_init : Stmt := inClass (top 27) 0
theorem sc_Number_init : FnScope ["self", "least", "most"] ["self", "least", "most"] (defScope s_Number_init) := ⟨rfl, rfl, rfl, by decide +kernel, rfl, by decide +kernel, by decide +kernel⟩

theorem ok_Number_init (F : FunD K "__init__" "Number.__init__" (defArgs s_Number_init) (defBody s_Number_init) (defScope s_Number_init) [] [] f fd) (G : G3 P w K mg base) : FnOk P w K mg base (L2.CX P w) 4 f fd ["self", "least", "most"] (spNumber K) := by
  refine F.ok (CX := (L2.CX P w)) sc_Number_init (fun vs H Q E h => ?_) (fun cdv A outer s H vs Q E hr h => ?_)
  · obtain ⟨a, dx, l, m, rfl, _⟩ := h
    rfl
  · have hr3 : Room 3 _ := hr
    refine ⟨_, (pss_cons (ps_expr (pe_fnS G.check_span hr3 (fun σ => passAt (takes_of rfl rfl rfl rfl) σ) (by rfl) (pa_cons (pv 1) (pa_cons (pv 2) pa_nil))))
    (pss_cons (ps_fld (pv 0) (pv 1) rfl)
    (pss_one (ps_fld (pv 0) (pv 2) rfl)))), ?_⟩
    obtain ⟨a, dx, l, m, rfl, ha, hl, hm, q1, q2⟩ := h
    refine ⟨_, rfl, _, rfl, l, m, rfl, nM_flat l (nh hl), nM_flat m hm, fun e2 => ?_, fun z e2 => q2 z e2⟩
    refine ⟨_, rfl, _, rfl, a, _, dx, _, rfl, ha, G.cNumber.cl, G.cNumber.no _ (by decide +kernel), (by show 0 < 1000; decide), _, rfl, _, rfl, a, _, dx, _, rfl, upd_same, G.cNumber.cl, G.cNumber.no _ (by decide +kernel), (by show 1 < 1000; decide), ?_⟩
    have z := q1 e2
    show Q .non _
    rw [upd_upd]
    exact z

def spFixed (K : Frag) : Sp := fun vs H Q E => ∃ (a dx : Addr) (v : V), vs = [.ref a, v] ∧ H a = some (.ins (He.ga K "Fixed") dx []) ∧ v ∈ wM ∧ (wDue v = none → Q .non (upd H a (.ins (He.ga K "Fixed") dx (fFixed v)))) ∧
  ∀ z, wDue v = some z → RaiseE (BF K) "what" (.str z) H E

abbrev s_Fixed_init : Stmt := inClass (top 28) 0
theorem sc_Fixed_init : FnScope ["self", "width"] ["self", "width"] (defScope s_Fixed_init) := ⟨rfl, rfl, rfl, by decide +kernel, rfl, by decide +kernel, by decide +kernel⟩

theorem ok_Fixed_init (F : FunD K "__init__" "Fixed.__init__" (defArgs s_Fixed_init) (defBody s_Fixed_init) (defScope s_Fixed_init) [] [] f fd) (G : G3 P w K mg base) : FnOk P w K mg base (L2.CX P w) 4 f fd ["self", "width"] (spFixed K) := by
  refine F.ok (CX := (L2.CX P w)) sc_Fixed_init (fun vs H Q E h => ?_) (fun cdv A outer s H vs Q E hr h => ?_)
  · obtain ⟨a, dx, v, rfl, _⟩ := h
    rfl
  · have hr3 : Room 3 _ := hr
    have hr2 : Room 2 _ := hr.mono (by decide)
    refine ⟨_, (pss_cons (ps_if (PW.pt (pw_or (pt_not (pt_val (pe_fn G.is_number (hr2.mono (by decide)) pass0 (by rfl) (pa_cons (pv 1) pa_nil)))) (pw_or1 (pt_cmpR op_lt (pv 1) pe_int (nomark _)))))
      (pss_one (ps_raise rfl (takes_of rfl rfl rfl rfl) (pmk_1 G.bf hr2 (by rfl) (pa_cons pe_str pa_nil))))
      pss_nil)
    (pss_one (ps_fld (pv 0) (pv 1) rfl))), ?_⟩
    obtain ⟨a, dx, v, rfl, ha, hv, q1, q2⟩ := h
    refine ⟨_, rfl, v, rfl, wM_flat v hv, _, rfl, ?_⟩
    show if (!numB v) = true then _ else _
    refine ite2 (fun h1 => mkO_1 (q2 _ (by show (if (!numB v || _) = true then _ else _) = _; rw [h1]; rfl))) (fun h1 => ?_)
    cases v with
    | int i =>
      refine ⟨_, rfl, _, _, rfl, rfl, _, rfl, ?_⟩
      refine ite2 (fun h2 => mkO_1 (q2 _ (by show (if (_ || decide (i < 1)) = true then _ else _) = _; rw [h2]; rfl))) (fun h2 => ?_)
      refine ⟨_, rfl, _, rfl, a, _, dx, _, rfl, ha, G.cFixed.cl, G.cFixed.no _ (by decide +kernel), (by show 0 < 1000; decide), q1 ?_⟩
      show (if (!true || decide (i < 1)) = true then _ else _) = _
      rw [Bool.eq_false_iff.mpr h2]
      rfl
    | _ => exact absurd rfl h1

/-- what is handed in as texts -/
def LXAt (H : Hp) (v : V) : LX → Prop
  | .lst xs => ∃ b, v = .ref b ∧ H b = some (.lst xs)
  | .tup xs => ∃ b, v = .ref b ∧ TupZ H b xs
  | .val u => v = u
theorem LXAt.same {H H' : Hp} {v : V} (S : Same H H') : ∀ {x : LX}, LXAt H v x → LXAt H' v x
  | .lst _, ⟨b, e, h⟩ => ⟨b, e, S _ _ h⟩
  | .tup _, ⟨b, e, h⟩ => ⟨b, e, h.same S⟩
  | .val _, e => e
theorem all_str : ∀ xs : List V, xs.all areB = true → (xs.map strV).map V.str = xs
  | [], _ => rfl
  | v :: xs, h => by
    obtain ⟨h1, h2⟩ := Bool.and_eq_true_iff.mp (show (areB v && xs.all areB) = true from h)
    have e : V.str (strV v) = v := by cases v <;> first | rfl | cases h1
    show V.str (strV v) :: (xs.map strV).map V.str = v :: xs
    rw [e, all_str xs h2]
theorem raise_mono {C : Addr} {g : Str} {v : V} {H H1 : Hp} {E : XK} (S : Same H H1) (h : RaiseE C g v H E) : RaiseE C g v H1 E := fun d H2 hd S2 e => by
  refine h d H2 ?_ (S.trans S2) e
  cases q : H d with
  | none => rfl
  | some o => rw [S d o q] at hd; cases hd
def spListed (K : Frag) : Sp := fun vs H Q E => ∃ (a dx : Addr) (v : V) (x : LX), vs = [.ref a, v] ∧ H a = some (.ins (He.ga K "Listed") dx []) ∧ x ∈ lM ∧ LXAt H v x ∧
  (lxDue x = none → ∀ t H2, Same H H2 → TupZ H2 t x.els → Q .non (upd H2 a (.ins (He.ga K "Listed") dx (fListed (.ref t))))) ∧ ∀ z, lxDue x = some z → RaiseE (BF K) "what" (.str z) H E
theorem kit_LT (K : Frag) : kitAny K (.type "list") [.type "list", .type "tuple"] = some true ∧ kitAny K (.type "tuple") [.type "list", .type "tuple"] = some true ∧ kitAny K (.type "str") [.type "list", .type "tuple"] = some false ∧ kitAny K (.type "NoneType") [.type "list", .type "tuple"] = some false := by
  have k : ∀ {S T : String} {b : Bool}, kitB S T = some b → kitOne K (.type S) (.type T) = some b := fun h => kit_ty h
  refine ⟨?_, ?_, ?_, ?_⟩
  · exact kitAny_cons (b := true) (k (by decide +kernel)) (fun z => nomatch z) (fun _ => rfl)
  · exact kitAny_cons (b := false) (k (by decide +kernel)) (fun _ => kitAny_cons (b := true) (k (by decide +kernel)) (fun z => nomatch z) (fun _ => rfl)) (fun z => nomatch z)
  · exact kitAny_cons (b := false) (k (by decide +kernel)) (fun _ => kitAny_cons (b := false) (k (by decide +kernel)) (fun _ => kitAny_nil) (fun z => nomatch z)) (fun z => nomatch z)
  · exact kitAny_cons (b := false) (k (by decide +kernel)) (fun _ => kitAny_cons (b := false) (k (by decide +kernel)) (fun _ => kitAny_nil) (fun z => nomatch z)) (fun z => nomatch z)
theorem take_succ_map {α β : Type} (g : α → β) {xs : List α} {i : Nat} {x : α} (h : xs[i]? = some x) : (xs.take (i + 1)).map g = (xs.take i).map g ++ [g x] := by
  rw [List.take_add_one, h, List.map_append]
  rfl

abbrev s_Listed_init : Stmt := inClass (top 29) 0
theorem sc_Listed_init : FnScope ["self", "texts", "text"] ["self", "texts"] (defScope s_Listed_init) := ⟨rfl, rfl, rfl, by decide +kernel, rfl, by decide +kernel, by decide +kernel⟩

theorem ok_Listed_init (F : FunD K "__init__" "Listed.__init__" (defArgs s_Listed_init) (defBody s_Listed_init) (defScope s_Listed_init) [] [] f fd) (G : G3 P w K mg base) : FnOk P w K mg base (L2.CX P w) 4 f fd ["self", "texts"] (spListed K) := by
  refine F.ok (CX := (L2.CX P w)) sc_Listed_init (fun vs H Q E h => ?_) (fun cdv A outer s H vs Q E hr h => ?_)
  · obtain ⟨a, dx, v, x, rfl, _⟩ := h
    rfl
  · have hr3 : Room 3 _ := hr
    have hr2 : Room 2 _ := hr.mono (by decide)
    refine ⟨_, (pss_cons (ps_if (PW.pt (pw_or (pt_not (pt_val (pe_callB call_ieT (by rfl) G.isinstance (by decide +kernel) (pa_cons (pv 1) (pa_cons (pe_tupS (pa_cons (pe_bty (n := "list") (by rfl) G.list (by decide +kernel)) (pa_cons (pe_bty (n := "tuple") (by rfl) G.tuple (by decide +kernel)) pa_nil))) pa_nil))))) (pw_or1 (pt_cmpR op_eq (pe_callB call_len_seq (by rfl) G.len (by decide +kernel) (pa_cons (pv 1) pa_nil)) pe_int (nomark _)))))
      (pss_one (ps_raise rfl (takes_of rfl rfl rfl rfl) (pmk_1 G.bf hr2 (by rfl) (pa_cons pe_str pa_nil))))
      pss_nil)
    (pss_cons (ps_if (PW.pt (pw_or (pt_not (pt_val (pe_callB (cr_all rfl) (by rfl) G.all (by decide +kernel) (pa_cons (pe_lc (own := [("text", 2)]) (g := gName 2) (tt := tYes) rfl sc_Listed_init.nd (pi_or (pi_list (pv 1)) (pi_tup (pv 1))) (blkOk_by (N := ["self", "texts", "text"]) (sc := defScope s_Listed_init) (by decide +kernel)) (fun _ _ _ _ _ => pg_name (i := 2) sc_Listed_init.nd rfl (Or.inl rfl)) (fun _ _ _ _ _ => pts_nil) (fun _ _ _ _ _ => (pe_fn G.are_signs hr2 pass0 (by rfl) (pa_cons (pv 2) pa_nil)))) pa_nil)))) (pw_or1 (pt_cmpR op_lt (pe_lenSetSeq rfl (by rfl) G.len (by rfl) G.set (pv 1)) (pe_callB call_len_seq (by rfl) G.len (by decide +kernel) (pa_cons (pv 1) pa_nil)) (nomark _)))))
      (pss_one (ps_raise rfl (takes_of rfl rfl rfl rfl) (pmk_1 G.bf hr2 (by rfl) (pa_cons pe_str pa_nil))))
      pss_nil)
    (pss_one (ps_fld (pv 0) (pe_callTy call_tupleZ (by rfl) G.tuple (by decide +kernel) (pa_cons (pv 1) pa_nil)) rfl)))), ?_⟩
    obtain ⟨a, dx, v, x, rfl, ha, hx, hL, q1, q2⟩ := h
    obtain ⟨hv, hz⟩ := lM_vM x hx
    rcases lM_val x hx with e | e | e
    · subst e
      obtain rfl : v = .str "ab" := hL
      refine ⟨_, rfl, by show 2 ≤ 1000; decide, fun p0 H0 hp0 S0 e0 => ⟨_, p0, _, _, _, false, rfl, e0, .cons (.ty _) (.cons (.ty _) Paired.nil), .x (.base (.str _)), (kit_LT K).2.2.1, _, rfl, iteT (mkO_1 (raise_mono S0 (q2 _ rfl)))⟩⟩
    · subst e
      obtain rfl : v = .non := hL
      refine ⟨_, rfl, by show 2 ≤ 1000; decide, fun p0 H0 hp0 S0 e0 => ⟨_, p0, _, _, _, false, rfl, e0, .cons (.ty _) (.cons (.ty _) Paired.nil), .x (.base .non), (kit_LT K).2.2.2, _, rfl, iteT (mkO_1 (raise_mono S0 (q2 _ rfl)))⟩⟩
    · cases x with
      | val u => rcases e with e | e <;> cases e
      | lst xs =>
      obtain ⟨b, rfl, hb⟩ := hL
      have hz' : xs.length ≤ 20 := hz
      refine ⟨_, rfl, by show 2 ≤ 1000; decide, fun p0 H0 hp0 S0 e0 => ⟨_, p0, _, _, _, true, rfl, e0, .cons (.ty _) (.cons (.ty _) Paired.nil), .x (.base (.lst (S0 _ _ hb))), (kit_LT K).1, _, rfl, iteF ?_⟩⟩
      refine ⟨_, rfl, b, _, rfl, .inl (SqL.of (S0 _ _ hb)), rfl, _, rfl, ?_⟩
      refine ite2 (fun h1 => mkO_1 (raise_mono S0 (q2 _ (by show (if (decide (xs.length = 0) || _) = true then _ else _) = _; rw [show decide (xs.length = 0) = true from decide_eq_true (by have := of_decide_eq_true h1; simpa using this)]; rfl)))) (fun h1 => ?_)
      have n0 : decide (xs.length = 0) = false := decide_eq_false (fun z => h1 (decide_eq_true (by rw [z]; rfl)))
      have eD : lxDue (.lst xs) = if xsBad xs = true then (some "texts" : Option Str) else none := by
        show (if (decide (xs.length = 0) || xsBad xs) = true then _ else _) = _
        rw [n0]
        rfl
      rw [eD] at q1 q2
      refine .inl ⟨_, rfl, b, rfl, ⟨_, SqL.of (S0 _ _ hb)⟩, fun D hD => ?_⟩
      refine lc_list (K := K) (a := b) (xs := xs) (LcP H0 D fun n => (xs.take n).map fun v => V.bl (areB v)) (LcP.start hD rfl) (fun i J hi p => SqL.of (p.1 _ _ (S0 _ _ hb))) ?_ ?_
      · intro i v J hx p
        refine ⟨rfl, _, rfl, v, rfl, hv v (List.mem_of_getElem? hx), p.put (Same.refl _) (take_succ_map _ hx) ?_⟩
        have := (List.getElem?_eq_some_iff.mp hx).1
        omega
      · rintro J ⟨S1, _, eJ, _⟩
        have eJ2 : J D = some (.lst ((xs.map areB).map V.bl)) := by rw [eJ]; show some (HO.lst ((xs.take xs.length).map fun v => V.bl (areB v))) = _; rw [List.take_length, List.map_map]; rfl
        refine ⟨D, xs.map areB, rfl, SqL.of eJ2, _, rfl, ?_⟩
        have ea : (xs.map areB).all id = xs.all areB := by rw [List.all_map]; rfl
        rw [ea]
        show if (!xs.all areB) = true then _ else _
        have S2 : Same H J := S0.trans S1
        refine ite2 (fun h2 => mkO_1 (raise_mono S2 (q2 _ (by unfold xsBad; rw [h2]; rfl)))) (fun h2 => ?_)
        have h2' : xs.all areB = true := by cases z : xs.all areB with | true => rfl | false => exact absurd (by rw [z]; rfl) h2
        refine ⟨_, rfl, b, xs.map strV, rfl, .inl (by rw [all_str xs h2']; exact SqL.of (S2 _ _ hb)), by rw [List.length_map]; omega, _, rfl, b, _, rfl, .inl (SqL.of (S2 _ _ hb)), _, _, rfl, rfl, _, rfl, ?_⟩
        refine ite2 (fun h3 => mkO_1 (raise_mono S2 (q2 _ ?_))) (fun h3 => ?_)
        · unfold xsBad
          rw [show decide ((newS (fun i => (xs.map strV).getD i Str.empty) (xs.map strV).length : Nat) < xs.length) = true from decide_eq_true (by have := of_decide_eq_true h3; omega), Bool.or_true]
          rfl
        · have q1' := q1 (by unfold xsBad; rw [h2', show decide ((newS (fun i => (xs.map strV).getD i Str.empty) (xs.map strV).length : Nat) < xs.length) = false from decide_eq_false (fun z => h3 (decide_eq_true (by omega)))]; rfl)
          refine ⟨_, rfl, b, xs, rfl, .inl ⟨SqL.of (S2 _ _ hb), fun t H3 ht S3 tz => ?_⟩⟩
          refine ⟨_, rfl, a, _, dx, _, rfl, S3 _ _ (S2 _ _ ha), G.cListed.cl, G.cListed.no _ (by decide +kernel), (by show 0 < 1000; decide), ?_⟩
          exact q1' t _ (S2.trans S3) tz
      | tup xs =>
      obtain ⟨b, rfl, hb⟩ := hL
      have hz' : xs.length ≤ 20 := hz
      refine ⟨_, rfl, by show 2 ≤ 1000; decide, fun p0 H0 hp0 S0 e0 => ⟨_, p0, _, _, _, true, rfl, e0, .cons (.ty _) (.cons (.ty _) Paired.nil), .x (.fTuple (hb.same S0).choose_spec.2.2), (kit_LT K).2.1, _, rfl, iteF ?_⟩⟩
      refine ⟨_, rfl, b, _, rfl, .inr ((hb.same S0).sq), rfl, _, rfl, ?_⟩
      refine ite2 (fun h1 => mkO_1 (raise_mono S0 (q2 _ (by show (if (decide (xs.length = 0) || _) = true then _ else _) = _; rw [show decide (xs.length = 0) = true from decide_eq_true (by have := of_decide_eq_true h1; simpa using this)]; rfl)))) (fun h1 => ?_)
      have n0 : decide (xs.length = 0) = false := decide_eq_false (fun z => h1 (decide_eq_true (by rw [z]; rfl)))
      have eD : lxDue (.tup xs) = if xsBad xs = true then (some "texts" : Option Str) else none := by
        show (if (decide (xs.length = 0) || xsBad xs) = true then _ else _) = _
        rw [n0]
        rfl
      rw [eD] at q1 q2
      refine .inr ⟨_, rfl, b, rfl, ⟨_, (hb.same S0).sq⟩, fun D hD => ?_⟩
      refine lc_tup (K := K) (a := b) (xs := xs) (LcP H0 D fun n => (xs.take n).map fun v => V.bl (areB v)) (LcP.start hD rfl) (fun i J hi p => ((hb.same S0).same p.1).sq) ?_ ?_
      · intro i v J hx p
        refine ⟨rfl, _, rfl, v, rfl, hv v (List.mem_of_getElem? hx), p.put (Same.refl _) (take_succ_map _ hx) ?_⟩
        have := (List.getElem?_eq_some_iff.mp hx).1
        omega
      · rintro J ⟨S1, _, eJ, _⟩
        have eJ2 : J D = some (.lst ((xs.map areB).map V.bl)) := by rw [eJ]; show some (HO.lst ((xs.take xs.length).map fun v => V.bl (areB v))) = _; rw [List.take_length, List.map_map]; rfl
        refine ⟨D, xs.map areB, rfl, SqL.of eJ2, _, rfl, ?_⟩
        have ea : (xs.map areB).all id = xs.all areB := by rw [List.all_map]; rfl
        rw [ea]
        show if (!xs.all areB) = true then _ else _
        have S2 : Same H J := S0.trans S1
        refine ite2 (fun h2 => mkO_1 (raise_mono S2 (q2 _ (by unfold xsBad; rw [h2]; rfl)))) (fun h2 => ?_)
        have h2' : xs.all areB = true := by cases z : xs.all areB with | true => rfl | false => exact absurd (by rw [z]; rfl) h2
        refine ⟨_, rfl, b, xs.map strV, rfl, .inr (by rw [all_str xs h2']; exact (hb.same S2).sq), by rw [List.length_map]; omega, _, rfl, b, _, rfl, .inr ((hb.same S2).sq), _, _, rfl, rfl, _, rfl, ?_⟩
        refine ite2 (fun h3 => mkO_1 (raise_mono S2 (q2 _ ?_))) (fun h3 => ?_)
        · unfold xsBad
          rw [show decide ((newS (fun i => (xs.map strV).getD i Str.empty) (xs.map strV).length : Nat) < xs.length) = true from decide_eq_true (by have := of_decide_eq_true h3; omega), Bool.or_true]
          rfl
        · have q1' := q1 (by unfold xsBad; rw [h2', show decide ((newS (fun i => (xs.map strV).getD i Str.empty) (xs.map strV).length : Nat) < xs.length) = false from decide_eq_false (fun z => h3 (decide_eq_true (by omega)))]; rfl)
          refine ⟨_, rfl, b, xs, rfl, .inr ⟨(hb.same S2).sq, ?_⟩⟩
          refine ⟨_, rfl, a, _, dx, _, rfl, S2 _ _ ha, G.cListed.cl, G.cListed.no _ (by decide +kernel), (by show 0 < 1000; decide), ?_⟩
          exact q1' b _ S2 (hb.same S2)


def spEnded (K : Frag) : Sp := fun vs H Q E => ∃ (a dx : Addr) (s e l m : V), vs = [.ref a, s, e, l, m] ∧ H a = some (.ins (He.ga K "Ended") dx []) ∧ s ∈ sM ∧ e ∈ eM ∧ l ∈ nM ∧ m ∈ nM ∧ (eDue s e l m = none → Q .non (upd H a (.ins (He.ga K "Ended") dx (fEnded s e l m)))) ∧
  ∀ z, eDue s e l m = some z → RaiseE (BF K) "what" (.str z) H E

abbrev s_Ended_init : Stmt := inClass (top 30) 0
theorem sc_Ended_init : FnScope ["self", "signs", "sign", "least", "most"] ["self", "signs", "sign", "least", "most"] (defScope s_Ended_init) := ⟨rfl, rfl, rfl, by decide +kernel, rfl, by decide +kernel, by decide +kernel⟩

theorem ok_Ended_init (F : FunD K "__init__" "Ended.__init__" (defArgs s_Ended_init) (defBody s_Ended_init) (defScope s_Ended_init) [] [] f fd) (G : G3 P w K mg base) : FnOk P w K mg base (L2.CX P w) 4 f fd ["self", "signs", "sign", "least", "most"] (spEnded K) := by
  refine F.ok (CX := (L2.CX P w)) sc_Ended_init (fun vs H Q E h => ?_) (fun cdv A outer s H vs Q E hr h => ?_)
  · obtain ⟨a, dx, s, e, l, m, rfl, _⟩ := h
    rfl
  · have hr3 : Room 3 _ := hr
    have hr2 : Room 2 _ := hr.mono (by decide)
    refine ⟨_, (pss_cons (ps_expr (pe_fnS G.check_signs hr3 (fun σ => passAt (takes_of rfl rfl rfl rfl) σ) (by rfl) (pa_cons (pv 1) pa_nil)))
    (pss_cons (ps_if (PW.pt (pw_or (pt_not (pt_val (pe_fn G.is_sign (hr2.mono (by decide)) pass0 (by rfl) (pa_cons (pv 2) pa_nil)))) (pw_or1 (pt_cmpR op_in_sign (pv 2) (pv 1) (by rfl)))))
      (pss_one (ps_raise rfl (takes_of rfl rfl rfl rfl) (pmk_1 G.bf hr2 (by rfl) (pa_cons pe_str pa_nil))))
      pss_nil)
    (pss_cons (ps_expr (pe_fnS G.check_span hr3 (fun σ => passAt (takes_of rfl rfl rfl rfl) σ) (by rfl) (pa_cons (pv 3) (pa_cons (pv 4) pa_nil))))
    (pss_cons (ps_fld (pv 0) (pv 1) rfl)
    (pss_cons (ps_fld (pv 0) (pv 2) rfl)
    (pss_cons (ps_fld (pv 0) (pv 3) rfl)
    (pss_one (ps_fld (pv 0) (pv 4) rfl)))))))), ?_⟩
    obtain ⟨a, dx, s, e, l, m, rfl, ha, hs, he, hl, hm, q1, q2⟩ := h
    refine ⟨_, rfl, s, rfl, hs, fun e1 => ?_, fun e1 => q2 _ (by unfold eDue; rw [if_pos e1])⟩
    have e0 : eDue s e l m = if (!isSignB e || inB (strV e) (strV s)) = true then (some "sign" : Option Str) else bDue l m := by unfold eDue; rw [e1]; rfl
    rw [e0] at q1 q2
    refine ⟨_, rfl, e, rfl, eM_vM he, _, rfl, ?_⟩
    show if (!isSignB e) = true then _ else _
    refine ite2 (fun h1 => mkO_1 (q2 _ (by rw [h1]; rfl))) (fun h1 => ?_)
    have h1' : isSignB e = true := by cases z : isSignB e with | true => rfl | false => exact absurd (by rw [z]; rfl) h1
    refine ⟨_, rfl, _, rfl, _, strV s, eM_one e he h1', sM_str s hs e1, _, rfl, ?_⟩
    show if inB (strV e) (strV s) = true then _ else _
    refine ite2 (fun h2 => mkO_1 (q2 _ (by rw [h2, Bool.or_true]; rfl))) (fun h2 => ?_)
    have h2' : inB (strV e) (strV s) = false := Bool.eq_false_iff.mpr h2
    rw [h1', h2'] at q1 q2
    refine ⟨_, rfl, _, rfl, l, m, rfl, nM_flat l (nh hl), nM_flat m (nh hm), fun e2 => ?_, fun z e2 => q2 z e2⟩
    refine ⟨_, rfl, _, rfl, a, _, dx, _, rfl, ha, G.cEnded.cl, G.cEnded.no _ (by decide +kernel), (by show 0 < 1000; decide), _, rfl, _, rfl, a, _, dx, _, rfl, upd_same, G.cEnded.cl, G.cEnded.no _ (by decide +kernel), (by show 1 < 1000; decide), _, rfl, _, rfl, a, _, dx, _, rfl, upd_same, G.cEnded.cl, G.cEnded.no _ (by decide +kernel), (by show 2 < 1000; decide), _, rfl, _, rfl, a, _, dx, _, rfl, upd_same, G.cEnded.cl, G.cEnded.no _ (by decide +kernel), (by show 3 < 1000; decide), ?_⟩
    have z := q1 e2
    show Q .non _
    rw [upd_upd, upd_upd, upd_upd]
    exact z

def spHasWord (K : Frag) : Sp := fun vs H Q _ => ∃ (a : Addr) (c : Nat) (s l m : V), vs = [.ref a, .str ⟨#[c]⟩] ∧ FieldAt K H a (.word s l m) ∧ PD.In (.word s l m) ∧ PD.due (.word s l m) = none ∧ ∀ H', Same H H' → Q (.bl (PD.has ⟨#[c]⟩ (.word s l m))) H'

def spHasNumber (K : Frag) : Sp := fun vs H Q _ => ∃ (a : Addr) (c : Nat) (l m : V), vs = [.ref a, .str ⟨#[c]⟩] ∧ FieldAt K H a (.number l m) ∧ PD.In (.number l m) ∧ PD.due (.number l m) = none ∧ ∀ H', Same H H' → Q (.bl (PD.has ⟨#[c]⟩ (.number l m))) H'

def spHasFixed (K : Frag) : Sp := fun vs H Q _ => ∃ (a : Addr) (c : Nat) (v : V), vs = [.ref a, .str ⟨#[c]⟩] ∧ FieldAt K H a (.fixed v) ∧ PD.In (.fixed v) ∧ PD.due (.fixed v) = none ∧ ∀ H', Same H H' → Q (.bl (PD.has ⟨#[c]⟩ (.fixed v))) H'

def spHasListed (K : Frag) : Sp := fun vs H Q _ => ∃ (a : Addr) (c : Nat) (x : LX), vs = [.ref a, .str ⟨#[c]⟩] ∧ FieldAt K H a (.listed x) ∧ PD.In (.listed x) ∧ PD.due (.listed x) = none ∧ ∀ H', Same H H' → Q (.bl (PD.has ⟨#[c]⟩ (.listed x))) H'

def spHasEnded (K : Frag) : Sp := fun vs H Q _ => ∃ (a : Addr) (c : Nat) (s e l m : V), vs = [.ref a, .str ⟨#[c]⟩] ∧ FieldAt K H a (.ended s e l m) ∧ PD.In (.ended s e l m) ∧ PD.due (.ended s e l m) = none ∧ ∀ H', Same H H' → Q (.bl (PD.has ⟨#[c]⟩ (.ended s e l m))) H'

abbrev s_Word_has : Stmt := inClass (top 26) 7
theorem sc_Word_has : FnScope ["self", "sign"] ["self", "sign"] (defScope s_Word_has) := ⟨rfl, rfl, rfl, by decide +kernel, rfl, by decide +kernel, by decide +kernel⟩

theorem ok_Word_has (F : FunD K "has_sign" "Word.has_sign" (defArgs s_Word_has) (defBody s_Word_has) (defScope s_Word_has) [] [] f fd) (G : G3 P w K mg base) : FnOk P w K mg base CX0 2 f fd ["self", "sign"] (spHasWord K) := by
  refine F.ok (CX := CX0) sc_Word_has (fun vs H Q E h => ?_) (fun cdv A outer s H vs Q E hr h => ?_)
  · obtain ⟨a, c, s, l, m, rfl, _⟩ := h
    rfl
  · refine ⟨_, PSs.nox (pss_one (ps_ret (pe_fn G.has_words_with hr pass0 (by rfl) (pa_cons (pv 0) (pa_cons (pv 1) pa_nil))))), ?_⟩
    obtain ⟨a, c, s, l, m, rfl, ⟨dx, ha⟩, ⟨hs, hl, hm⟩, hd, q⟩ := h
    obtain ⟨es, sc, _⟩ := word_due s hs l hl m hm hd
    rw [es] at ha q
    exact ⟨_, rfl, _, rfl, a, _, dx, _, c, strV s, m, rfl, ha, G.cWord.cl, G.cWord.no _ (by decide +kernel), G.cWord.no _ (by decide +kernel), lWord_signs, lWord_most, sc, q _ (Same.refl _)⟩

abbrev s_Fixed_has : Stmt := inClass (top 28) 7
theorem sc_Fixed_has : FnScope ["self", "sign"] ["self", "sign"] (defScope s_Fixed_has) := ⟨rfl, rfl, rfl, by decide +kernel, rfl, by decide +kernel, by decide +kernel⟩

theorem ok_Fixed_has (F : FunD K "has_sign" "Fixed.has_sign" (defArgs s_Fixed_has) (defBody s_Fixed_has) (defScope s_Fixed_has) [] [] f fd) (G : G3 P w K mg base) : FnOk P w K mg base CX0 2 f fd ["self", "sign"] (spHasFixed K) := by
  refine F.ok (CX := CX0) sc_Fixed_has (fun vs H Q E h => ?_) (fun cdv A outer s H vs Q E hr h => ?_)
  · obtain ⟨a, c, v, rfl, _⟩ := h
    rfl
  · refine ⟨_, PSs.nox (pss_one (ps_ret (pe_cmpR op_in_sign (pv 1) (pe_sg G.dgs) (by rfl)))), ?_⟩
    obtain ⟨a, c, v, rfl, hf, _, _, q⟩ := h
    exact ⟨_, rfl, c, DG, rfl, rfl, q _ (Same.refl _)⟩

abbrev s_Ended_has : Stmt := inClass (top 30) 7
theorem sc_Ended_has : FnScope ["self", "sign"] ["self", "sign"] (defScope s_Ended_has) := ⟨rfl, rfl, rfl, by decide +kernel, rfl, by decide +kernel, by decide +kernel⟩

theorem ok_Ended_has (F : FunD K "has_sign" "Ended.has_sign" (defArgs s_Ended_has) (defBody s_Ended_has) (defScope s_Ended_has) [] [] f fd) (G : G3 P w K mg base) : FnOk P w K mg base CX0 2 f fd ["self", "sign"] (spHasEnded K) := by
  refine F.ok (CX := CX0) sc_Ended_has (fun vs H Q E h => ?_) (fun cdv A outer s H vs Q E hr h => ?_)
  · obtain ⟨a, c, s, e, l, m, rfl, _⟩ := h
    rfl
  · refine ⟨_, PSs.nox (pss_one (ps_ret (pe_or (pe_cmpR op_eq (pv 1) (pe_fld (pv 0) rfl) (nomark _)) (pe_one (pe_fn G.has_words_with hr pass0 (by rfl) (pa_cons (pv 0) (pa_cons (pv 1) pa_nil))))))), ?_⟩
    obtain ⟨a, c, s, e, l, m, rfl, ⟨dx, ha⟩, ⟨hs, he, hl, hm⟩, hd, q⟩ := h
    obtain ⟨es, ee, sc, _⟩ := end_due s hs e he l hl m hm hd
    have q0 := q _ (Same.refl _)
    refine ⟨_, rfl, _, rfl, a, _, dx, _, _, rfl, ha, G.cEnded.cl, G.cEnded.no _ (by decide +kernel), lEnded_sign, (by rw [ee]; rfl), _, rfl, ?_⟩
    refine ite2 (fun h1 => ?_) (fun h1 => ?_)
    · have r : PD.has ⟨#[c]⟩ (.ended s e l m) = true := by show (decide (V.str ⟨#[c]⟩ = e) || _) = true; rw [h1]; rfl
      rw [r] at q0
      exact q0
    · have r : PD.has ⟨#[c]⟩ (.ended s e l m) = wwB s m ⟨#[c]⟩ := by show (decide (V.str ⟨#[c]⟩ = e) || _) = _; rw [Bool.eq_false_iff.mpr h1]; rfl
      rw [r] at q0
      rw [es] at ha q0
      exact ⟨_, rfl, _, rfl, a, _, dx, _, c, strV s, m, rfl, ha, G.cEnded.cl, G.cEnded.no _ (by decide +kernel), G.cEnded.no _ (by decide +kernel), lEnded_signs, lEnded_most, sc, q0⟩

abbrev s_Listed_has : Stmt := inClass (top 29) 7
theorem sc_Listed_has : FnScope ["self", "sign", "text"] ["self", "sign"] (defScope s_Listed_has) := ⟨rfl, rfl, rfl, by decide +kernel, rfl, by decide +kernel, by decide +kernel⟩

theorem ok_Listed_has (F : FunD K "has_sign" "Listed.has_sign" (defArgs s_Listed_has) (defBody s_Listed_has) (defScope s_Listed_has) [] [] f fd) (G : G3 P w K mg base) : FnOk P w K mg base CX0 2 f fd ["self", "sign"] (spHasListed K) := by
  refine F.ok (CX := CX0) sc_Listed_has (fun vs H Q E h => ?_) (fun cdv A outer s H vs Q E hr h => ?_)
  · obtain ⟨a, c, x, rfl, _⟩ := h
    rfl
  · refine ⟨_, PSs.nox (pss_one (ps_ret (pe_callB (cr_any rfl) (by rfl) G.any (by decide +kernel) (pa_cons (pe_lc (own := [("text", 2)]) (g := gName 2) (tt := tYes) rfl sc_Listed_has.nd (pi_tup (pe_fld (pv 0) rfl)) (blkOk_by (N := ["self", "sign", "text"]) (sc := defScope s_Listed_has) (by decide +kernel)) (fun _ _ _ _ _ => pg_name (i := 2) sc_Listed_has.nd rfl (Or.inl rfl)) (fun _ _ _ _ _ => pts_nil) (fun _ _ _ _ _ => (pe_cmpR op_in_sign (pv 1) (pv 2) (by rfl)))) pa_nil)))), ?_⟩
    obtain ⟨a, c, x, rfl, ⟨dx, t, ha, ht⟩, hx, hd, q⟩ := h
    obtain ⟨hs, hz, _⟩ := lst_due x hx hd
    refine ⟨_, rfl, a, _, dx, _, _, rfl, ha, G.cListed.cl, G.cListed.no _ (by decide +kernel), lListed_texts, t, rfl, ⟨_, ht.sq⟩, fun D hD => ?_⟩
    refine lc_tup (K := K) (a := t) (xs := x.els) (LcP H D fun n => (x.els.take n).map fun v => V.bl (inB ⟨#[c]⟩ (strV v))) (LcP.start hD rfl) (fun i J hi p => (ht.same p.1).sq) ?_ ?_
    · intro i v J hv p
      have ev := hs v (List.mem_of_getElem? hv)
      have := (List.getElem?_eq_some_iff.mp hv).1
      exact ⟨rfl, _, rfl, _, rfl, c, strV v, rfl, ev, p.put (Same.refl _) (take_succ_map _ hv) (by omega)⟩
    · rintro J ⟨S1, _, eJ, _⟩
      have eJ2 : J D = some (.lst ((x.els.map fun v => inB ⟨#[c]⟩ (strV v)).map V.bl)) := by rw [eJ]; show some (HO.lst ((x.els.take x.els.length).map fun v => V.bl (inB ⟨#[c]⟩ (strV v)))) = _; rw [List.take_length, List.map_map]; rfl
      refine ⟨D, _, rfl, SqL.of eJ2, ?_⟩
      rw [List.any_map]
      exact q _ S1

abbrev s_Number_has : Stmt := inClass (top 27) 7
theorem sc_Number_has : FnScope ["self", "sign", "number"] ["self", "sign"] (defScope s_Number_has) := ⟨rfl, rfl, rfl, by decide +kernel, rfl, by decide +kernel, by decide +kernel⟩

theorem ok_Number_has (F : FunD K "has_sign" "Number.has_sign" (defArgs s_Number_has) (defBody s_Number_has) (defScope s_Number_has) [] [] f fd) (G : G3 P w K mg base) : FnOk P w K mg base CX0 2 f fd ["self", "sign"] (spHasNumber K) := by
  refine F.ok (CX := CX0) sc_Number_has (fun vs H Q E h => ?_) (fun cdv A outer s H vs Q E hr h => ?_)
  · obtain ⟨a, c, l, m, rfl, _⟩ := h
    rfl
  · refine ⟨_, PSs.nox (pss_cons (ps_if (PW.pt (pw_or (pt_cmpR op_isN (pe_fld (pv 0) rfl) pe_non (nomark _)) (pw_or1 (pt_cmpR op_ge (pe_op op_sub (pe_fld (pv 0) rfl) (pe_fld (pv 0) rfl)) pe_int (nomark _)))))
      (pss_one (ps_ret (pe_cmpR op_in_sign (pv 1) (pe_sg G.dgs) (by rfl))))
      pss_nil)
    (pss_one (ps_ret (pe_callB (cr_any rfl) (by rfl) G.any (by decide +kernel) (pa_cons (pe_lc (own := [("number", 2)]) (g := gName 2) (tt := tYes) rfl sc_Number_has.nd (pi_range2 (by rfl) G.range (pa_cons (pe_fld (pv 0) rfl) (pa_cons (pe_op op_add (pe_fld (pv 0) rfl) pe_int) pa_nil))) (blkOk_by (N := ["self", "sign", "number"]) (sc := defScope s_Number_has) (by decide +kernel)) (fun _ _ _ _ _ => pg_name (i := 2) sc_Number_has.nd rfl (Or.inl rfl)) (fun _ _ _ _ _ => pts_nil) (fun _ _ _ _ _ => (pe_cmpR op_in_sign (pv 1) (pe_fn G.digits_of hr pass0 (by rfl) (pa_cons (pv 2) pa_nil)) (by rfl)))) pa_nil))))), ?_⟩
    obtain ⟨a, c, l, m, rfl, ⟨dx, ha⟩, ⟨hl, hm⟩, hd, q⟩ := h
    obtain ⟨el, em, hl0, hl1, hm0, hm1, _⟩ := num_due l hl m hm hd
    refine ⟨_, rfl, a, _, dx, _, _, rfl, ha, G.cNumber.cl, G.cNumber.no _ (by decide +kernel), lNumber_most, rfl, _, rfl, ?_⟩
    refine ite2 (fun h1 => ?_) (fun h1 => ?_)
    · have r : PD.has ⟨#[c]⟩ (.number l m) = inB ⟨#[c]⟩ DG := by show (if (decide (m = .non) || _) = true then _ else _) = _; rw [h1]; rfl
      have q0 := q _ (Same.refl _)
      rw [r] at q0
      exact ⟨_, rfl, c, DG, rfl, rfl, q0⟩
    rcases em with em | em
    · exact absurd (decide_eq_true em) h1
    refine ⟨_, rfl, a, _, dx, _, _, rfl, ha, G.cNumber.cl, G.cNumber.no _ (by decide +kernel), lNumber_most, _, rfl, a, _, dx, _, _, rfl, ha, G.cNumber.cl, G.cNumber.no _ (by decide +kernel), lNumber_least, intV m, intV l, em, el, _, _, rfl, rfl, _, rfl, ?_⟩
    refine ite2 (fun h2 => ?_) (fun h2 => ?_)
    · have r : PD.has ⟨#[c]⟩ (.number l m) = inB ⟨#[c]⟩ DG := by show (if (_ || decide (9 ≤ intV m - intV l)) = true then _ else _) = _; rw [h2, Bool.or_true]; rfl
      have q0 := q _ (Same.refl _)
      rw [r] at q0
      exact ⟨_, rfl, c, DG, rfl, rfl, q0⟩
    have h9 : ¬ 9 ≤ intV m - intV l := fun z => h2 (decide_eq_true z)
    have r : PD.has ⟨#[c]⟩ (.number l m) = (List.range (intV m + 1 - intV l).toNat).any fun (i : Nat) => inB ⟨#[c]⟩ (dg (intV l + i)) := by
      show (if (decide (m = .non) || decide (9 ≤ intV m - intV l)) = true then _ else _) = _
      rw [Bool.eq_false_iff.mpr h1, Bool.eq_false_iff.mpr h2]
      rfl
    rw [r] at q
    refine ⟨_, rfl, a, _, dx, _, _, rfl, ha, G.cNumber.cl, G.cNumber.no _ (by decide +kernel), lNumber_least, _, rfl, a, _, dx, _, _, rfl, ha, G.cNumber.cl, G.cNumber.no _ (by decide +kernel), lNumber_most, intV m, 1, em, rfl, intV l, intV m + 1, by rw [el]; rfl, ⟨by omega, by omega, by omega, by omega⟩, fun D hD => ?_⟩
    refine lc_range (lo := intV l) (n := (intV m + 1 - intV l).toNat) (LcP H D fun n => (List.range n).map fun (i : Nat) => V.bl (inB ⟨#[c]⟩ (dg (intV l + i)))) (LcP.start hD rfl) ?_ ?_
    · intro i J hi p
      refine ⟨rfl, _, rfl, _, rfl, _, rfl, by omega, by omega, fun J' S' => ⟨c, _, rfl, rfl, p.put S' (by rw [List.range_succ, List.map_append]; rfl) (by omega)⟩⟩
    · rintro J ⟨S1, _, eJ, _⟩
      have eJ2 : J D = some (.lst (((List.range (intV m + 1 - intV l).toNat).map fun (i : Nat) => inB ⟨#[c]⟩ (dg (intV l + i))).map V.bl)) := by rw [eJ, List.map_map]; rfl
      refine ⟨D, _, rfl, SqL.of eJ2, ?_⟩
      rw [List.any_map]
      exact q _ S1

end
end L2.K80

set_option Elab.async false
set_option linter.all false
set_option maxRecDepth 100000
set_option maxHeartbeats 4000000
namespace L2.K80
open PySem PySem.W PySem.Spec PySem.Calls PyProof.Rows L2.Jk
def PD.ci : PD → Nat
  | .word .. => 0
  | .number .. => 1
  | .fixed _ => 2
  | .listed _ => 3
  | .ended .. => 4
theorem PD.ci_lt (d : PD) : d.ci < 5 := by cases d <;> simp [PD.ci]
/-- what the head says of a field class beyond C0 -/
structure KC (K : Frag) (C : Addr) : Prop where
  kk : findIn K (.ref C) "__class__" = some (some (.builtin "object.__class__"))
  km : mroIn K C (.type "object") = some true
  nf : notFirst K C (.type "tuple") = true
  eq : EqcC K C
  ke : keepIn K (.ref (He.ma K C "__eq__")) = true
structure G4 (P : Program) (w : World) (K : Frag) (mg : Str → Option Value) (base : Heap) : Prop extends G3 P w K mg base where
  kc : ∀ i, i < 6 → KC K (ca K i)
  kn : specialIn K (.builtin "object.__class__") "__get__" = some (some (.builtin "getset_descriptor.__get__"))
  kt : takesIn K (.builtin "object.__class__") = some true
  kit : ∀ i j, i < 6 → j < 6 → kitOne K (.ref (ca K i)) (.ref (ca K j)) = some (decide (i = j))
  kitN : ∀ j, j < 6 → kitOne K (.type "NoneType") (.ref (ca K j)) = some false
  kitS : ∀ j, j < 6 → kitOne K (.type "str") (.ref (ca K j)) = some false
section
variable {P : Program} {w : World} {K : Frag} {mg : Str → Option Value} {base : Heap} {f : Addr} {fd : FuncData}
theorem FieldAt.ins {H : Hp} {y : Addr} : ∀ {d : PD}, FieldAt K H y d → ∃ dx fs, H y = some (.ins (ca K d.ci) dx fs) ∧ fs.lookup ("has_sign" : Str) = none
  | .word .., ⟨dx, h⟩ => ⟨dx, _, h, lWord_hs⟩
  | .number .., ⟨dx, h⟩ => ⟨dx, _, h, lNumber_hs⟩
  | .fixed _, ⟨dx, h⟩ => ⟨dx, _, h, lFixed_hs⟩
  | .listed _, ⟨dx, t, h, k⟩ => ⟨dx, _, h, lListed_hs⟩
  | .ended .., ⟨dx, h⟩ => ⟨dx, _, h, lEnded_hs⟩
theorem G4.cl (G : G4 P w K mg base) : ∀ i, i < 6 → Cls K (ca K i)
  | 0, _ => G.cWord.cl
  | 1, _ => G.cNumber.cl
  | 2, _ => G.cFixed.cl
  | 3, _ => G.cListed.cl
  | 4, _ => G.cEnded.cl
  | 5, _ => G.cMarked.cl
  | n + 6, h => absurd h (by omega)
theorem G4.ty (G : G4 P w K mg base) {H : Hp} {y dx : Addr} {fs : List (Str × V)} {i : Nat} (hi : i < 6) (h : H y = some (.ins (ca K i) dx fs)) : TyE K H (.ref y) (.ref (ca K i)) :=
  .x (.base (.ins h (G.cl i hi) (G.kc i hi).kk G.kn G.kt (G.kc i hi).km))
theorem dp_flat {H : Hp} : ∀ {v : V}, flatV v = true → Dp K H v (dV v)
  | .non, _ => .non
  | .bl b, _ => .bl b
  | .int i, _ => .int i
  | .str z, _ => .str z
theorem dpAll_flat {H : Hp} : ∀ {xs : List V}, xs.all flatV = true → DpAll K H xs (xs.map dV)
  | [], _ => .nil
  | v :: xs, h => by
    obtain ⟨h1, h2⟩ := Bool.and_eq_true_iff.mp (show (flatV v && xs.all flatV) = true from h)
    exact .cons (dp_flat h1) (dpAll_flat h2)

def spEqWord (K : Frag) : Sp := fun vs H Q _ => ∃ (a : Addr) (u : V) (s l m : V), vs = [.ref a, u] ∧ FieldAt K H a (.word s l m) ∧ PD.In (.word s l m) ∧ PD.due (.word s l m) = none ∧
  ((∃ b, u = .ref b ∧ FieldAt K H b (.word s l m) ∧ Q (.bl true) H) ∨ (∃ b xs, u = .ref b ∧ H b = some (.tup xs) ∧ Q (.bl false) H))

def spEqNumber (K : Frag) : Sp := fun vs H Q _ => ∃ (a : Addr) (u : V) (l m : V), vs = [.ref a, u] ∧ FieldAt K H a (.number l m) ∧ PD.In (.number l m) ∧ PD.due (.number l m) = none ∧
  ((∃ b, u = .ref b ∧ FieldAt K H b (.number l m) ∧ Q (.bl true) H) ∨ (∃ b xs, u = .ref b ∧ H b = some (.tup xs) ∧ Q (.bl false) H))

def spEqFixed (K : Frag) : Sp := fun vs H Q _ => ∃ (a : Addr) (u : V) (v : V), vs = [.ref a, u] ∧ FieldAt K H a (.fixed v) ∧ PD.In (.fixed v) ∧ PD.due (.fixed v) = none ∧
  ((∃ b, u = .ref b ∧ FieldAt K H b (.fixed v) ∧ Q (.bl true) H) ∨ (∃ b xs, u = .ref b ∧ H b = some (.tup xs) ∧ Q (.bl false) H))

def spEqListed (K : Frag) : Sp := fun vs H Q _ => ∃ (a : Addr) (u : V) (x : LX), vs = [.ref a, u] ∧ FieldAt K H a (.listed x) ∧ PD.In (.listed x) ∧ PD.due (.listed x) = none ∧
  ((∃ b, u = .ref b ∧ FieldAt K H b (.listed x) ∧ Q (.bl true) H) ∨ (∃ b xs, u = .ref b ∧ H b = some (.tup xs) ∧ Q (.bl false) H))

def spEqEnded (K : Frag) : Sp := fun vs H Q _ => ∃ (a : Addr) (u : V) (s e l m : V), vs = [.ref a, u] ∧ FieldAt K H a (.ended s e l m) ∧ PD.In (.ended s e l m) ∧ PD.due (.ended s e l m) = none ∧
  ((∃ b, u = .ref b ∧ FieldAt K H b (.ended s e l m) ∧ Q (.bl true) H) ∨ (∃ b xs, u = .ref b ∧ H b = some (.tup xs) ∧ Q (.bl false) H))

abbrev s_Word_eq : Stmt := inClass (top 26) 1
theorem sc_Word_eq : FnScope ["self", "other"] ["self", "other"] (defScope s_Word_eq) := ⟨rfl, rfl, rfl, by decide +kernel, rfl, by decide +kernel, by decide +kernel⟩

theorem ok_Word_eq (F : FunD K "__eq__" "Word.__eq__" (defArgs s_Word_eq) (defBody s_Word_eq) (defScope s_Word_eq) [] [] f fd) (G : G4 P w K mg base) : FnOk P w K mg base CX0 1 f fd ["self", "other"] (spEqWord K) := by
  refine F.ok (CX := CX0) sc_Word_eq (fun vs H Q E h => ?_) (fun cdv A outer s H vs Q E hr h => ?_)
  · obtain ⟨a, u, s, l, m, rfl, _⟩ := h
    rfl
  · refine ⟨_, PSs.nox (pss_one (ps_ret (pe_and (pe_cmpR op_isA (pe_callTy call_tyA (by rfl) G.type (by decide +kernel) (pa_cons (pv 0) pa_nil)) (pe_callTy call_tyA (by rfl) G.type (by decide +kernel) (pa_cons (pv 1) pa_nil)) (nomark _)) (pe_and (pe_cmpR op_eq (pe_fld (pv 0) rfl) (pe_fld (pv 1) rfl) (nomark _)) (pe_and (pe_cmpR op_eq (pe_fld (pv 0) rfl) (pe_fld (pv 1) rfl) (nomark _)) (pe_one (pe_cmpR op_eq (pe_fld (pv 0) rfl) (pe_fld (pv 1) rfl) (nomark _)))))))), ?_⟩
    obtain ⟨a, u, s, l, m, rfl, ⟨dx, ha⟩, hin, hd, h⟩ := h
    obtain ⟨hs, hl, hm⟩ := hin
    obtain ⟨_, _, z⟩ := word_due s hs l hl m hm hd
    obtain ⟨k0, z⟩ := Bool.and_eq_true_iff.mp z
    obtain ⟨k1, k2⟩ := Bool.and_eq_true_iff.mp z

    rcases h with ⟨b, rfl, ⟨dy, hb⟩, q⟩ | ⟨b, xs, rfl, hb, q⟩
    · refine ⟨_, rfl, _, rfl, .inl ⟨a, _, dx, _, rfl, ha, _, rfl, _, rfl, .inl ⟨b, _, dy, _, rfl, hb, _, rfl, .inl ⟨_, rfl, .inl rfl, _, rfl, ?_⟩⟩⟩⟩
      refine ite2 (fun _ => ?_) (fun h => absurd (decide_eq_true rfl) h)
      refine ⟨_, rfl, a, _, dx, _, _, rfl, ha, G.cWord.cl, G.cWord.no _ (by decide +kernel), lWord_signs, _, rfl, b, _, dy, _, _, rfl, hb, G.cWord.cl, G.cWord.no _ (by decide +kernel), lWord_signs, k0, _, rfl, ?_⟩
      refine ite2 (fun _ => ?_) (fun h => absurd (decide_eq_true rfl) h)
      refine ⟨_, rfl, a, _, dx, _, _, rfl, ha, G.cWord.cl, G.cWord.no _ (by decide +kernel), lWord_least, _, rfl, b, _, dy, _, _, rfl, hb, G.cWord.cl, G.cWord.no _ (by decide +kernel), lWord_least, k1, _, rfl, ?_⟩
      refine ite2 (fun _ => ?_) (fun h => absurd (decide_eq_true rfl) h)
      refine ⟨_, rfl, a, _, dx, _, _, rfl, ha, G.cWord.cl, G.cWord.no _ (by decide +kernel), lWord_most, _, rfl, b, _, dy, _, _, rfl, hb, G.cWord.cl, G.cWord.no _ (by decide +kernel), lWord_most, k2, ?_⟩
      rw [decide_eq_true rfl]
      exact q
    · exact ⟨_, rfl, _, rfl, .inl ⟨a, _, dx, _, rfl, ha, _, rfl, _, rfl, .inr ⟨_, .tup hb, _, rfl, .inr ⟨_, rfl, _, rfl, iteF q⟩⟩⟩⟩


abbrev s_Number_eq : Stmt := inClass (top 27) 1
theorem sc_Number_eq : FnScope ["self", "other"] ["self", "other"] (defScope s_Number_eq) := ⟨rfl, rfl, rfl, by decide +kernel, rfl, by decide +kernel, by decide +kernel⟩

theorem ok_Number_eq (F : FunD K "__eq__" "Number.__eq__" (defArgs s_Number_eq) (defBody s_Number_eq) (defScope s_Number_eq) [] [] f fd) (G : G4 P w K mg base) : FnOk P w K mg base CX0 1 f fd ["self", "other"] (spEqNumber K) := by
  refine F.ok (CX := CX0) sc_Number_eq (fun vs H Q E h => ?_) (fun cdv A outer s H vs Q E hr h => ?_)
  · obtain ⟨a, u, l, m, rfl, _⟩ := h
    rfl
  · refine ⟨_, PSs.nox (pss_one (ps_ret (pe_and (pe_cmpR op_isA (pe_callTy call_tyA (by rfl) G.type (by decide +kernel) (pa_cons (pv 0) pa_nil)) (pe_callTy call_tyA (by rfl) G.type (by decide +kernel) (pa_cons (pv 1) pa_nil)) (nomark _)) (pe_and (pe_cmpR op_eq (pe_fld (pv 0) rfl) (pe_fld (pv 1) rfl) (nomark _)) (pe_one (pe_cmpR op_eq (pe_fld (pv 0) rfl) (pe_fld (pv 1) rfl) (nomark _))))))), ?_⟩
    obtain ⟨a, u, l, m, rfl, ⟨dx, ha⟩, hin, hd, h⟩ := h
    obtain ⟨hl, hm⟩ := hin
    obtain ⟨_, _, _, _, _, _, z⟩ := num_due l hl m hm hd
    obtain ⟨k0, k1⟩ := Bool.and_eq_true_iff.mp z

    rcases h with ⟨b, rfl, ⟨dy, hb⟩, q⟩ | ⟨b, xs, rfl, hb, q⟩
    · refine ⟨_, rfl, _, rfl, .inl ⟨a, _, dx, _, rfl, ha, _, rfl, _, rfl, .inl ⟨b, _, dy, _, rfl, hb, _, rfl, .inl ⟨_, rfl, .inl rfl, _, rfl, ?_⟩⟩⟩⟩
      refine ite2 (fun _ => ?_) (fun h => absurd (decide_eq_true rfl) h)
      refine ⟨_, rfl, a, _, dx, _, _, rfl, ha, G.cNumber.cl, G.cNumber.no _ (by decide +kernel), lNumber_least, _, rfl, b, _, dy, _, _, rfl, hb, G.cNumber.cl, G.cNumber.no _ (by decide +kernel), lNumber_least, k0, _, rfl, ?_⟩
      refine ite2 (fun _ => ?_) (fun h => absurd (decide_eq_true rfl) h)
      refine ⟨_, rfl, a, _, dx, _, _, rfl, ha, G.cNumber.cl, G.cNumber.no _ (by decide +kernel), lNumber_most, _, rfl, b, _, dy, _, _, rfl, hb, G.cNumber.cl, G.cNumber.no _ (by decide +kernel), lNumber_most, k1, ?_⟩
      rw [decide_eq_true rfl]
      exact q
    · exact ⟨_, rfl, _, rfl, .inl ⟨a, _, dx, _, rfl, ha, _, rfl, _, rfl, .inr ⟨_, .tup hb, _, rfl, .inr ⟨_, rfl, _, rfl, iteF q⟩⟩⟩⟩


abbrev s_Fixed_eq : Stmt := inClass (top 28) 1
theorem sc_Fixed_eq : FnScope ["self", "other"] ["self", "other"] (defScope s_Fixed_eq) := ⟨rfl, rfl, rfl, by decide +kernel, rfl, by decide +kernel, by decide +kernel⟩

theorem ok_Fixed_eq (F : FunD K "__eq__" "Fixed.__eq__" (defArgs s_Fixed_eq) (defBody s_Fixed_eq) (defScope s_Fixed_eq) [] [] f fd) (G : G4 P w K mg base) : FnOk P w K mg base CX0 1 f fd ["self", "other"] (spEqFixed K) := by
  refine F.ok (CX := CX0) sc_Fixed_eq (fun vs H Q E h => ?_) (fun cdv A outer s H vs Q E hr h => ?_)
  · obtain ⟨a, u, v, rfl, _⟩ := h
    rfl
  · refine ⟨_, PSs.nox (pss_one (ps_ret (pe_and (pe_cmpR op_isA (pe_callTy call_tyA (by rfl) G.type (by decide +kernel) (pa_cons (pv 0) pa_nil)) (pe_callTy call_tyA (by rfl) G.type (by decide +kernel) (pa_cons (pv 1) pa_nil)) (nomark _)) (pe_one (pe_cmpR op_eq (pe_fld (pv 0) rfl) (pe_fld (pv 1) rfl) (nomark _)))))), ?_⟩
    obtain ⟨a, u, v, rfl, ⟨dx, ha⟩, hin, hd, h⟩ := h
    have k0 := fix_due v hin hd

    rcases h with ⟨b, rfl, ⟨dy, hb⟩, q⟩ | ⟨b, xs, rfl, hb, q⟩
    · refine ⟨_, rfl, _, rfl, .inl ⟨a, _, dx, _, rfl, ha, _, rfl, _, rfl, .inl ⟨b, _, dy, _, rfl, hb, _, rfl, .inl ⟨_, rfl, .inl rfl, _, rfl, ?_⟩⟩⟩⟩
      refine ite2 (fun _ => ?_) (fun h => absurd (decide_eq_true rfl) h)
      refine ⟨_, rfl, a, _, dx, _, _, rfl, ha, G.cFixed.cl, G.cFixed.no _ (by decide +kernel), lFixed_width, _, rfl, b, _, dy, _, _, rfl, hb, G.cFixed.cl, G.cFixed.no _ (by decide +kernel), lFixed_width, k0, ?_⟩
      rw [decide_eq_true rfl]
      exact q
    · exact ⟨_, rfl, _, rfl, .inl ⟨a, _, dx, _, rfl, ha, _, rfl, _, rfl, .inr ⟨_, .tup hb, _, rfl, .inr ⟨_, rfl, _, rfl, iteF q⟩⟩⟩⟩


abbrev s_Ended_eq : Stmt := inClass (top 30) 1
theorem sc_Ended_eq : FnScope ["self", "other"] ["self", "other"] (defScope s_Ended_eq) := ⟨rfl, rfl, rfl, by decide +kernel, rfl, by decide +kernel, by decide +kernel⟩

theorem ok_Ended_eq (F : FunD K "__eq__" "Ended.__eq__" (defArgs s_Ended_eq) (defBody s_Ended_eq) (defScope s_Ended_eq) [] [] f fd) (G : G4 P w K mg base) : FnOk P w K mg base CX0 1 f fd ["self", "other"] (spEqEnded K) := by
  refine F.ok (CX := CX0) sc_Ended_eq (fun vs H Q E h => ?_) (fun cdv A outer s H vs Q E hr h => ?_)
  · obtain ⟨a, u, s, e, l, m, rfl, _⟩ := h
    rfl
  · refine ⟨_, PSs.nox (pss_one (ps_ret (pe_and (pe_cmpR op_isA (pe_callTy call_tyA (by rfl) G.type (by decide +kernel) (pa_cons (pv 0) pa_nil)) (pe_callTy call_tyA (by rfl) G.type (by decide +kernel) (pa_cons (pv 1) pa_nil)) (nomark _)) (pe_and (pe_cmpR op_eq (pe_fld (pv 0) rfl) (pe_fld (pv 1) rfl) (nomark _)) (pe_and (pe_cmpR op_eq (pe_fld (pv 0) rfl) (pe_fld (pv 1) rfl) (nomark _)) (pe_and (pe_cmpR op_eq (pe_fld (pv 0) rfl) (pe_fld (pv 1) rfl) (nomark _)) (pe_one (pe_cmpR op_eq (pe_fld (pv 0) rfl) (pe_fld (pv 1) rfl) (nomark _))))))))), ?_⟩
    obtain ⟨a, u, s, e, l, m, rfl, ⟨dx, ha⟩, hin, hd, h⟩ := h
    obtain ⟨hs, he, hl, hm⟩ := hin
    obtain ⟨_, _, _, z⟩ := end_due s hs e he l hl m hm hd
    obtain ⟨k0, z⟩ := Bool.and_eq_true_iff.mp z
    obtain ⟨k1, z⟩ := Bool.and_eq_true_iff.mp z
    obtain ⟨k2, k3⟩ := Bool.and_eq_true_iff.mp z

    rcases h with ⟨b, rfl, ⟨dy, hb⟩, q⟩ | ⟨b, xs, rfl, hb, q⟩
    · refine ⟨_, rfl, _, rfl, .inl ⟨a, _, dx, _, rfl, ha, _, rfl, _, rfl, .inl ⟨b, _, dy, _, rfl, hb, _, rfl, .inl ⟨_, rfl, .inl rfl, _, rfl, ?_⟩⟩⟩⟩
      refine ite2 (fun _ => ?_) (fun h => absurd (decide_eq_true rfl) h)
      refine ⟨_, rfl, a, _, dx, _, _, rfl, ha, G.cEnded.cl, G.cEnded.no _ (by decide +kernel), lEnded_signs, _, rfl, b, _, dy, _, _, rfl, hb, G.cEnded.cl, G.cEnded.no _ (by decide +kernel), lEnded_signs, k0, _, rfl, ?_⟩
      refine ite2 (fun _ => ?_) (fun h => absurd (decide_eq_true rfl) h)
      refine ⟨_, rfl, a, _, dx, _, _, rfl, ha, G.cEnded.cl, G.cEnded.no _ (by decide +kernel), lEnded_sign, _, rfl, b, _, dy, _, _, rfl, hb, G.cEnded.cl, G.cEnded.no _ (by decide +kernel), lEnded_sign, k1, _, rfl, ?_⟩
      refine ite2 (fun _ => ?_) (fun h => absurd (decide_eq_true rfl) h)
      refine ⟨_, rfl, a, _, dx, _, _, rfl, ha, G.cEnded.cl, G.cEnded.no _ (by decide +kernel), lEnded_least, _, rfl, b, _, dy, _, _, rfl, hb, G.cEnded.cl, G.cEnded.no _ (by decide +kernel), lEnded_least, k2, _, rfl, ?_⟩
      refine ite2 (fun _ => ?_) (fun h => absurd (decide_eq_true rfl) h)
      refine ⟨_, rfl, a, _, dx, _, _, rfl, ha, G.cEnded.cl, G.cEnded.no _ (by decide +kernel), lEnded_most, _, rfl, b, _, dy, _, _, rfl, hb, G.cEnded.cl, G.cEnded.no _ (by decide +kernel), lEnded_most, k3, ?_⟩
      rw [decide_eq_true rfl]
      exact q
    · exact ⟨_, rfl, _, rfl, .inl ⟨a, _, dx, _, rfl, ha, _, rfl, _, rfl, .inr ⟨_, .tup hb, _, rfl, .inr ⟨_, rfl, _, rfl, iteF q⟩⟩⟩⟩


abbrev s_Listed_eq : Stmt := inClass (top 29) 1
theorem sc_Listed_eq : FnScope ["self", "other"] ["self", "other"] (defScope s_Listed_eq) := ⟨rfl, rfl, rfl, by decide +kernel, rfl, by decide +kernel, by decide +kernel⟩

theorem ok_Listed_eq (F : FunD K "__eq__" "Listed.__eq__" (defArgs s_Listed_eq) (defBody s_Listed_eq) (defScope s_Listed_eq) [] [] f fd) (G : G4 P w K mg base) : FnOk P w K mg base CX0 1 f fd ["self", "other"] (spEqListed K) := by
  refine F.ok (CX := CX0) sc_Listed_eq (fun vs H Q E h => ?_) (fun cdv A outer s H vs Q E hr h => ?_)
  · obtain ⟨a, u, x, rfl, _⟩ := h
    rfl
  · refine ⟨_, PSs.nox (pss_one (ps_ret (pe_and (pe_cmpR op_isA (pe_callTy call_tyA (by rfl) G.type (by decide +kernel) (pa_cons (pv 0) pa_nil)) (pe_callTy call_tyA (by rfl) G.type (by decide +kernel) (pa_cons (pv 1) pa_nil)) (nomark _)) (pe_one (pe_cmpR (op_eqD hr.units) (pe_fld (pv 0) rfl) (pe_fld (pv 1) rfl) (nomark _)))))), ?_⟩
    obtain ⟨a, u, x, rfl, ⟨dx, t, ha, ht⟩, hin, hd, h⟩ := h
    obtain ⟨hf, hsh⟩ := lM_shaped x hin hd
    rcases h with ⟨b, rfl, ⟨dy, t2, hb, ht2⟩, q⟩ | ⟨b, xs, rfl, hb, q⟩
    · refine ⟨_, rfl, _, rfl, .inl ⟨a, _, dx, _, rfl, ha, _, rfl, _, rfl, .inl ⟨b, _, dy, _, rfl, hb, _, rfl, .inl ⟨_, rfl, .inl rfl, _, rfl, ?_⟩⟩⟩⟩
      refine ite2 (fun _ => ?_) (fun h => absurd (decide_eq_true rfl) h)
      refine ⟨_, rfl, a, _, dx, _, _, rfl, ha, G.cListed.cl, G.cListed.no _ (by decide +kernel), lListed_texts, _, rfl, b, _, dy, _, _, rfl, hb, G.cListed.cl, G.cListed.no _ (by decide +kernel), lListed_texts, _, _, .tup ht.sq (dpAll_flat hf), .tup ht2.sq (dpAll_flat hf), hsh, hsh, ?_⟩
      rw [eqv_same hsh]
      exact q
    · exact ⟨_, rfl, _, rfl, .inl ⟨a, _, dx, _, rfl, ha, _, rfl, _, rfl, .inr ⟨_, .tup hb, _, rfl, .inr ⟨_, rfl, _, rfl, iteF q⟩⟩⟩⟩


/-- has_sign and == of each class -/
structure HM (P : Program) (w : World) (K : Frag) (mg : Str → Option Value) (base : Heap) (k : Nat) (C : Addr) (m : Str) (ps : List Str) (sp : Sp) : Prop where
  me : Meth K C m (He.ma K C m)
  ok : ∃ fd, FnOk P w K mg base CX0 k (He.ma K C m) fd ps sp ∧ Binds K fd ps []
structure EQ (P : Program) (w : World) (K : Frag) (mg : Str → Option Value) (base : Heap) (C : Addr) (sp : Sp) : Prop where
  ok : ∃ fd, FnOk P w K mg base CX0 1 (He.ma K C "__eq__") fd ["self", "other"] sp ∧ Binds K fd ["self", "other"] []
structure G5 (P : Program) (w : World) (K : Frag) (mg : Str → Option Value) (base : Heap) : Prop extends G4 P w K mg base where
  hWord : HM P w K mg base 2 (ca K 0) "has_sign" ["self", "sign"] (spHasWord K)
  eWord : EQ P w K mg base (ca K 0) (spEqWord K)
  hNumber : HM P w K mg base 2 (ca K 1) "has_sign" ["self", "sign"] (spHasNumber K)
  eNumber : EQ P w K mg base (ca K 1) (spEqNumber K)
  hFixed : HM P w K mg base 2 (ca K 2) "has_sign" ["self", "sign"] (spHasFixed K)
  eFixed : EQ P w K mg base (ca K 2) (spEqFixed K)
  hListed : HM P w K mg base 2 (ca K 3) "has_sign" ["self", "sign"] (spHasListed K)
  eListed : EQ P w K mg base (ca K 3) (spEqListed K)
  hEnded : HM P w K mg base 2 (ca K 4) "has_sign" ["self", "sign"] (spHasEnded K)
  eEnded : EQ P w K mg base (ca K 4) (spEqEnded K)
theorem G5.has (G : G5 P w K mg base) {H : Hp} {y : Addr} : ∀ {d : PD}, FieldAt K H y d → d.In → d.due = none → ∃ sp, HM P w K mg base 2 (ca K d.ci) "has_sign" ["self", "sign"] sp ∧
    ∀ c Q E, (∀ H', Same H H' → Q (.bl (d.has ⟨#[c]⟩)) H') → sp [.ref y, .str ⟨#[c]⟩] H Q E
  | .word s l m, h, i, u => ⟨_, G.hWord, fun c Q E q => ⟨y, c, s, l, m, rfl, h, i, u, q⟩⟩
  | .number l m, h, i, u => ⟨_, G.hNumber, fun c Q E q => ⟨y, c, l, m, rfl, h, i, u, q⟩⟩
  | .fixed v, h, i, u => ⟨_, G.hFixed, fun c Q E q => ⟨y, c, v, rfl, h, i, u, q⟩⟩
  | .listed x, h, i, u => ⟨_, G.hListed, fun c Q E q => ⟨y, c, x, rfl, h, i, u, q⟩⟩
  | .ended s e l m, h, i, u => ⟨_, G.hEnded, fun c Q E q => ⟨y, c, s, e, l, m, rfl, h, i, u, q⟩⟩
theorem G5.eqs (G : G5 P w K mg base) {H : Hp} {y : Addr} : ∀ {d : PD}, FieldAt K H y d → d.In → d.due = none → ∃ sp, EQ P w K mg base (ca K d.ci) sp ∧
    ∀ u Q E, ((∃ b, u = .ref b ∧ FieldAt K H b d ∧ Q (.bl true) H) ∨ (∃ b xs, u = .ref b ∧ H b = some (.tup xs) ∧ Q (.bl false) H)) → sp [.ref y, u] H Q E
  | .word s l m, h, i, u => ⟨_, G.eWord, fun v Q E q => ⟨y, v, s, l, m, rfl, h, i, u, q⟩⟩
  | .number l m, h, i, u => ⟨_, G.eNumber, fun v Q E q => ⟨y, v, l, m, rfl, h, i, u, q⟩⟩
  | .fixed z, h, i, u => ⟨_, G.eFixed, fun v Q E q => ⟨y, v, z, rfl, h, i, u, q⟩⟩
  | .listed x, h, i, u => ⟨_, G.eListed, fun v Q E q => ⟨y, v, x, rfl, h, i, u, q⟩⟩
  | .ended s e l m, h, i, u => ⟨_, G.eEnded, fun v Q E q => ⟨y, v, s, e, l, m, rfl, h, i, u, q⟩⟩
/-- what is handed in as the field of a marked one -/
def IVAt (K : Frag) (H : Hp) (fv : V) : OD → Prop
  | .val u => fv = u ∧ (u = .non ∨ u = .str "word")
  | .pl d => ∃ y, fv = .ref y ∧ FieldAt K H y d ∧ d.In ∧ d.due = none
  | .mk .. => ∃ y dx fs, fv = .ref y ∧ H y = some (.ins (ca K 5) dx fs)
theorem kit5 (G : G4 P w K mg base) : ∀ i, i < 6 → kitAny K (.ref (ca K i)) [.ref (ca K 0), .ref (ca K 1), .ref (ca K 2), .ref (ca K 3), .ref (ca K 4)] = some (decide (i < 5))
  | 0, h => by
    have k := fun j (hj : j < 6) => G.kit 0 j h hj
    exact kitAny_cons (b := true) (k 0 (by decide)) (fun z => nomatch z) (fun _ => rfl)
  | 1, h => by
    have k := fun j (hj : j < 6) => G.kit 1 j h hj
    exact kitAny_cons (b := false) (k 0 (by decide)) (fun _ => kitAny_cons (b := true) (k 1 (by decide)) (fun z => nomatch z) (fun _ => rfl)) (fun z => nomatch z)
  | 2, h => by
    have k := fun j (hj : j < 6) => G.kit 2 j h hj
    exact kitAny_cons (b := false) (k 0 (by decide)) (fun _ => kitAny_cons (b := false) (k 1 (by decide)) (fun _ => kitAny_cons (b := true) (k 2 (by decide)) (fun z => nomatch z) (fun _ => rfl)) (fun z => nomatch z)) (fun z => nomatch z)
  | 3, h => by
    have k := fun j (hj : j < 6) => G.kit 3 j h hj
    exact kitAny_cons (b := false) (k 0 (by decide)) (fun _ => kitAny_cons (b := false) (k 1 (by decide)) (fun _ => kitAny_cons (b := false) (k 2 (by decide)) (fun _ => kitAny_cons (b := true) (k 3 (by decide)) (fun z => nomatch z) (fun _ => rfl)) (fun z => nomatch z)) (fun z => nomatch z)) (fun z => nomatch z)
  | 4, h => by
    have k := fun j (hj : j < 6) => G.kit 4 j h hj
    exact kitAny_cons (b := false) (k 0 (by decide)) (fun _ => kitAny_cons (b := false) (k 1 (by decide)) (fun _ => kitAny_cons (b := false) (k 2 (by decide)) (fun _ => kitAny_cons (b := false) (k 3 (by decide)) (fun _ => kitAny_cons (b := true) (k 4 (by decide)) (fun z => nomatch z) (fun _ => rfl)) (fun z => nomatch z)) (fun z => nomatch z)) (fun z => nomatch z)) (fun z => nomatch z)
  | 5, h => by
    have k := fun j (hj : j < 6) => G.kit 5 j h hj
    exact kitAny_cons (b := false) (k 0 (by decide)) (fun _ => kitAny_cons (b := false) (k 1 (by decide)) (fun _ => kitAny_cons (b := false) (k 2 (by decide)) (fun _ => kitAny_cons (b := false) (k 3 (by decide)) (fun _ => kitAny_cons (b := false) (k 4 (by decide)) (fun _ => kitAny_nil) (fun z => nomatch z)) (fun z => nomatch z)) (fun z => nomatch z)) (fun z => nomatch z)) (fun z => nomatch z)
  | n + 6, h => absurd h (by omega)
theorem kit5N (G : G4 P w K mg base) : kitAny K (.type "NoneType") [.ref (ca K 0), .ref (ca K 1), .ref (ca K 2), .ref (ca K 3), .ref (ca K 4)] = some false := by
  have k := G.kitN
  exact kitAny_cons (b := false) (k 0 (by decide)) (fun _ => kitAny_cons (b := false) (k 1 (by decide)) (fun _ => kitAny_cons (b := false) (k 2 (by decide)) (fun _ => kitAny_cons (b := false) (k 3 (by decide)) (fun _ => kitAny_cons (b := false) (k 4 (by decide)) (fun _ => kitAny_nil) (fun z => nomatch z)) (fun z => nomatch z)) (fun z => nomatch z)) (fun z => nomatch z)) (fun z => nomatch z)
theorem kit5S (G : G4 P w K mg base) : kitAny K (.type "str") [.ref (ca K 0), .ref (ca K 1), .ref (ca K 2), .ref (ca K 3), .ref (ca K 4)] = some false := by
  have k := G.kitS
  exact kitAny_cons (b := false) (k 0 (by decide)) (fun _ => kitAny_cons (b := false) (k 1 (by decide)) (fun _ => kitAny_cons (b := false) (k 2 (by decide)) (fun _ => kitAny_cons (b := false) (k 3 (by decide)) (fun _ => kitAny_cons (b := false) (k 4 (by decide)) (fun _ => kitAny_nil) (fun z => nomatch z)) (fun z => nomatch z)) (fun z => nomatch z)) (fun z => nomatch z)) (fun z => nomatch z)
def spMarked (K : Frag) : Sp := fun vs H Q E => ∃ (a dx : Addr) (n m fv : V) (i : OD), vs = [.ref a, n, m, fv] ∧ H a = some (.ins (ca K 5) dx []) ∧ n ∈ mQ ∧ m ∈ mQ ∧ IVAt K H fv i ∧
  (OD.due (.mk n m i) = none → ∀ H2, Same H H2 → Q .non (upd H2 a (.ins (ca K 5) dx (fMarked n m fv)))) ∧ ∀ z, OD.due (.mk n m i) = some z → RaiseE (BF K) "what" (.str z) H E

abbrev s_Marked_init : Stmt := inClass (top 31) 0
theorem sc_Marked_init : FnScope ["self", "none", "mark", "field"] ["self", "none", "mark", "field"] (defScope s_Marked_init) := ⟨rfl, rfl, rfl, by decide +kernel, rfl, by decide +kernel, by decide +kernel⟩

theorem ok_Marked_init (F : FunD K "__init__" "Marked.__init__" (defArgs s_Marked_init) (defBody s_Marked_init) (defScope s_Marked_init) [] [] f fd) (G : G5 P w K mg base) : FnOk P w K mg base (L2.CX P w) 4 f fd ["self", "none", "mark", "field"] (spMarked K) := by
  refine F.ok (CX := (L2.CX P w)) sc_Marked_init (fun vs H Q E h => ?_) (fun cdv A outer s H vs Q E hr h => ?_)
  · obtain ⟨a, dx, n, m, fv, i, rfl, _⟩ := h
    rfl
  · have hr3 : Room 3 _ := hr
    have hr2 : Room 2 _ := hr.mono (by decide)
    refine ⟨_, (pss_cons (ps_if (pt_not (pt_val (pe_fn G.is_sign (hr2.mono (by decide)) pass0 (by rfl) (pa_cons (pv 1) pa_nil))))
      (pss_one (ps_raise rfl (takes_of rfl rfl rfl rfl) (pmk_1 G.bf hr2 (by rfl) (pa_cons pe_str pa_nil))))
      pss_nil)
    (pss_cons (ps_if (PW.pt (pw_or (pt_not (pt_val (pe_fn G.is_sign (hr2.mono (by decide)) pass0 (by rfl) (pa_cons (pv 2) pa_nil)))) (pw_or1 (pt_cmpR op_eq (pv 2) (pv 1) (nomark _)))))
      (pss_one (ps_raise rfl (takes_of rfl rfl rfl rfl) (pmk_1 G.bf hr2 (by rfl) (pa_cons pe_str pa_nil))))
      pss_nil)
    (pss_cons (ps_if (pt_not (pt_val (pe_callB call_ieT (by rfl) G.isinstance (by decide +kernel) (pa_cons (pv 3) (pa_cons (pe_tupS (pa_cons (pe_gref (by rfl) G.cWord.mgC) (pa_cons (pe_gref (by rfl) G.cNumber.mgC) (pa_cons (pe_gref (by rfl) G.cFixed.mgC) (pa_cons (pe_gref (by rfl) G.cListed.mgC) (pa_cons (pe_gref (by rfl) G.cEnded.mgC) pa_nil)))))) pa_nil)))))
      (pss_one (ps_raise rfl (takes_of rfl rfl rfl rfl) (pmk_1 G.bf hr2 (by rfl) (pa_cons pe_str pa_nil))))
      pss_nil)
    (pss_cons (ps_if (PW.pt (pw_or (pt_val (pe_methD (CX := CX0) (pv 3) pass0 (pa_cons (pv 1) pa_nil))) (pw_or1 (pt_val (pe_methD (CX := CX0) (pv 3) pass0 (pa_cons (pv 2) pa_nil))))))
      (pss_one (ps_raise rfl (takes_of rfl rfl rfl rfl) (pmk_1 G.bf hr2 (by rfl) (pa_cons pe_str pa_nil))))
      pss_nil)
    (pss_cons (ps_fld (pv 0) (pv 1) rfl)
    (pss_cons (ps_fld (pv 0) (pv 2) rfl)
    (pss_one (ps_fld (pv 0) (pv 3) rfl)))))))), ?_⟩
    obtain ⟨a, dx, n, m, fv, i, rfl, ha, hn, hm, hI, q1, q2⟩ := h
    refine ⟨_, rfl, n, rfl, mQ_vM hn, _, rfl, ?_⟩
    show if (!isSignB n) = true then _ else _
    refine ite2 (fun h1 => mkO_1 (q2 _ (by show (if (!isSignB n) = true then _ else _) = _; rw [if_pos h1]))) (fun h1 => ?_)
    have e1 : OD.due (.mk n m i) = if (!isSignB m || decide (m = n)) = true then (some "mark" : Option Str) else iDue n m i := by show (if (!isSignB n) = true then _ else _) = _; rw [if_neg h1]
    rw [e1] at q1 q2
    have h1' : isSignB n = true := by cases z : isSignB n with | true => rfl | false => exact absurd (by rw [z]; rfl) h1
    obtain ⟨en, cn⟩ := mQ_one n hn h1'
    refine ⟨_, rfl, m, rfl, mQ_vM hm, _, rfl, ?_⟩
    show if (!isSignB m) = true then _ else _
    refine ite2 (fun h2 => mkO_1 (q2 _ (by rw [h2]; rfl))) (fun h2 => ?_)
    have h2' : isSignB m = true := by cases z : isSignB m with | true => rfl | false => exact absurd (by rw [z]; rfl) h2
    obtain ⟨em, cm⟩ := mQ_one m hm h2'
    refine ⟨_, rfl, _, rfl, (by rw [en, em]; rfl), _, rfl, ?_⟩
    refine ite2 (fun h3 => mkO_1 (q2 _ (by rw [h3, Bool.or_true]; rfl))) (fun h3 => ?_)
    rw [h2', Bool.eq_false_iff.mpr h3] at q1 q2
    replace q1 : iDue n m i = none → ∀ H2, Same H H2 → Q .non (upd H2 a (.ins (ca K 5) dx (fMarked n m fv))) := q1
    replace q2 : ∀ z, iDue n m i = some z → RaiseE (BF K) "what" (.str z) H E := q2
    clear e1
    cases i with
    | val u =>
      obtain ⟨rfl, rfl | rfl⟩ := hI
      · refine ⟨_, rfl, by show 5 ≤ 1000; decide, fun p0 H0 hp0 S0 e0 => ⟨_, p0, _, _, _, false, rfl, e0, .cons (.own _) (.cons (.own _) (.cons (.own _) (.cons (.own _) (.cons (.own _) Paired.nil)))), .x (.base .non), (kit5N G.toG4), _, rfl, iteT (mkO_1 (raise_mono S0 (q2 _ rfl)))⟩⟩
      · refine ⟨_, rfl, by show 5 ≤ 1000; decide, fun p0 H0 hp0 S0 e0 => ⟨_, p0, _, _, _, false, rfl, e0, .cons (.own _) (.cons (.own _) (.cons (.own _) (.cons (.own _) (.cons (.own _) Paired.nil)))), .x (.base (.str _)), (kit5S G.toG4), _, rfl, iteT (mkO_1 (raise_mono S0 (q2 _ rfl)))⟩⟩
    | mk n2 m2 i2 =>
      obtain ⟨y, dy, fs, rfl, hy⟩ := hI
      refine ⟨_, rfl, by show 5 ≤ 1000; decide, fun p0 H0 hp0 S0 e0 => ⟨_, p0, _, _, _, false, rfl, e0, .cons (.own _) (.cons (.own _) (.cons (.own _) (.cons (.own _) (.cons (.own _) Paired.nil)))), G.ty (i := 5) (by decide) (S0 _ _ hy), (kit5 G.toG4 5 (by decide)), _, rfl, iteT (mkO_1 (raise_mono S0 (q2 _ rfl)))⟩⟩
    | pl d =>
      obtain ⟨y, rfl, hy, hin, hd⟩ := hI
      have eD : iDue n m (.pl d) = if (d.has ⟨#[(strV n).cps.getD 0 0]⟩ || d.has ⟨#[(strV m).cps.getD 0 0]⟩) = true then (some "field" : Option Str) else none := by
        have e1 : strV n = ⟨#[(strV n).cps.getD 0 0]⟩ := congrArg strV en
        have e2 : strV m = ⟨#[(strV m).cps.getD 0 0]⟩ := congrArg strV em
        rw [← e1, ← e2]
        rfl
      rw [eD] at q1 q2
      obtain ⟨dy, fs, hi, lf⟩ := hy.ins
      refine ⟨_, rfl, by show 5 ≤ 1000; decide, fun p0 H0 hp0 S0 e0 => ⟨_, p0, _, _, _, true, rfl, e0, .cons (.own _) (.cons (.own _) (.cons (.own _) (.cons (.own _) (.cons (.own _) Paired.nil)))), G.ty (Nat.lt_of_lt_of_le d.ci_lt (by decide)) (S0 _ _ hi), ((kit5 G.toG4 d.ci (Nat.lt_of_lt_of_le d.ci_lt (by decide))).trans (congrArg some (decide_eq_true d.ci_lt))), _, rfl, iteF ?_⟩⟩
      obtain ⟨sp, M, Hs⟩ := G.has (hy.same S0) hin hd
      obtain ⟨fdh, Fh, Bh⟩ := M.ok
      refine ⟨_, rfl, y, _, dy, _, fs, 2, fdh, _, sp, rfl, S0 _ _ hi, lf, G.cl _ (Nat.lt_of_lt_of_le d.ci_lt (by decide)), M.me, Fh, hr2, Bh, _, rfl, ?_⟩
      show sp [.ref y, n] H0 _ _
      rw [en]
      refine Hs _ _ _ fun H1 S1 => ⟨_, rfl, ?_⟩
      have S1' := S0.trans S1
      refine ite2 (fun h4 => mkO_1 (raise_mono S1' (q2 _ (by rw [h4]; rfl)))) (fun h4 => ?_)
      obtain ⟨sp2, M2, Hs2⟩ := G.has (hy.same S1') hin hd
      obtain ⟨fdh2, Fh2, Bh2⟩ := M2.ok
      refine ⟨_, rfl, y, _, dy, _, fs, 2, fdh2, _, sp2, rfl, S1' _ _ hi, lf, G.cl _ (Nat.lt_of_lt_of_le d.ci_lt (by decide)), M2.me, Fh2, hr2, Bh2, _, rfl, ?_⟩
      show sp2 [.ref y, m] H1 _ _
      rw [em]
      refine Hs2 _ _ _ fun H2 S2 => ⟨_, rfl, ?_⟩
      have S2' := S1'.trans S2
      refine ite2 (fun h5 => mkO_1 (raise_mono S2' (q2 _ (by rw [h5, Bool.or_true]; rfl)))) (fun h5 => ?_)
      have z := q1 (by rw [Bool.eq_false_iff.mpr h4, Bool.eq_false_iff.mpr h5]; rfl) H2 S2'
      rw [← en, ← em]
      have ha := S2' _ _ ha
      refine ⟨_, rfl, _, rfl, a, _, dx, _, rfl, ha, G.cMarked.cl, G.cMarked.no _ (by decide +kernel), (by show 0 < 1000; decide), _, rfl, _, rfl, a, _, dx, _, rfl, upd_same, G.cMarked.cl, G.cMarked.no _ (by decide +kernel), (by show 1 < 1000; decide), _, rfl, _, rfl, a, _, dx, _, rfl, upd_same, G.cMarked.cl, G.cMarked.no _ (by decide +kernel), (by show 2 < 1000; decide), ?_⟩
      show Q .non _
      rw [upd_upd, upd_upd]
      exact z

/-- a marked field -/
def MkAt (K : Frag) (H : Hp) (a : Addr) (n m : V) (d : PD) : Prop := ∃ dx y, H a = some (.ins (ca K 5) dx (fMarked n m (.ref y))) ∧ FieldAt K H y d
def spEqMarked (K : Frag) : Sp := fun vs H Q _ => ∃ (a : Addr) (u n m : V) (d : PD), vs = [.ref a, u] ∧ MkAt K H a n m d ∧ d.In ∧ d.due = none ∧ scal n n = true ∧ scal m m = true ∧
  ((∃ b, u = .ref b ∧ MkAt K H b n m d ∧ Q (.bl true) H) ∨ (∃ b xs, u = .ref b ∧ H b = some (.tup xs) ∧ Q (.bl false) H))

abbrev s_Marked_eq : Stmt := inClass (top 31) 1
theorem sc_Marked_eq : FnScope ["self", "other"] ["self", "other"] (defScope s_Marked_eq) := ⟨rfl, rfl, rfl, by decide +kernel, rfl, by decide +kernel, by decide +kernel⟩

theorem ok_Marked_eq (F : FunD K "__eq__" "Marked.__eq__" (defArgs s_Marked_eq) (defBody s_Marked_eq) (defScope s_Marked_eq) [] [] f fd) (G : G5 P w K mg base) : FnOk P w K mg base CX0 2 f fd ["self", "other"] (spEqMarked K) := by
  refine F.ok (CX := CX0) sc_Marked_eq (fun vs H Q E h => ?_) (fun cdv A outer s H vs Q E hr h => ?_)
  · obtain ⟨a, u, n, m, d, rfl, _⟩ := h
    rfl
  · refine ⟨_, PSs.nox (pss_one (ps_ret (pe_and (pe_cmpR op_isA (pe_callTy call_tyA (by rfl) G.type (by decide +kernel) (pa_cons (pv 0) pa_nil)) (pe_callTy call_tyA (by rfl) G.type (by decide +kernel) (pa_cons (pv 1) pa_nil)) (nomark _)) (pe_and (pe_cmpR op_eq (pe_fld (pv 0) rfl) (pe_fld (pv 1) rfl) (nomark _)) (pe_and (pe_cmpR op_eq (pe_fld (pv 0) rfl) (pe_fld (pv 1) rfl) (nomark _)) (pe_one (pe_cmpR (op_eqO (CX := CX0) pass0) (pe_fld (pv 0) rfl) (pe_fld (pv 1) rfl) (nomark _)))))))), ?_⟩
    obtain ⟨a, u, n, m, d, rfl, ⟨dx, y, ha, hy⟩, hin, hd, k0, k1, h⟩ := h
    rcases h with ⟨b, rfl, ⟨dy, y2, hb, hy2⟩, q⟩ | ⟨b, xs, rfl, hb, q⟩
    · refine ⟨_, rfl, _, rfl, .inl ⟨a, _, dx, _, rfl, ha, _, rfl, _, rfl, .inl ⟨b, _, dy, _, rfl, hb, _, rfl, .inl ⟨_, rfl, .inl rfl, _, rfl, ?_⟩⟩⟩⟩
      refine ite2 (fun _ => ?_) (fun h => absurd (decide_eq_true rfl) h)
      refine ⟨_, rfl, a, _, dx, _, _, rfl, ha, G.cMarked.cl, G.cMarked.no _ (by decide +kernel), lMarked_none, _, rfl, b, _, dy, _, _, rfl, hb, G.cMarked.cl, G.cMarked.no _ (by decide +kernel), lMarked_none, k0, _, rfl, ?_⟩
      refine ite2 (fun _ => ?_) (fun h => absurd (decide_eq_true rfl) h)
      refine ⟨_, rfl, a, _, dx, _, _, rfl, ha, G.cMarked.cl, G.cMarked.no _ (by decide +kernel), lMarked_mark, _, rfl, b, _, dy, _, _, rfl, hb, G.cMarked.cl, G.cMarked.no _ (by decide +kernel), lMarked_mark, k1, _, rfl, ?_⟩
      refine ite2 (fun _ => ?_) (fun h => absurd (decide_eq_true rfl) h)
      obtain ⟨ey, fs, hi, _⟩ := hy.ins
      obtain ⟨ey2, fs2, hi2, _⟩ := hy2.ins
      have h6 := Nat.lt_of_lt_of_le d.ci_lt (by decide : 5 ≤ 6)
      obtain ⟨sp, M, Hs⟩ := G.eqs hy hin hd
      obtain ⟨fde, Fe, Be⟩ := M.ok
      refine ⟨_, rfl, a, _, dx, _, _, rfl, ha, G.cMarked.cl, G.cMarked.no _ (by decide +kernel), lMarked_field, _, rfl, b, _, dy, _, _, rfl, hb, G.cMarked.cl, G.cMarked.no _ (by decide +kernel), lMarked_field, y, ca K d.ci, ey, fs, .ref (ca K d.ci), rfl, hi, (G.kc _ h6).eq, G.ty h6 hi2, ?_, 1, fde, _, sp, (G.kc _ h6).ke, Fe, hr, Be, Hs _ _ _ (.inl ⟨y2, rfl, hy2, true, rfl, q⟩)⟩
      unfold notFirst
      rw [beq_self_eq_true]
      rfl
    · exact ⟨_, rfl, _, rfl, .inl ⟨a, _, dx, _, rfl, ha, _, rfl, _, rfl, .inr ⟨_, .tup hb, _, rfl, .inr ⟨_, rfl, _, rfl, iteF q⟩⟩⟩⟩


end
end L2.K80

set_option Elab.async false
set_option linter.all false
set_option maxRecDepth 100000
set_option maxHeartbeats 4000000
/-! The methods of the field classes. -/
namespace L2.K80
open PySem PySem.W PySem.Spec PySem.Calls PyProof.Rows L2.Jk
def withinB (l m : V) (n : Int) : Bool := decide (intV l ≤ n) && (decide (m = .non) || decide (n ≤ intV m))
def wordB (s l m : V) : V → Bool
  | .str z => madeB z (strV s) && withinB l m z.length
  | _ => false
def numeralB (t : Str) : Bool := if (decide (V.str t = .str "") || !madeB t DG) = true then false else decide (V.str t = .str "0") || !decide (V.str ⟨#[t.cps.getD 0 0]⟩ = .str "0")
def numTx (t : Str) : Str := ("0" : Str) ++ cutS t none (some ((t.length : Int) % 64))
def numOf (t : Str) : Int := (PySem.intText? (numTx t)).getD 0
def numOk (t : Str) : Bool := (PySem.intText? (numTx t)).isSome && (decide (t.length < 64) && (decide ((numTx t).length ≤ 640) && decide (("0" : Str).length + (cutS t none (some ((t.length : Int) % 64))).length ≤ 640)))
def great (w : V) : Int := numOf (repS "9" (intV w))
def greatOk (w : V) : Bool := numOk (repS "9" (intV w)) && repOk "9" (intV w)
theorem wM_gr : ∀ k ∈ List.range 60, 1 ≤ k → greatOk (.int (k : Nat)) = true ∧ PadOk (k : Nat) = true := by decide +kernel
theorem wM_great (w : V) (h : w ∈ wM) : greatOk w = true ∧ w = .int (intV w) ∧ PadOk (intV w) = true ∧ 0 ≤ intV w ∧ intV w < 100 := by
  obtain ⟨i, rfl, h1, h2⟩ := h
  obtain ⟨k, rfl⟩ : ∃ k : Nat, i = (k : Int) := ⟨i.toNat, by omega⟩
  obtain ⟨g1, g2⟩ := wM_gr k (List.mem_range.mpr (by omega)) (by omega)
  exact ⟨g1, rfl, g2, by show (0 : Int) ≤ (k : Int); omega, by show (k : Int) < 100; omega⟩
theorem rg64 : ∀ k ∈ List.range 64, Builtin.Range.small (k : Nat) (k : Nat) 64 = true ∧ Builtin.Range.rangeSize (k : Nat) (k : Nat) 64 = 0 := by decide +kernel
def spWithin (K : Frag) : Sp := fun vs H Q _ => ∃ (a C dx : Addr) (fs : List (Str × V)) (l m : V) (n : Int), vs = [.ref a, .int n] ∧ H a = some (.ins C dx fs) ∧ Cls K C ∧ NoAttr K C "least" ∧ NoAttr K C "most" ∧ fs.lookup ("least" : Str) = some l ∧ fs.lookup ("most" : Str) = some m ∧
  l = .int (intV l) ∧ (m = .non ∨ m = .int (intV m)) ∧ Q (.bl (withinB l m n)) H
def spWordOf (K : Frag) : Sp := fun vs H Q _ => ∃ (a C dx : Addr) (fs : List (Str × V)) (s l m v : V), vs = [.ref a, v] ∧ H a = some (.ins C dx fs) ∧ Cls K C ∧ NoAttr K C "signs" ∧ NoAttr K C "least" ∧ NoAttr K C "most" ∧ fs.lookup ("signs" : Str) = some s ∧ fs.lookup ("least" : Str) = some l ∧ fs.lookup ("most" : Str) = some m ∧
  s = .str (strV s) ∧ l = .int (intV l) ∧ (m = .non ∨ m = .int (intV m)) ∧ Thg H v ∧ lenV v ≤ 900 ∧ Q (.bl (wordB s l m v)) H
def spNumeral : Sp := fun vs H Q _ => ∃ t : Str, vs = [.str t] ∧ t.length ≤ 900 ∧ Q (.bl (numeralB t)) H
def spNumOf : Sp := fun vs H Q _ => ∃ t : Str, vs = [.str t] ∧ numOk t = true ∧ Q (.int (numOf t)) H
def spGreat : Sp := fun vs H Q _ => ∃ w : V, vs = [w] ∧ w ∈ wM ∧ Q (.int (great w)) H
section
variable {P : Program} {w : World} {K : Frag} {mg : Str → Option Value} {base : Heap} {f : Addr} {fd : FuncData}

abbrev s_is_within : Stmt := top 23
theorem sc_is_within : FnScope ["field", "amount"] ["field", "amount"] (defScope s_is_within) := ⟨rfl, rfl, rfl, by decide +kernel, rfl, by decide +kernel, by decide +kernel⟩

theorem ok_is_within (F : FunD K "is_within" "is_within" (defArgs s_is_within) (defBody s_is_within) (defScope s_is_within) [] [] f fd) (G : G0 P w K mg base) : FnOk P w K mg base CX0 1 f fd ["field", "amount"] (spWithin K) := by
  refine F.ok (CX := CX0) sc_is_within (fun vs H Q E h => ?_) (fun cdv A outer s H vs Q E hr h => ?_)
  · obtain ⟨a, C, dx, fs, l, m, n, rfl, _⟩ := h
    rfl
  · refine ⟨_, PSs.nox (pss_one (ps_ret (pe_and (pe_cmpR op_le (pe_fld (pv 0) rfl) (pv 1) (nomark _)) (pe_one (pe_or (pe_cmpR op_isN (pe_fld (pv 0) rfl) pe_non (nomark _)) (pe_one (pe_cmpR op_le (pv 1) (pe_fld (pv 0) rfl) (nomark _)))))))), ?_⟩
    obtain ⟨a, C, dx, fs, l, m, n, rfl, ha, hC, n1, n2, l1, l2, el, em, q⟩ := h
    refine ⟨_, rfl, a, C, dx, fs, _, rfl, ha, hC, n1, l1, _, rfl, intV l, n, el, rfl, _, rfl, ?_⟩
    refine ite2 (fun h1 => ?_) (fun h1 => ?_)
    · refine ⟨_, rfl, a, C, dx, fs, _, rfl, ha, hC, n2, l2, rfl, _, rfl, ?_⟩
      have e1 : withinB l m n = (decide (m = .non) || decide (n ≤ intV m)) := by unfold withinB; rw [h1]; rfl
      rw [e1] at q
      refine ite2 (fun h2 => ?_) (fun h2 => ?_)
      · rw [h2] at q
        exact q
      · rcases em with em | em
        · exact absurd (decide_eq_true em) h2
        refine ⟨_, rfl, _, rfl, a, C, dx, fs, _, rfl, ha, hC, n2, l2, n, intV m, rfl, em, ?_⟩
        rw [Bool.eq_false_iff.mpr h2] at q
        exact q
    · have e1 : withinB l m n = false := by unfold withinB; rw [Bool.eq_false_iff.mpr h1]; rfl
      rw [e1] at q
      exact q

abbrev s_number_of : Stmt := top 18
theorem sc_number_of : FnScope ["digits", "limit", "start", "number", "at"] ["digits"] (defScope s_number_of) := ⟨rfl, rfl, rfl, by decide +kernel, rfl, by decide +kernel, by decide +kernel⟩

theorem ok_number_of (F : FunD K "number_of" "number_of" (defArgs s_number_of) (defBody s_number_of) (defScope s_number_of) [] [] f fd) (G : G0 P w K mg base) : FnOk P w K mg base CX0 1 f fd ["digits"] spNumOf := by
  refine F.ok (CX := CX0) sc_number_of (fun vs H Q E h => ?_) (fun cdv A outer s H vs Q E hr h => ?_)
  · obtain ⟨t, rfl, _⟩ := h
    rfl
  · refine ⟨_, PSs.nox (pss_cons (ps_set (i := 1) sc_number_of.nd rfl (Or.inl rfl) (pe_op op_pow pe_int pe_int))
    (pss_cons (ps_set (i := 2) sc_number_of.nd rfl (Or.inl rfl) (pe_op op_mod (pe_callB call_len_str (by rfl) G.len (by decide +kernel) (pa_cons (pv 0) pa_nil)) pe_int))
    (pss_cons (ps_set (i := 3) sc_number_of.nd rfl (Or.inl rfl) (pe_callTy call_int_str (by rfl) G.int (by decide +kernel) (pa_cons (pe_op op_add_str pe_str (pe_slice sl_str (pv 0) po_none (po_some (pv 2)))) pa_nil)))
    (pss_cons (ps_for PassesOwn.never rfl (pi_range3 (by rfl) G.range (pa_cons (pv 2) (pa_cons (pe_callB call_len_str (by rfl) G.len (by decide +kernel) (pa_cons (pv 0) pa_nil)) (pa_cons pe_int pa_nil)))) (pg_name (i := 4) sc_number_of.nd rfl (Or.inl rfl)) pss_never)
    (pss_one (ps_ret (pv 3))))))), ?_⟩
    obtain ⟨t, rfl, ok, q⟩ := h
    obtain ⟨o1, ok⟩ := Bool.and_eq_true_iff.mp ok
    obtain ⟨o2, ok⟩ := Bool.and_eq_true_iff.mp ok
    obtain ⟨o3, o4⟩ := Bool.and_eq_true_iff.mp ok
    replace o4 := of_decide_eq_true o4
    replace o2 := of_decide_eq_true o2
    replace o3 := of_decide_eq_true o3
    obtain ⟨n, en⟩ := Option.isSome_iff_exists.mp o1
    have zl := small_line t (Nat.le_trans (Nat.le_of_lt o2) (by decide))
    refine ⟨_, _, rfl, rfl, ⟨by decide, by decide, by decide⟩, _, rfl, t, rfl, zl, _, _, rfl, rfl, (by show (0 : Int) < 64; decide), ?_⟩
    refine ⟨_, rfl, _, rfl, _, rfl, t, rfl, zl, ?_⟩
    refine ⟨_, _, rfl, rfl, Nat.le_trans o4 (by rw [sizeLine_eq]; decide), numTx t, n, rfl, en, o3, ?_⟩
    have en2 : numOf t = n := by unfold numOf; rw [en]; rfl
    rw [en2] at q
    have em : (t.length : Int) % 64 = (t.length : Int) := Int.emod_eq_of_lt (by omega) (by omega)
    refine ⟨_, rfl, _, rfl, t, rfl, zl, _, _, 64, 0, rfl, ?_, ?_⟩
    · rw [em]
      obtain ⟨g1, g2⟩ := rg64 t.length (List.mem_range.mpr o2)
      exact ⟨by decide, by decide, g1, g2⟩
    · refine for_rangeC (n := 0) (fun _ σ H' => σ = [some (.str t), some (.int (10 ^ (64 : Int).toNat)), some (.int ((t.length : Int) % 64)), some (.int n), none] ∧ H' = H) ⟨rfl, rfl⟩ (fun i σ H' hi => absurd hi (Nat.not_lt_zero _)) ?_
      rintro σ H' ⟨rfl, rfl⟩
      exact ⟨_, rfl, q⟩

structure P1 (P : Program) (w : World) (K : Frag) (mg : Str → Option Value) (base : Heap) : Prop extends G5 P w K mg base where
  is_within : FnAt P w K mg base CX0 1 "is_within" ["field", "amount"] (spWithin K)
  number_of : FnAt P w K mg base CX0 1 "number_of" ["digits"] spNumOf
  is_numberT : FnAt P w K mg base CX0 1 "is_number" ["thing"] spNumT

abbrev s_greatest_of : Stmt := top 19
theorem sc_greatest_of : FnScope ["width"] ["width"] (defScope s_greatest_of) := ⟨rfl, rfl, rfl, by decide +kernel, rfl, by decide +kernel, by decide +kernel⟩

theorem ok_greatest_of (F : FunD K "greatest_of" "greatest_of" (defArgs s_greatest_of) (defBody s_greatest_of) (defScope s_greatest_of) [] [] f fd) (G : P1 P w K mg base) : FnOk P w K mg base CX0 2 f fd ["width"] spGreat := by
  refine F.ok (CX := CX0) sc_greatest_of (fun vs H Q E h => ?_) (fun cdv A outer s H vs Q E hr h => ?_)
  · obtain ⟨v, rfl, _⟩ := h
    rfl
  · refine ⟨_, PSs.nox (pss_one (ps_ret (pe_fn G.number_of hr pass0 (by rfl) (pa_cons (pe_op op_mulStr pe_str (pv 0)) pa_nil)))), ?_⟩
    obtain ⟨v, rfl, hv, q⟩ := h
    obtain ⟨g, ev, _, _, _⟩ := wM_great v hv
    obtain ⟨g1, g2⟩ := Bool.and_eq_true_iff.mp g
    exact ⟨_, rfl, "9", intV v, rfl, ev, g2, _, rfl, g1, q⟩

abbrev s_is_word_of : Stmt := top 24
theorem sc_is_word_of : FnScope ["field", "thing"] ["field", "thing"] (defScope s_is_word_of) := ⟨rfl, rfl, rfl, by decide +kernel, rfl, by decide +kernel, by decide +kernel⟩

theorem ok_is_word_of (F : FunD K "is_word_of" "is_word_of" (defArgs s_is_word_of) (defBody s_is_word_of) (defScope s_is_word_of) [] [] f fd) (G : P1 P w K mg base) : FnOk P w K mg base CX0 2 f fd ["field", "thing"] (spWordOf K) := by
  refine F.ok (CX := CX0) sc_is_word_of (fun vs H Q E h => ?_) (fun cdv A outer s H vs Q E hr h => ?_)
  · obtain ⟨a, C, dx, fs, s, l, m, v, rfl, _⟩ := h
    rfl
  · refine ⟨_, PSs.nox (pss_one (ps_ret (pe_and (pe_callB call_ie (by rfl) G.isinstance (by decide +kernel) (pa_cons (pv 1) (pa_cons (pe_bty (n := "str") (by rfl) G.str (by decide +kernel)) pa_nil))) (pe_and (pe_fn G.is_made_of hr pass0 (by rfl) (pa_cons (pv 1) (pa_cons (pe_fld (pv 0) rfl) pa_nil))) (pe_one (pe_fn G.is_within hr pass0 (by rfl) (pa_cons (pv 0) (pa_cons (pe_callB call_len_str (by rfl) G.len (by decide +kernel) (pa_cons (pv 1) pa_nil)) pa_nil)))))))), ?_⟩
    obtain ⟨a, C, dx, fs, s, l, m, v, rfl, ha, hC, n1, n2, n3, l1, l2, l3, es, el, em, hf, hz, q⟩ := h
    obtain ⟨T, ty, ks, ki, kb⟩ := thg_ty (K := K) hf
    refine ⟨_, rfl, _, _, _, _, _, rfl, .ty _, ty, kit_ty ks, _, rfl, ?_⟩
    cases v with
    | str z =>
      have hz' : z.length ≤ 900 := hz
      refine iteT ⟨_, rfl, _, rfl, a, C, dx, fs, _, rfl, ha, hC, n1, l1, z, strV s, by rw [← es]; rfl, Nat.le_trans hz' (by decide), _, rfl, ?_⟩
      have r : wordB s l m (.str z) = (madeB z (strV s) && withinB l m z.length) := rfl
      rw [r] at q
      refine ite2 (fun h1 => ?_) (fun h1 => ?_)
      · rw [h1] at q
        exact ⟨_, rfl, _, rfl, z, rfl, small_line z (Nat.le_trans hz' (by decide)), a, C, dx, fs, l, m, _, rfl, ha, hC, n2, n3, l2, l3, el, em, q⟩
      · rw [Bool.eq_false_iff.mpr h1] at q
        exact q
    | _ => exact iteF q

structure P2 (P : Program) (w : World) (K : Frag) (mg : Str → Option Value) (base : Heap) : Prop extends P1 P w K mg base where
  greatest_of : FnAt P w K mg base CX0 2 "greatest_of" ["width"] spGreat
  is_word_of : FnAt P w K mg base CX0 2 "is_word_of" ["field", "thing"] (spWordOf K)
def init1 (t : Str) : Str := cutS t none (some (-1))
def last1 (t : Str) : Str := cutS t (some (-1)) none
/-- what the methods answer -/
def PD.hasV (v : V) : PD → Bool
  | .word s l m => wordB s l m v
  | .number l m => numB v && withinB l m (intV v)
  | .fixed w => numB v && (decide (0 ≤ intV v) && decide (intV v ≤ great w))
  | .listed x => (match v with | .str _ => inV v x.els | _ => false)
  | .ended s _ l m => wordB s l m v
def PD.hasT (t : Str) : PD → Bool
  | .word s l m => wordB s l m (.str t)
  | .number l m => numeralB t && withinB l m (numOf t)
  | .fixed w => decide (V.int t.length = w) && madeB t DG
  | .listed x => inV (.str t) x.els
  | .ended s e l m => decide (V.str (last1 t) = e) && wordB s l m (.str (init1 t))
def PD.textF (v : V) : PD → Str
  | .word .. => strV v
  | .number .. => dg (intV v)
  | .fixed w => Txt.zfill (dg (intV v)) (intV w)
  | .listed _ => strV v
  | .ended _ e _ _ => strV v ++ strV e
def PD.valF (t : Str) : PD → V
  | .word .. => .str t
  | .number .. => .int (numOf t)
  | .fixed _ => .int (numOf t)
  | .listed _ => .str t
  | .ended .. => .str (init1 t)
/-- a text that may be asked for -/
def txOk (t : Str) : Bool := decide (t.length ≤ 900) && (decide ((init1 t).length ≤ 900) && (!numeralB t || numOk t))
/-- a value that may be written -/
def vaOk : V → Bool
  | .int i => decide (0 ≤ i) && decide (i < 400)
  | .str z => decide (z.length ≤ 900)
  | _ => true

def spHVWord (K : Frag) : Sp := fun vs H Q _ => ∃ (a : Addr) (v : V) (s l m : V), vs = [.ref a, v] ∧ FieldAt K H a (.word s l m) ∧ PD.In (.word s l m) ∧ PD.due (.word s l m) = none ∧ Thg H v ∧ lenV v ≤ 900 ∧ Q (.bl (PD.hasV v (.word s l m))) H
def spTFWord (K : Frag) : Sp := fun vs H Q _ => ∃ (a : Addr) (v : V) (s l m : V), vs = [.ref a, v] ∧ FieldAt K H a (.word s l m) ∧ PD.In (.word s l m) ∧ PD.due (.word s l m) = none ∧ vaOk v = true ∧ PD.hasV v (.word s l m) = true ∧ ∀ H', Same H H' → Q (.str (PD.textF v (.word s l m))) H'
def spHTWord (K : Frag) : Sp := fun vs H Q _ => ∃ (a : Addr) (t : Str) (s l m : V), vs = [.ref a, .str t] ∧ FieldAt K H a (.word s l m) ∧ PD.In (.word s l m) ∧ PD.due (.word s l m) = none ∧ txOk t = true ∧ Q (.bl (PD.hasT t (.word s l m))) H
def spVFWord (K : Frag) : Sp := fun vs H Q _ => ∃ (a : Addr) (t : Str) (s l m : V), vs = [.ref a, .str t] ∧ FieldAt K H a (.word s l m) ∧ PD.In (.word s l m) ∧ PD.due (.word s l m) = none ∧ txOk t = true ∧ PD.hasT t (.word s l m) = true ∧ numOk t = true ∧ Q (PD.valF t (.word s l m)) H
def spHVNumber (K : Frag) : Sp := fun vs H Q _ => ∃ (a : Addr) (v : V) (l m : V), vs = [.ref a, v] ∧ FieldAt K H a (.number l m) ∧ PD.In (.number l m) ∧ PD.due (.number l m) = none ∧ Thg H v ∧ lenV v ≤ 900 ∧ Q (.bl (PD.hasV v (.number l m))) H
def spTFNumber (K : Frag) : Sp := fun vs H Q _ => ∃ (a : Addr) (v : V) (l m : V), vs = [.ref a, v] ∧ FieldAt K H a (.number l m) ∧ PD.In (.number l m) ∧ PD.due (.number l m) = none ∧ vaOk v = true ∧ PD.hasV v (.number l m) = true ∧ ∀ H', Same H H' → Q (.str (PD.textF v (.number l m))) H'
def spHTNumber (K : Frag) : Sp := fun vs H Q _ => ∃ (a : Addr) (t : Str) (l m : V), vs = [.ref a, .str t] ∧ FieldAt K H a (.number l m) ∧ PD.In (.number l m) ∧ PD.due (.number l m) = none ∧ txOk t = true ∧ Q (.bl (PD.hasT t (.number l m))) H
def spVFNumber (K : Frag) : Sp := fun vs H Q _ => ∃ (a : Addr) (t : Str) (l m : V), vs = [.ref a, .str t] ∧ FieldAt K H a (.number l m) ∧ PD.In (.number l m) ∧ PD.due (.number l m) = none ∧ txOk t = true ∧ PD.hasT t (.number l m) = true ∧ numOk t = true ∧ Q (PD.valF t (.number l m)) H
def spHVFixed (K : Frag) : Sp := fun vs H Q _ => ∃ (a : Addr) (v : V) (z : V), vs = [.ref a, v] ∧ FieldAt K H a (.fixed z) ∧ PD.In (.fixed z) ∧ PD.due (.fixed z) = none ∧ Thg H v ∧ lenV v ≤ 900 ∧ Q (.bl (PD.hasV v (.fixed z))) H
def spTFFixed (K : Frag) : Sp := fun vs H Q _ => ∃ (a : Addr) (v : V) (z : V), vs = [.ref a, v] ∧ FieldAt K H a (.fixed z) ∧ PD.In (.fixed z) ∧ PD.due (.fixed z) = none ∧ vaOk v = true ∧ PD.hasV v (.fixed z) = true ∧ ∀ H', Same H H' → Q (.str (PD.textF v (.fixed z))) H'
def spHTFixed (K : Frag) : Sp := fun vs H Q _ => ∃ (a : Addr) (t : Str) (z : V), vs = [.ref a, .str t] ∧ FieldAt K H a (.fixed z) ∧ PD.In (.fixed z) ∧ PD.due (.fixed z) = none ∧ txOk t = true ∧ Q (.bl (PD.hasT t (.fixed z))) H
def spVFFixed (K : Frag) : Sp := fun vs H Q _ => ∃ (a : Addr) (t : Str) (z : V), vs = [.ref a, .str t] ∧ FieldAt K H a (.fixed z) ∧ PD.In (.fixed z) ∧ PD.due (.fixed z) = none ∧ txOk t = true ∧ PD.hasT t (.fixed z) = true ∧ numOk t = true ∧ Q (PD.valF t (.fixed z)) H
def spHVListed (K : Frag) : Sp := fun vs H Q _ => ∃ (a : Addr) (v : V) (x : LX), vs = [.ref a, v] ∧ FieldAt K H a (.listed x) ∧ PD.In (.listed x) ∧ PD.due (.listed x) = none ∧ Thg H v ∧ lenV v ≤ 900 ∧ Q (.bl (PD.hasV v (.listed x))) H
def spTFListed (K : Frag) : Sp := fun vs H Q _ => ∃ (a : Addr) (v : V) (x : LX), vs = [.ref a, v] ∧ FieldAt K H a (.listed x) ∧ PD.In (.listed x) ∧ PD.due (.listed x) = none ∧ vaOk v = true ∧ PD.hasV v (.listed x) = true ∧ ∀ H', Same H H' → Q (.str (PD.textF v (.listed x))) H'
def spHTListed (K : Frag) : Sp := fun vs H Q _ => ∃ (a : Addr) (t : Str) (x : LX), vs = [.ref a, .str t] ∧ FieldAt K H a (.listed x) ∧ PD.In (.listed x) ∧ PD.due (.listed x) = none ∧ txOk t = true ∧ Q (.bl (PD.hasT t (.listed x))) H
def spVFListed (K : Frag) : Sp := fun vs H Q _ => ∃ (a : Addr) (t : Str) (x : LX), vs = [.ref a, .str t] ∧ FieldAt K H a (.listed x) ∧ PD.In (.listed x) ∧ PD.due (.listed x) = none ∧ txOk t = true ∧ PD.hasT t (.listed x) = true ∧ numOk t = true ∧ Q (PD.valF t (.listed x)) H
def spHVEnded (K : Frag) : Sp := fun vs H Q _ => ∃ (a : Addr) (v : V) (s e l m : V), vs = [.ref a, v] ∧ FieldAt K H a (.ended s e l m) ∧ PD.In (.ended s e l m) ∧ PD.due (.ended s e l m) = none ∧ Thg H v ∧ lenV v ≤ 900 ∧ Q (.bl (PD.hasV v (.ended s e l m))) H
def spTFEnded (K : Frag) : Sp := fun vs H Q _ => ∃ (a : Addr) (v : V) (s e l m : V), vs = [.ref a, v] ∧ FieldAt K H a (.ended s e l m) ∧ PD.In (.ended s e l m) ∧ PD.due (.ended s e l m) = none ∧ vaOk v = true ∧ PD.hasV v (.ended s e l m) = true ∧ ∀ H', Same H H' → Q (.str (PD.textF v (.ended s e l m))) H'
def spHTEnded (K : Frag) : Sp := fun vs H Q _ => ∃ (a : Addr) (t : Str) (s e l m : V), vs = [.ref a, .str t] ∧ FieldAt K H a (.ended s e l m) ∧ PD.In (.ended s e l m) ∧ PD.due (.ended s e l m) = none ∧ txOk t = true ∧ Q (.bl (PD.hasT t (.ended s e l m))) H
def spVFEnded (K : Frag) : Sp := fun vs H Q _ => ∃ (a : Addr) (t : Str) (s e l m : V), vs = [.ref a, .str t] ∧ FieldAt K H a (.ended s e l m) ∧ PD.In (.ended s e l m) ∧ PD.due (.ended s e l m) = none ∧ txOk t = true ∧ PD.hasT t (.ended s e l m) = true ∧ numOk t = true ∧ Q (PD.valF t (.ended s e l m)) H
abbrev s_Word_has_value : Stmt := inClass (top 26) 2
theorem sc_Word_has_value : FnScope ["self", "thing"] ["self", "thing"] (defScope s_Word_has_value) := ⟨rfl, rfl, rfl, by decide +kernel, rfl, by decide +kernel, by decide +kernel⟩

theorem ok_Word_has_value (F : FunD K "has_value" "Word.has_value" (defArgs s_Word_has_value) (defBody s_Word_has_value) (defScope s_Word_has_value) [] [] f fd) (G : P2 P w K mg base) : FnOk P w K mg base CX0 3 f fd ["self", "thing"] (spHVWord K) := by
  refine F.ok (CX := CX0) sc_Word_has_value (fun vs H Q E h => ?_) (fun cdv A outer s H vs Q E hr h => ?_)
  · obtain ⟨a, v, s, l, m, rfl, _⟩ := h
    rfl
  · refine ⟨_, PSs.nox (pss_one (ps_ret (pe_fn G.is_word_of hr pass0 (by rfl) (pa_cons (pv 0) (pa_cons (pv 1) pa_nil))))), ?_⟩
    obtain ⟨a, v, s, l, m, rfl, hF, hin, hd, hf, hz, q⟩ := h
    obtain ⟨dx, ha⟩ := hF
    obtain ⟨hs, hl, hm⟩ := hin
    obtain ⟨es, el, em⟩ := word_all s hs l hl m hm hd
    exact ⟨_, rfl, _, rfl, a, _, dx, _, s, l, m, _, rfl, ha, G.cWord.cl, G.cWord.no _ (by decide +kernel), G.cWord.no _ (by decide +kernel), G.cWord.no _ (by decide +kernel), lWord_signs, lWord_least, lWord_most, es, el, em, hf, hz, q⟩

abbrev s_Ended_has_value : Stmt := inClass (top 30) 2
theorem sc_Ended_has_value : FnScope ["self", "thing"] ["self", "thing"] (defScope s_Ended_has_value) := ⟨rfl, rfl, rfl, by decide +kernel, rfl, by decide +kernel, by decide +kernel⟩

theorem ok_Ended_has_value (F : FunD K "has_value" "Ended.has_value" (defArgs s_Ended_has_value) (defBody s_Ended_has_value) (defScope s_Ended_has_value) [] [] f fd) (G : P2 P w K mg base) : FnOk P w K mg base CX0 3 f fd ["self", "thing"] (spHVEnded K) := by
  refine F.ok (CX := CX0) sc_Ended_has_value (fun vs H Q E h => ?_) (fun cdv A outer s H vs Q E hr h => ?_)
  · obtain ⟨a, v, s, e, l, m, rfl, _⟩ := h
    rfl
  · refine ⟨_, PSs.nox (pss_one (ps_ret (pe_fn G.is_word_of hr pass0 (by rfl) (pa_cons (pv 0) (pa_cons (pv 1) pa_nil))))), ?_⟩
    obtain ⟨a, v, s, e, l, m, rfl, hF, hin, hd, hf, hz, q⟩ := h
    obtain ⟨dx, ha⟩ := hF
    obtain ⟨hs, he, hl, hm⟩ := hin
    obtain ⟨es, ee, el, em, hel⟩ := end_all s hs e he l hl m hm hd
    exact ⟨_, rfl, _, rfl, a, _, dx, _, s, l, m, _, rfl, ha, G.cEnded.cl, G.cEnded.no _ (by decide +kernel), G.cEnded.no _ (by decide +kernel), G.cEnded.no _ (by decide +kernel), lEnded_signs, lEnded_least, lEnded_most, es, el, em, hf, hz, q⟩

abbrev s_Listed_has_value : Stmt := inClass (top 29) 2
theorem sc_Listed_has_value : FnScope ["self", "thing"] ["self", "thing"] (defScope s_Listed_has_value) := ⟨rfl, rfl, rfl, by decide +kernel, rfl, by decide +kernel, by decide +kernel⟩

theorem ok_Listed_has_value (F : FunD K "has_value" "Listed.has_value" (defArgs s_Listed_has_value) (defBody s_Listed_has_value) (defScope s_Listed_has_value) [] [] f fd) (G : P2 P w K mg base) : FnOk P w K mg base CX0 1 f fd ["self", "thing"] (spHVListed K) := by
  refine F.ok (CX := CX0) sc_Listed_has_value (fun vs H Q E h => ?_) (fun cdv A outer s H vs Q E hr h => ?_)
  · obtain ⟨a, v, x, rfl, _⟩ := h
    rfl
  · refine ⟨_, PSs.nox (pss_one (ps_ret (pe_and (pe_callB call_ie (by rfl) G.isinstance (by decide +kernel) (pa_cons (pv 1) (pa_cons (pe_bty (n := "str") (by rfl) G.str (by decide +kernel)) pa_nil))) (pe_one (pe_cmpR op_in_seq (pv 1) (pe_fld (pv 0) rfl) (by rfl)))))), ?_⟩
    obtain ⟨a, v, x, rfl, hF, hin, hd, hf, hz, q⟩ := h
    obtain ⟨dx, tx, ha, htx⟩ := hF
    obtain ⟨hfl, _⟩ := lM_shaped x hin hd
    obtain ⟨T, ty, ks, ki, kb⟩ := thg_ty (K := K) hf
    refine ⟨_, rfl, _, _, _, _, _, rfl, .ty _, ty, kit_ty ks, _, rfl, ?_⟩
    cases v with
    | str z => exact iteT ⟨_, rfl, _, rfl, a, _, dx, _, _, rfl, ha, G.cListed.cl, G.cListed.no _ (by decide +kernel), lListed_texts, tx, x.els, rfl, .inr (htx.sq), rfl, hfl, q⟩
    | _ => exact iteF q

abbrev s_Number_has_value : Stmt := inClass (top 27) 2
theorem sc_Number_has_value : FnScope ["self", "thing"] ["self", "thing"] (defScope s_Number_has_value) := ⟨rfl, rfl, rfl, by decide +kernel, rfl, by decide +kernel, by decide +kernel⟩

theorem ok_Number_has_value (F : FunD K "has_value" "Number.has_value" (defArgs s_Number_has_value) (defBody s_Number_has_value) (defScope s_Number_has_value) [] [] f fd) (G : P2 P w K mg base) : FnOk P w K mg base CX0 2 f fd ["self", "thing"] (spHVNumber K) := by
  refine F.ok (CX := CX0) sc_Number_has_value (fun vs H Q E h => ?_) (fun cdv A outer s H vs Q E hr h => ?_)
  · obtain ⟨a, v, l, m, rfl, _⟩ := h
    rfl
  · refine ⟨_, PSs.nox (pss_one (ps_ret (pe_and (pe_fn G.is_numberT hr pass0 (by rfl) (pa_cons (pv 1) pa_nil)) (pe_one (pe_fn G.is_within hr pass0 (by rfl) (pa_cons (pv 0) (pa_cons (pv 1) pa_nil))))))), ?_⟩
    obtain ⟨a, v, l, m, rfl, hF, hin, hd, hf, hz, q⟩ := h
    obtain ⟨dx, ha⟩ := hF
    obtain ⟨hl, hm⟩ := hin
    obtain ⟨el, em, _⟩ := num_due l hl m hm hd
    refine ⟨_, rfl, v, rfl, hf, _, rfl, ?_⟩
    cases v with
    | int i => exact iteT ⟨_, rfl, _, rfl, a, _, dx, _, l, m, _, rfl, ha, G.cNumber.cl, G.cNumber.no _ (by decide +kernel), G.cNumber.no _ (by decide +kernel), lNumber_least, lNumber_most, el, em, q⟩
    | _ => exact iteF q

abbrev s_Fixed_has_value : Stmt := inClass (top 28) 2
theorem sc_Fixed_has_value : FnScope ["self", "thing"] ["self", "thing"] (defScope s_Fixed_has_value) := ⟨rfl, rfl, rfl, by decide +kernel, rfl, by decide +kernel, by decide +kernel⟩

theorem ok_Fixed_has_value (F : FunD K "has_value" "Fixed.has_value" (defArgs s_Fixed_has_value) (defBody s_Fixed_has_value) (defScope s_Fixed_has_value) [] [] f fd) (G : P2 P w K mg base) : FnOk P w K mg base CX0 3 f fd ["self", "thing"] (spHVFixed K) := by
  refine F.ok (CX := CX0) sc_Fixed_has_value (fun vs H Q E h => ?_) (fun cdv A outer s H vs Q E hr h => ?_)
  · obtain ⟨a, v, z, rfl, _⟩ := h
    rfl
  · refine ⟨_, PSs.nox (pss_one (ps_ret (pe_and (pe_fn G.is_numberT (hr.mono (by decide)) pass0 (by rfl) (pa_cons (pv 1) pa_nil)) (pe_one (pe_chain op_le op_le pe_int (pv 1) (pe_fn G.greatest_of hr pass0 (by rfl) (pa_cons (pe_fld (pv 0) rfl) pa_nil))))))), ?_⟩
    obtain ⟨a, v, z, rfl, hF, hin, hd, hf, hz, q⟩ := h
    obtain ⟨dx, ha⟩ := hF
    obtain ⟨_, ew, pw, w0, w1⟩ := wM_great z hin
    refine ⟨_, rfl, v, rfl, hf, _, rfl, ?_⟩
    cases v with
    | int i =>
      have r : PD.hasV (.int i) (.fixed z) = (decide (0 ≤ i) && decide (i ≤ great z)) := rfl
      rw [r] at q
      refine iteT ⟨_, rfl, _, _, rfl, rfl, _, rfl, ?_⟩
      refine ite2 (fun h1 => ?_) (fun h1 => ?_)
      · rw [h1] at q
        exact ⟨_, rfl, a, _, dx, _, _, rfl, ha, G.cFixed.cl, G.cFixed.no _ (by decide +kernel), lFixed_width, z, rfl, hin, _, _, rfl, rfl, q⟩
      · rw [Bool.eq_false_iff.mpr h1] at q
        exact q
    | _ => exact iteF q

def idx (z : Str) : List Str → Nat
  | [] => 0
  | y :: ys => if y = z then 0 else idx z ys + 1
theorem idx_at {z : Str} : ∀ {ys : List Str}, z ∈ ys → ys[idx z ys]? = some z ∧ ∀ m, m < idx z ys → ys[m]? ≠ some z
  | [], h => by cases h
  | y :: ys, h => by
    unfold idx
    by_cases e : y = z
    · rw [if_pos e]
      exact ⟨by rw [e]; rfl, fun m hm => absurd hm (Nat.not_lt_zero _)⟩
    · rw [if_neg e]
      have h2 : z ∈ ys := by
        rcases List.mem_cons.mp h with k | k
        · exact absurd k.symm e
        · exact k
      obtain ⟨i1, i2⟩ := idx_at h2
      refine ⟨i1, fun m hm => ?_⟩
      cases m with
      | zero => exact fun k => e (Option.some.inj k)
      | succ m => exact i2 m (Nat.lt_of_succ_lt_succ hm)
/-- puts_before -/
def PD.bef (v u : V) : PD → Bool
  | .word .. => decide ((strV v).cps.toList < (strV u).cps.toList)
  | .number .. => decide (intV v < intV u)
  | .fixed _ => decide (intV v < intV u)
  | .listed x => decide ((idx (strV v) (x.els.map strV) : Int) < (idx (strV u) (x.els.map strV) : Int))
  | .ended .. => decide ((strV v).cps.toList < (strV u).cps.toList)
theorem in_els {x : LX} (ha : x.els.all areB = true) {z : Str} (h : inV (.str z) x.els = true) : z ∈ x.els.map strV := by
  obtain ⟨y, hy, e⟩ := List.any_eq_true.mp h
  have hy2 := List.all_eq_true.mp ha y hy
  cases y with
  | str t =>
    have e2 : t = z := by simpa [eqV] using e
    exact List.mem_map.mpr ⟨_, hy, e2⟩
  | _ => cases hy2

def spPBWord (K : Frag) : Sp := fun vs H Q _ => ∃ (a : Addr) (v u : V) (s l m : V), vs = [.ref a, v, u] ∧ FieldAt K H a (.word s l m) ∧ PD.In (.word s l m) ∧ PD.due (.word s l m) = none ∧ PD.hasV v (.word s l m) = true ∧ PD.hasV u (.word s l m) = true ∧ Q (.bl (PD.bef v u (.word s l m))) H
def spPBNumber (K : Frag) : Sp := fun vs H Q _ => ∃ (a : Addr) (v u : V) (l m : V), vs = [.ref a, v, u] ∧ FieldAt K H a (.number l m) ∧ PD.In (.number l m) ∧ PD.due (.number l m) = none ∧ PD.hasV v (.number l m) = true ∧ PD.hasV u (.number l m) = true ∧ Q (.bl (PD.bef v u (.number l m))) H
def spPBFixed (K : Frag) : Sp := fun vs H Q _ => ∃ (a : Addr) (v u : V) (z : V), vs = [.ref a, v, u] ∧ FieldAt K H a (.fixed z) ∧ PD.In (.fixed z) ∧ PD.due (.fixed z) = none ∧ PD.hasV v (.fixed z) = true ∧ PD.hasV u (.fixed z) = true ∧ Q (.bl (PD.bef v u (.fixed z))) H
def spPBListed (K : Frag) : Sp := fun vs H Q _ => ∃ (a : Addr) (v u : V) (x : LX), vs = [.ref a, v, u] ∧ FieldAt K H a (.listed x) ∧ PD.In (.listed x) ∧ PD.due (.listed x) = none ∧ PD.hasV v (.listed x) = true ∧ PD.hasV u (.listed x) = true ∧ Q (.bl (PD.bef v u (.listed x))) H
def spPBEnded (K : Frag) : Sp := fun vs H Q _ => ∃ (a : Addr) (v u : V) (s e l m : V), vs = [.ref a, v, u] ∧ FieldAt K H a (.ended s e l m) ∧ PD.In (.ended s e l m) ∧ PD.due (.ended s e l m) = none ∧ PD.hasV v (.ended s e l m) = true ∧ PD.hasV u (.ended s e l m) = true ∧ Q (.bl (PD.bef v u (.ended s e l m))) H
structure P3 (P : Program) (w : World) (K : Frag) (mg : Str → Option Value) (base : Heap) : Prop extends P2 P w K mg base where
  hvWord : HM P w K mg base 3 (ca K 0) "has_value" ["self", "thing"] (spHVWord K)
  hvNumber : HM P w K mg base 3 (ca K 1) "has_value" ["self", "thing"] (spHVNumber K)
  hvFixed : HM P w K mg base 3 (ca K 2) "has_value" ["self", "thing"] (spHVFixed K)
  hvListed : HM P w K mg base 3 (ca K 3) "has_value" ["self", "thing"] (spHVListed K)
  hvEnded : HM P w K mg base 3 (ca K 4) "has_value" ["self", "thing"] (spHVEnded K)
theorem P3.hv_ (G : P3 P w K mg base) {H : Hp} {y : Addr} : ∀ {d : PD}, FieldAt K H y d → d.In → d.due = none → ∃ sp, HM P w K mg base 3 (ca K d.ci) "has_value" ["self", "thing"] sp ∧
    ∀ (v : V) (Q : VK) (E : XK), Thg H v → lenV v ≤ 900 → Q (.bl (d.hasV v)) H → sp [.ref y, v] H Q E
  | .word s l m, h, i, u0 => ⟨_, G.hvWord, fun v Q E hf hz q => ⟨y, v, s, l, m, rfl, h, i, u0, hf, hz, q⟩⟩
  | .number l m, h, i, u0 => ⟨_, G.hvNumber, fun v Q E hf hz q => ⟨y, v, l, m, rfl, h, i, u0, hf, hz, q⟩⟩
  | .fixed z, h, i, u0 => ⟨_, G.hvFixed, fun v Q E hf hz q => ⟨y, v, z, rfl, h, i, u0, hf, hz, q⟩⟩
  | .listed x, h, i, u0 => ⟨_, G.hvListed, fun v Q E hf hz q => ⟨y, v, x, rfl, h, i, u0, hf, hz, q⟩⟩
  | .ended s e l m, h, i, u0 => ⟨_, G.hvEnded, fun v Q E hf hz q => ⟨y, v, s, e, l, m, rfl, h, i, u0, hf, hz, q⟩⟩

inductive FD where
  | pl (d : PD)
  | mk (n m : V) (d : PD)
def FdAt (K : Frag) (H : Hp) (a : Addr) : FD → Prop
  | .pl d => FieldAt K H a d ∧ d.In ∧ d.due = none
  | .mk n m d => MkAt K H a n m d ∧ d.In ∧ d.due = none ∧ (∃ c, n = .str ⟨#[c]⟩) ∧ ∃ c, m = .str ⟨#[c]⟩
theorem FdAt.same {K : Frag} {H H' : Hp} {a : Addr} (S : Same H H') : ∀ {d : FD}, FdAt K H a d → FdAt K H' a d
  | .pl _, ⟨h, i⟩ => ⟨h.same S, i⟩
  | .mk _ _ _, ⟨⟨dx, y, h, k⟩, i⟩ => ⟨⟨dx, y, S _ _ h, k.same S⟩, i⟩
def tail1 (t : Str) : Str := cutS t (some 1) none
def head1 (t : Str) : Str := cutS t none (some 1)
def FD.hasV (v : V) : FD → Bool
  | .pl d => d.hasV v
  | .mk _ _ d => decide (v = .non) || d.hasV v
def FD.textF (v : V) : FD → Str
  | .pl d => d.textF v
  | .mk n m d => if decide (v = .non) = true then strV n else strV m ++ d.textF v
def FD.hasT (t : Str) : FD → Bool
  | .pl d => d.hasT t
  | .mk n m d => decide (V.str t = n) || (decide (V.str (head1 t) = m) && d.hasT (tail1 t))
def FD.valF (t : Str) : FD → V
  | .pl d => d.valF t
  | .mk n _ d => if decide (V.str t = n) = true then .non else d.valF (tail1 t)
def FD.txOk (t : Str) : FD → Bool
  | .pl _ => K80.txOk t
  | .mk .. => K80.txOk t && K80.txOk (tail1 t)
def FD.nuOk (t : Str) : FD → Bool
  | .pl _ => numOk t
  | .mk n _ _ => decide (V.str t = n) || numOk (tail1 t)

/-- no attribute of a field has a method's name -/
structure P4 (P : Program) (w : World) (K : Frag) (mg : Str → Option Value) (base : Heap) : Prop extends P3 P w K mg base where
theorem FieldAt.no {H : Hp} {y : Addr} {g : Str} (hg : g = "has_value" ∨ g = "text_for" ∨ g = "has_text" ∨ g = "value_for" ∨ g = "puts_before") : ∀ {d : PD}, FieldAt K H y d → ∀ dx fs C, H y = some (.ins C dx fs) → fs.lookup g = none
  | .word s l m, ⟨dx, h⟩, dx2, fs2, C2, h2 => by
    rw [h] at h2
    cases h2
    unfold fWord
    rcases hg with rfl | rfl | rfl | rfl | rfl <;> (rw [lookup_putF, if_neg (by decide +kernel)]; rw [lookup_putF, if_neg (by decide +kernel)]; rw [lookup_putF, if_neg (by decide +kernel)]; rfl)
  | .number l m, ⟨dx, h⟩, dx2, fs2, C2, h2 => by
    rw [h] at h2
    cases h2
    unfold fNumber
    rcases hg with rfl | rfl | rfl | rfl | rfl <;> (rw [lookup_putF, if_neg (by decide +kernel)]; rw [lookup_putF, if_neg (by decide +kernel)]; rfl)
  | .fixed z, ⟨dx, h⟩, dx2, fs2, C2, h2 => by
    rw [h] at h2
    cases h2
    unfold fFixed
    rcases hg with rfl | rfl | rfl | rfl | rfl <;> (rw [lookup_putF, if_neg (by decide +kernel)]; rfl)
  | .listed _, ⟨dx, t, h, _⟩, dx2, fs2, C2, h2 => by
    rw [h] at h2
    cases h2
    unfold fListed
    rcases hg with rfl | rfl | rfl | rfl | rfl <;> (rw [lookup_putF, if_neg (by decide +kernel)]; rfl)
  | .ended s e l m, ⟨dx, h⟩, dx2, fs2, C2, h2 => by
    rw [h] at h2
    cases h2
    unfold fEnded
    rcases hg with rfl | rfl | rfl | rfl | rfl <;> (rw [lookup_putF, if_neg (by decide +kernel)]; rw [lookup_putF, if_neg (by decide +kernel)]; rw [lookup_putF, if_neg (by decide +kernel)]; rw [lookup_putF, if_neg (by decide +kernel)]; rfl)

def spMHV (K : Frag) : Sp := fun vs H Q _ => ∃ (a : Addr) (n m : V) (d : PD) (v : V), vs = [.ref a, v] ∧ FdAt K H a (.mk n m d) ∧ Thg H v ∧ lenV v ≤ 900 ∧ Q (.bl (FD.hasV v (.mk n m d))) H
abbrev s_Marked_has_value : Stmt := inClass (top 31) 2
theorem sc_Marked_has_value : FnScope ["self", "thing"] ["self", "thing"] (defScope s_Marked_has_value) := ⟨rfl, rfl, rfl, by decide +kernel, rfl, by decide +kernel, by decide +kernel⟩

theorem ok_Marked_has_value (F : FunD K "has_value" "Marked.has_value" (defArgs s_Marked_has_value) (defBody s_Marked_has_value) (defScope s_Marked_has_value) [] [] f fd) (G : P4 P w K mg base) : FnOk P w K mg base CX0 4 f fd ["self", "thing"] (spMHV K) := by
  refine F.ok (CX := CX0) sc_Marked_has_value (fun vs H Q E h => ?_) (fun cdv A outer s H vs Q E hr h => ?_)
  · obtain ⟨a, n, m, d, v, rfl, _⟩ := h
    rfl
  · refine ⟨_, PSs.nox (pss_one (ps_ret (pe_or (pe_cmpR op_isN (pv 1) pe_non (nomark _)) (pe_one (pe_methD (CX := CX0) (pe_fld (pv 0) rfl) pass0 (pa_cons (pv 1) pa_nil)))))), ?_⟩
    obtain ⟨a, n, m, d, v, rfl, ⟨⟨dx, y, ha, hy⟩, hin, hd, ⟨cn, en⟩, cm, em⟩, hf, hz, q⟩ := h
    obtain ⟨ey, fs, hi, _⟩ := hy.ins
    have h6 := Nat.lt_of_lt_of_le d.ci_lt (by decide : 5 ≤ 6)
    obtain ⟨sp, M, Hs⟩ := G.hv_ hy hin hd
    obtain ⟨fde, Fe, Be⟩ := M.ok
    refine ⟨_, rfl, rfl, _, rfl, ?_⟩
    have r : FD.hasV v (.mk n m d) = (decide (v = .non) || d.hasV v) := rfl
    rw [r] at q
    refine ite2 (fun h1 => ?_) (fun h1 => ?_)
    · rw [h1] at q
      exact q
    · rw [Bool.eq_false_iff.mpr h1] at q
      exact ⟨_, rfl, a, _, dx, _, _, rfl, ha, G.cMarked.cl, G.cMarked.no _ (by decide +kernel), lMarked_field, y, _, ey, _, fs, 3, fde, _, sp, rfl, hi, hy.no (by decide +kernel) _ _ _ hi, G.cl _ h6, M.me, Fe, hr, Be, _, rfl, Hs _ _ _ hf hz q⟩

def spMTF (K : Frag) : Sp := fun vs H Q _ => ∃ (a : Addr) (n m : V) (d : PD) (v : V), vs = [.ref a, v] ∧ FdAt K H a (.mk n m d) ∧ vaOk v = true ∧ FD.hasV v (.mk n m d) = true ∧ (d.textF v).length ≤ 900 ∧ ∀ H', Same H H' → Q (.str (FD.textF v (.mk n m d))) H'
def FD.bef (v u : V) : FD → Bool
  | .pl d => d.bef v u
  | .mk _ _ d => if decide (u = .non) = true then false else decide (v = .non) || d.bef v u
def spMPB (K : Frag) : Sp := fun vs H Q _ => ∃ (a : Addr) (n m : V) (d : PD) (v u : V), vs = [.ref a, v, u] ∧ FdAt K H a (.mk n m d) ∧ FD.hasV v (.mk n m d) = true ∧ FD.hasV u (.mk n m d) = true ∧ Q (.bl (FD.bef v u (.mk n m d))) H

end
end L2.K80

set_option Elab.async false
set_option linter.all false
set_option maxRecDepth 100000
set_option maxHeartbeats 4000000
/-! zip of three sequences, lists or tuples. -/
namespace L2.Jk.Z3
open PySem
open PySem.Sem (wp)
/-- a list (true) or a tuple -/
def Sq : Bool → Heap → Addr → Array Value → Prop
  | true, h, a, xs => h.IsList a xs
  | false, h, a, xs => h.IsTuple a xs
def It : Bool → Heap → Addr → Addr → Nat → Prop
  | true, h, a, l, k => h.IsListIter a l k
  | false, h, a, l, k => h.IsTupleIter a l k
def itN : Bool → Str
  | true => "list_iterator"
  | false => "tuple_iterator"
theorem Sq.ext {b : Bool} {h h' : Heap} {a c : Addr} {xs : Array Value} (x : Sq b h a xs) (e : Heap.ExtBut c h h') (n : a ≠ c) : Sq b h' a xs := by
  cases b
  · exact Heap.IsTuple.extBut x e n
  · exact Heap.IsList.extBut x e n
theorem Sq.at {b : Bool} {h h' : Heap} {a : Addr} {xs : Array Value} (x : Sq b h a xs) (k : ∀ o, h.get? a = some o → h'.get? a = some o) : Sq b h' a xs := by
  cases b <;> (obtain ⟨o, ho, r⟩ := x; exact ⟨o, k o ho, r⟩)
theorem It.at {b : Bool} {h h' : Heap} {a l : Addr} {i : Nat} (x : It b h a l i) (k : ∀ o, h.get? a = some o → h'.get? a = some o) : It b h' a l i := by
  cases b <;> (obtain ⟨o, ho, r⟩ := x; exact ⟨o, k o ho, r⟩)
theorem It.ext {b : Bool} {h h' : Heap} {a c l : Addr} {i : Nat} (x : It b h a l i) (e : Heap.ExtBut c h h') (n : a ≠ c) : It b h' a l i := x.at fun o q => e a o n q
theorem It.obj {b : Bool} {h : Heap} {a l : Addr} {i : Nat} (x : It b h a l i) : ∃ o, h.get? a = some o ∧ ∀ v, o.data ≠ .cell v := by
  cases b <;> (obtain ⟨o, ho, _, d⟩ := x; exact ⟨o, ho, fun v q => by rw [d] at q; cases q⟩)
theorem It.lt {b : Bool} {h : Heap} {a l : Addr} {i : Nat} (x : It b h a l i) : a < h.objs.size := by
  obtain ⟨o, e, _⟩ := x.obj
  exact Heap.lt_size e
theorem Sq.lt {b : Bool} {h : Heap} {a : Addr} {xs : Array Value} (x : Sq b h a xs) : a < h.objs.size := by
  cases b <;> (obtain ⟨o, e, _⟩ := x; exact Heap.lt_size e)
abbrev IsTrip (h : Heap) (T : Addr) (a b c : Value) : Prop := h.get? T = some { cls := .type "tuple", data := .seq #[a, b, c] }
structure Ap (z TI TO i1 i2 i3 l1 l2 l3 : Addr) : Prop where
  ti : TI ≠ z ∧ TI ≠ TO ∧ TI ≠ i1 ∧ TI ≠ i2 ∧ TI ≠ i3
  to : TO ≠ z ∧ TO ≠ i1 ∧ TO ≠ i2 ∧ TO ≠ i3
  iz : i1 ≠ z ∧ i2 ≠ z ∧ i3 ≠ z
  ii : i1 ≠ i2 ∧ i1 ≠ i3 ∧ i2 ≠ i3
  a1 : l1 ≠ z ∧ l1 ≠ TO ∧ l1 ≠ i1 ∧ l1 ≠ i2 ∧ l1 ≠ i3
  a2 : l2 ≠ z ∧ l2 ≠ TO ∧ l2 ≠ i1 ∧ l2 ≠ i2 ∧ l2 ≠ i3
  a3 : l3 ≠ z ∧ l3 ≠ TO ∧ l3 ≠ i1 ∧ l3 ≠ i2 ∧ l3 ≠ i3
section
variable {prog : Program} {w : World} {A : Around} {E : Value → Shared → Prop} {s : Shared}
theorem next_item {b : Bool} {it l : Addr} {i : Nat} {xs : Array Value} {x : Value} {Q : Value → Shared → Prop} (hit : It b s.heap it l i) (hl : Sq b s.heap l xs) (hx : xs[i]? = some x)
    (hQ : ∀ h', It b h' it l (i + 1) → Heap.SameBut it s.heap h' → Q x { s with heap := h' }) : wpAny (model prog w) A (Builtin.SmallTypes.nextOf (.ref it)) Q E s := by
  cases b
  · exact RZ.nextOf_tuple_item hit hl hx hQ
  · exact wpAny_nextOf_list_item hit hl hx hQ
theorem next_end {b : Bool} {it l : Addr} {i : Nat} {xs : Array Value} {Q : Value → Shared → Prop} (hh : A.handled = none) (hit : It b s.heap it l i) (hl : Sq b s.heap l xs) (hx : xs[i]? = none)
    (hE : ∀ h' e, Heap.ExtBut it s.heap h' → (∃ o, h'.get? e = some o ∧ o.cls = .type "StopIteration") → E (.ref e) { s with heap := h' }) : wpAny (model prog w) A (Builtin.SmallTypes.nextOf (.ref it)) Q E s := by
  cases b
  · exact RZ.nextOf_tuple_end hh hit hl hx hE
  · exact wpAny_nextOf_list_end hh hit hl hx hE
theorem updateSeq_trip {T : Addr} {a b c x : Value} {k : Nat} {Q : Unit → Shared → Prop} (hT : IsTrip s.heap T a b c)
    (h : ∀ h', h'.get? T = some { cls := .type "tuple", data := .seq ((#[a, b, c] : Array Value).setIfInBounds k x) } → Heap.SameBut T s.heap h' → Q () { s with heap := h' }) :
    wpAny (model prog w) A (updateSeq T (·.setIfInBounds k x)) Q E s := by
  refine wpAny_updateSeq hT rfl (h _ ?_ (Heap.SameBut.update ..))
  rw [Heap.get?_update_self _ hT rfl]
  simp [Obj.mapSeq]
variable {z TI TO i1 i2 i3 l1 l2 l3 : Addr} {k : Nat} {b1 b2 b3 : Bool} {xs ys zs : Array Value} {a b c : Value}
/-- what stands still -/
def Kp (z TO i1 i2 i3 : Addr) (h h' : Heap) : Prop := ∀ c o, c ≠ z → c ≠ TO → c ≠ i1 → c ≠ i2 → c ≠ i3 → h.get? c = some o → h'.get? c = some o
theorem zip_item {x y u : Value} {Q : Value → Shared → Prop} (D : Ap z TI TO i1 i2 i3 l1 l2 l3)
    (hz : IsZip s.heap z TI TO .none) (hTI : IsTrip s.heap TI (.ref i1) (.ref i2) (.ref i3)) (hTO : IsTrip s.heap TO a b c)
    (h1 : It b1 s.heap i1 l1 k) (h2 : It b2 s.heap i2 l2 k) (h3 : It b3 s.heap i3 l3 k) (q1 : Sq b1 s.heap l1 xs) (q2 : Sq b2 s.heap l2 ys) (q3 : Sq b3 s.heap l3 zs)
    (hx : xs[k]? = some x) (hy : ys[k]? = some y) (hu : zs[k]? = some u)
    (hQ : ∀ h', IsZip h' z TI TO (rawInt s.heap.objs.size) → IsTrip h' TO x y u → It b1 h' i1 l1 (k + 1) → It b2 h' i2 l2 (k + 1) → It b3 h' i3 l3 (k + 1) → IsTrip h' s.heap.objs.size x y u → h'.objs.size = s.heap.objs.size + 1 →
      Kp z TO i1 i2 i3 s.heap h' → Q (.ref s.heap.objs.size) { s with heap := h' }) :
    wpAny (model prog w) A (Builtin.«zip.__next__» ⟨[.ref z], []⟩) (fun fin s' => ∃ v, fin = .done (.ret v) ∧ Q v s') E s := by
  obtain ⟨⟨ti1, ti2, ti3, ti4, ti5⟩, ⟨to1, to2, to3, to4⟩, ⟨iz1, iz2, iz3⟩, ⟨ii1, ii2, ii3⟩, ⟨x1, x2, x3, x4, x5⟩, ⟨y1, y2, y3, y4, y5⟩, ⟨w1, w2, w3, w4, w5⟩⟩ := D
  show wpAny _ _ (field (.ref z) 2 >>= _) _ _ _
  refine wpAny_bind (wpAny_field hz rfl (x := .bool false) rfl ?_)
  show wpAny _ _ (field (.ref z) 3 >>= _) _ _ _
  refine wpAny_bind (wpAny_field hz rfl (x := .ref TI) rfl ?_)
  refine wpAny_bind (wpAny_seqItems hTI rfl ?_)
  show wpAny _ _ (Builtin.SmallTypes.ownedTupleIsFree (.ref z) >>= _) _ _ _
  refine wpAny_bind ?_
  unfold Builtin.SmallTypes.ownedTupleIsFree
  refine wpAny_bind (wpAny_field hz rfl (x := .none) rfl (wpAny_pure ?_))
  simp only [if_true]
  refine wpAny_bind (wpAny_rule ?_)
  refine wpAny_bind (wpAny_field hz rfl (x := .ref TO) rfl ?_)
  refine wpAny_bind (wpAny_setField_rec hz (by simp) fun h₁ hz₁ hs₁ => ?_)
  replace hz₁ : IsZip h₁ z TI TO .ellipsis := hz₁
  refine wpAny_bind ?_
  simp only [List.zipIdx_cons, List.zipIdx_nil, List.forIn_cons, List.forIn_nil]
  have e1 := hs₁.extBut
  have hTO₁ : IsTrip h₁ TO a b c := e1 _ _ to1 hTO

  refine wpAny_bind (wpAny_bind (wpAny_onRaise ?_))
  show wpAny _ _ (Builtin.SmallTypes.nextOf (.ref i1) >>= _) _ _ _
  refine wpAny_bind (next_item (h1.ext e1 iz1) (q1.ext e1 x1) hx fun h₂ n1 hs₂ => wpAny_pure ?_)
  have e2 := hs₂.extBut
  have hTO₂ : IsTrip h₂ TO a b c := e2 _ _ to2 hTO₁
  refine wpAny_bind (wpAny_seqItems hTO₂ rfl ?_)
  refine wpAny_bind (updateSeq_trip hTO₂ fun h₃ hTO₃ hs₃ => ?_)
  have e3 := hs₃.extBut
  replace hTO₃ : IsTrip h₃ TO x b c := hTO₃
  refine wpAny_bind (wpAny_letGo (wpAny_pure ?_))

  refine wpAny_bind (wpAny_bind (wpAny_onRaise ?_))
  show wpAny _ _ (Builtin.SmallTypes.nextOf (.ref i2) >>= _) _ _ _
  refine wpAny_bind (next_item (((h2.ext e1 iz2).ext e2 ii1.symm).ext e3 to3.symm) (((q2.ext e1 y1).ext e2 y3).ext e3 y2) hy fun h₄ n2 hs₄ => wpAny_pure ?_)
  have e4 := hs₄.extBut
  have hTO₄ : IsTrip h₄ TO x b c := e4 _ _ to3 hTO₃
  refine wpAny_bind (wpAny_seqItems hTO₄ rfl ?_)
  refine wpAny_bind (updateSeq_trip hTO₄ fun h₅ hTO₅ hs₅ => ?_)
  have e5 := hs₅.extBut
  replace hTO₅ : IsTrip h₅ TO x y c := hTO₅
  refine wpAny_bind (wpAny_letGo (wpAny_pure ?_))

  refine wpAny_bind (wpAny_bind (wpAny_onRaise ?_))
  show wpAny _ _ (Builtin.SmallTypes.nextOf (.ref i3) >>= _) _ _ _
  refine wpAny_bind (next_item (((((h3.ext e1 iz3).ext e2 ii2.symm).ext e3 to4.symm).ext e4 ii3.symm).ext e5 to4.symm) (((((q3.ext e1 w1).ext e2 w3).ext e3 w2).ext e4 w4).ext e5 w2) hu fun h₆ n3 hs₆ => wpAny_pure ?_)
  have e6 := hs₆.extBut
  have hTO₆ : IsTrip h₆ TO x y c := e6 _ _ to4 hTO₅
  refine wpAny_bind (wpAny_seqItems hTO₆ rfl ?_)
  refine wpAny_bind (updateSeq_trip hTO₆ fun h₇ hTO₇ hs₇ => ?_)
  have e7 := hs₇.extBut
  replace hTO₇ : IsTrip h₇ TO x y u := hTO₇
  refine wpAny_bind (wpAny_letGo (wpAny_pure (wpAny_pure ?_)))

  refine wpAny_bind (wpAny_seqItems hTO₇ rfl ?_)
  refine wpAny_bind (wpAny_newTuple ?_)
  have hsz : h₇.objs.size = s.heap.objs.size := by rw [hs₇.1, hs₆.1, hs₅.1, hs₄.1, hs₃.1, hs₂.1, hs₁.1]
  have hz₇ : IsZip h₇ z TI TO .ellipsis := e7 _ _ to1.symm (e6 _ _ iz3.symm (e5 _ _ to1.symm (e4 _ _ iz2.symm (e3 _ _ to1.symm (e2 _ _ iz1.symm hz₁)))))
  have hk₇ : Kp z TO i1 i2 i3 s.heap h₇ := fun c o c1 c2 c3 c4 c5 e =>
    e7 _ _ c2 (e6 _ _ c5 (e5 _ _ c2 (e4 _ _ c4 (e3 _ _ c2 (e2 _ _ c3 (e1 _ _ c1 e))))))
  have m1 : It b1 h₇ i1 l1 (k + 1) := ((((n1.ext e3 to2.symm).ext e4 ii1).ext e5 to2.symm).ext e6 ii2).ext e7 to2.symm
  have m2 : It b2 h₇ i2 l2 (k + 1) := ((n2.ext e5 to3.symm).ext e6 ii3).ext e7 to3.symm
  have m3 : It b3 h₇ i3 l3 (k + 1) := n3.ext e7 to4.symm
  have hzlt : z < h₇.objs.size := Heap.lt_size hz₇
  show wpAny _ _ (Builtin.SmallTypes.ownedTupleHandOut (.ref z) (.ref h₇.objs.size) >>= _) _ _ _
  refine wpAny_bind ?_
  unfold Builtin.SmallTypes.ownedTupleHandOut
  have hz₈ : IsZip (h₇.push { cls := .type "tuple", data := .seq #[x, y, u] }) z TI TO .ellipsis := Heap.get?_push_of_some _ hz₇
  refine wpAny_bind (wpAny_setField_rec hz₈ (by simp) fun h₉ hz₉ hs₉ => ?_)
  replace hz₉ : IsZip h₉ z TI TO (rawInt h₇.objs.size) := hz₉
  refine wpAny_setField_rec hz₉ (by simp) fun ha hza hsa => ?_
  replace hza : IsZip ha z TI TO (rawInt h₇.objs.size) := hza
  have up : ∀ c o, c ≠ z → h₇.get? c = some o → ha.get? c = some o := fun c o c1 e => hsa.extBut _ _ c1 (hs₉.extBut _ _ c1 (Heap.get?_push_of_some _ e))
  have hTa : IsTrip ha h₇.objs.size x y u := hsa.extBut _ _ (Nat.ne_of_gt hzlt) (hs₉.extBut _ _ (Nat.ne_of_gt hzlt) (Heap.get?_push_size _ rfl))
  have hza8 : ha.objs.size = h₇.objs.size + 1 := by rw [hsa.1, hs₉.1, Heap.size_push]
  rw [hsz] at hza hTa hza8
  refine wpAny_pure ⟨_, rfl, ?_⟩
  show Q (.ref h₇.objs.size) _
  rw [hsz]
  exact hQ ha hza (up _ _ to1 hTO₇) (m1.at fun o e => up _ o iz1 e) (m2.at fun o e => up _ o iz2 e) (m3.at fun o e => up _ o iz3 e) hTa hza8 fun c o c1 c2 c3 c4 c5 e => up c o c1 (hk₇ c o c1 c2 c3 c4 c5 e)

/-- where one of the three is at its end -/
theorem zip_end {Q : Fin → Shared → Prop} (hh : A.handled = none) (D : Ap z TI TO i1 i2 i3 l1 l2 l3)
    (hz : IsZip s.heap z TI TO .none) (hTI : IsTrip s.heap TI (.ref i1) (.ref i2) (.ref i3)) (hTO : IsTrip s.heap TO a b c)
    (h1 : It b1 s.heap i1 l1 k) (h2 : It b2 s.heap i2 l2 k) (h3 : It b3 s.heap i3 l3 k) (q1 : Sq b1 s.heap l1 xs) (q2 : Sq b2 s.heap l2 ys) (q3 : Sq b3 s.heap l3 zs)
    (hend : xs[k]? = none ∨ ys[k]? = none ∨ zs[k]? = none)
    (hE : ∀ h' e, Kp z TO i1 i2 i3 s.heap h' → (∃ o, h'.get? e = some o ∧ o.cls = .type "StopIteration") → E (.ref e) { s with heap := h' }) :
    wpAny (model prog w) A (Builtin.«zip.__next__» ⟨[.ref z], []⟩) Q E s := by
  obtain ⟨⟨ti1, ti2, ti3, ti4, ti5⟩, ⟨to1, to2, to3, to4⟩, ⟨iz1, iz2, iz3⟩, ⟨ii1, ii2, ii3⟩, ⟨x1, x2, x3, x4, x5⟩, ⟨y1, y2, y3, y4, y5⟩, ⟨w1, w2, w3, w4, w5⟩⟩ := D
  show wpAny _ _ (field (.ref z) 2 >>= _) _ _ _
  refine wpAny_bind (wpAny_field hz rfl (x := .bool false) rfl ?_)
  show wpAny _ _ (field (.ref z) 3 >>= _) _ _ _
  refine wpAny_bind (wpAny_field hz rfl (x := .ref TI) rfl ?_)
  refine wpAny_bind (wpAny_seqItems hTI rfl ?_)
  show wpAny _ _ (Builtin.SmallTypes.ownedTupleIsFree (.ref z) >>= _) _ _ _
  refine wpAny_bind ?_
  unfold Builtin.SmallTypes.ownedTupleIsFree
  refine wpAny_bind (wpAny_field hz rfl (x := .none) rfl (wpAny_pure ?_))
  simp only [if_true]
  refine wpAny_bind (wpAny_rule ?_)
  refine wpAny_bind (wpAny_field hz rfl (x := .ref TO) rfl ?_)
  refine wpAny_bind (wpAny_setField_rec hz (by simp) fun h₁ hz₁ hs₁ => ?_)
  replace hz₁ : IsZip h₁ z TI TO .ellipsis := hz₁
  refine wpAny_bind ?_
  simp only [List.zipIdx_cons, List.zipIdx_nil, List.forIn_cons, List.forIn_nil]
  have e1 := hs₁.extBut
  have hTO₁ : IsTrip h₁ TO a b c := e1 _ _ to1 hTO
  refine wpAny_bind (wpAny_bind (wpAny_onRaise ?_))
  show wpAny _ _ (Builtin.SmallTypes.nextOf (.ref i1) >>= _) _ _ _
  cases hx : xs[k]? with
  | none =>
    refine wpAny_bind (next_end hh (h1.ext e1 iz1) (q1.ext e1 x1) hx fun h₂ e e2 he => ?_)
    obtain ⟨oe, hoe, hce⟩ := he
    have hz₂ : IsZip h₂ z TI TO .ellipsis := e2 _ _ iz1.symm hz₁
    have hez : e ≠ z := fun x => by subst x; rw [hz₂] at hoe; cases hoe; simp at hce
    refine wpAny_setField_rec hz₂ (by simp) fun h₃ _ hs₃ => hE h₃ e (fun c o c1 _ c3 _ _ x => hs₃.extBut _ _ c1 (e2 _ _ c3 (e1 _ _ c1 x))) ⟨oe, hs₃.extBut _ _ hez hoe, hce⟩
  | some x =>
    refine wpAny_bind (next_item (h1.ext e1 iz1) (q1.ext e1 x1) hx fun h₂ n1 hs₂ => wpAny_pure ?_)
    have e2 := hs₂.extBut
    have hTO₂ : IsTrip h₂ TO a b c := e2 _ _ to2 hTO₁
    refine wpAny_bind (wpAny_seqItems hTO₂ rfl ?_)
    refine wpAny_bind (updateSeq_trip hTO₂ fun h₃ hTO₃ hs₃ => ?_)
    have e3 := hs₃.extBut
    replace hTO₃ : IsTrip h₃ TO x b c := hTO₃
    refine wpAny_bind (wpAny_letGo (wpAny_pure ?_))
    refine wpAny_bind (wpAny_bind (wpAny_onRaise ?_))
    show wpAny _ _ (Builtin.SmallTypes.nextOf (.ref i2) >>= _) _ _ _
    have hz₃ : IsZip h₃ z TI TO .ellipsis := e3 _ _ to1.symm (e2 _ _ iz1.symm hz₁)
    have g2 := ((h2.ext e1 iz2).ext e2 ii1.symm).ext e3 to3.symm
    have r2 := ((q2.ext e1 y1).ext e2 y3).ext e3 y2
    cases hy : ys[k]? with
    | none =>
      refine wpAny_bind (next_end hh g2 r2 hy fun h₄ e e4 he => ?_)
      obtain ⟨oe, hoe, hce⟩ := he
      have hz₄ : IsZip h₄ z TI TO .ellipsis := e4 _ _ iz2.symm hz₃
      have hez : e ≠ z := fun x => by subst x; rw [hz₄] at hoe; cases hoe; simp at hce
      refine wpAny_setField_rec hz₄ (by simp) fun h₅ _ hs₅ => hE h₅ e (fun c o c1 c2 c3 c4 _ x => hs₅.extBut _ _ c1 (e4 _ _ c4 (e3 _ _ c2 (e2 _ _ c3 (e1 _ _ c1 x))))) ⟨oe, hs₅.extBut _ _ hez hoe, hce⟩
    | some y =>
      have hu : zs[k]? = none := by
        rcases hend with h | h | h
        · rw [hx] at h; cases h
        · rw [hy] at h; cases h
        · exact h
      refine wpAny_bind (next_item g2 r2 hy fun h₄ n2 hs₄ => wpAny_pure ?_)
      have e4 := hs₄.extBut
      have hTO₄ : IsTrip h₄ TO x b c := e4 _ _ to3 hTO₃
      refine wpAny_bind (wpAny_seqItems hTO₄ rfl ?_)
      refine wpAny_bind (updateSeq_trip hTO₄ fun h₅ hTO₅ hs₅ => ?_)
      have e5 := hs₅.extBut
      replace hTO₅ : IsTrip h₅ TO x y c := hTO₅
      refine wpAny_bind (wpAny_letGo (wpAny_pure ?_))
      refine wpAny_bind (wpAny_bind (wpAny_onRaise ?_))
      show wpAny _ _ (Builtin.SmallTypes.nextOf (.ref i3) >>= _) _ _ _
      refine wpAny_bind (next_end hh (((((h3.ext e1 iz3).ext e2 ii2.symm).ext e3 to4.symm).ext e4 ii3.symm).ext e5 to4.symm) (((((q3.ext e1 w1).ext e2 w3).ext e3 w2).ext e4 w4).ext e5 w2) hu fun h₆ e e6 he => ?_)
      obtain ⟨oe, hoe, hce⟩ := he
      have hz₆ : IsZip h₆ z TI TO .ellipsis := e6 _ _ iz3.symm (e5 _ _ to1.symm (e4 _ _ iz2.symm hz₃))
      have hez : e ≠ z := fun x => by subst x; rw [hz₆] at hoe; cases hoe; simp at hce
      refine wpAny_setField_rec hz₆ (by simp) fun h₇ _ hs₇ => hE h₇ e (fun c o c1 c2 c3 c4 c5 x => hs₇.extBut _ _ c1 (e6 _ _ c5 (e5 _ _ c2 (e4 _ _ c4 (e3 _ _ c2 (e2 _ _ c3 (e1 _ _ c1 x))))))) ⟨oe, hs₇.extBut _ _ hez hoe, hce⟩

theorem pyNext_item {x y u : Value} {Q : Option Value → Shared → Prop} (D : Ap z TI TO i1 i2 i3 l1 l2 l3)
    (hz : IsZip s.heap z TI TO .none) (hTI : IsTrip s.heap TI (.ref i1) (.ref i2) (.ref i3)) (hTO : IsTrip s.heap TO a b c)
    (h1 : It b1 s.heap i1 l1 k) (h2 : It b2 s.heap i2 l2 k) (h3 : It b3 s.heap i3 l3 k) (q1 : Sq b1 s.heap l1 xs) (q2 : Sq b2 s.heap l2 ys) (q3 : Sq b3 s.heap l3 zs)
    (hx : xs[k]? = some x) (hy : ys[k]? = some y) (hu : zs[k]? = some u)
    (hQ : ∀ h', IsZip h' z TI TO (rawInt s.heap.objs.size) → IsTrip h' TO x y u → It b1 h' i1 l1 (k + 1) → It b2 h' i2 l2 (k + 1) → It b3 h' i3 l3 (k + 1) → IsTrip h' s.heap.objs.size x y u → h'.objs.size = s.heap.objs.size + 1 →
      Kp z TO i1 i2 i3 s.heap h' → Q (some (.ref s.heap.objs.size)) { s with heap := h' }) :
    wpAny (model prog w) A (pyNext (.ref z)) Q E s := by
  have hT : s.TypeIs (.ref z) "zip" := ⟨_, hz, rfl⟩
  unfold pyNext
  exact wpAny_bind (wpAny_attempt (wpAny_callSpecial?_slot (name := Str.ofString "__next__") hT F.slot_zip_next
    (wpAny_call_entry F.slot_zip_next hT F.entry_zip_next
      (zip_item D hz hTI hTO h1 h2 h3 q1 q2 q3 hx hy hu fun h' a1 a2 a3 a4 a5 a6 a7 a8 => wpAny_pure (hQ h' a1 a2 a3 a4 a5 a6 a7 a8)) (F.args_zip_next_1 _))))
theorem pyNext_end {Q : Option Value → Shared → Prop} (hh : A.handled = none) (D : Ap z TI TO i1 i2 i3 l1 l2 l3)
    (hz : IsZip s.heap z TI TO .none) (hTI : IsTrip s.heap TI (.ref i1) (.ref i2) (.ref i3)) (hTO : IsTrip s.heap TO a b c)
    (h1 : It b1 s.heap i1 l1 k) (h2 : It b2 s.heap i2 l2 k) (h3 : It b3 s.heap i3 l3 k) (q1 : Sq b1 s.heap l1 xs) (q2 : Sq b2 s.heap l2 ys) (q3 : Sq b3 s.heap l3 zs)
    (hend : xs[k]? = none ∨ ys[k]? = none ∨ zs[k]? = none)
    (hQ : ∀ h', Kp z TO i1 i2 i3 s.heap h' → Q none { s with heap := h' }) : wpAny (model prog w) A (pyNext (.ref z)) Q E s := by
  have hT : s.TypeIs (.ref z) "zip" := ⟨_, hz, rfl⟩
  unfold pyNext
  refine wpAny_bind (wpAny_attempt (wpAny_callSpecial?_slot (name := Str.ofString "__next__") hT F.slot_zip_next
    (wpAny_call_entry F.slot_zip_next hT F.entry_zip_next (zip_end hh D hz hTI hTO h1 h2 h3 q1 q2 q3 hend fun h' e hk he => ?_) (F.args_zip_next_1 _))))
  obtain ⟨o, ho, hc⟩ := he
  refine wpAny_bind (wpAny_isInstance (T := "StopIteration") (b := true) ⟨o, ho, hc⟩ isSubtype_stop ?_)
  exact wpAny_pure (hQ _ hk)
end
end L2.Jk.Z3

set_option Elab.async false
set_option linter.all false
set_option maxRecDepth 100000
set_option maxHeartbeats 4000000
/-! zip(a, b, c): made, walked. -/
namespace L2.Jk.Z3
open PySem PySem.W PySem.Spec PySem.Calls PyProof.Rows L2 L2.Jk
theorem typeCall_zip_3 (a b c : Value) : checkTypeCall "zip" ⟨[a, b, c], []⟩ = pure () := by kernel_rfl
theorem newCall_zip_3 (a b c : Value) : checkBuiltinCall "zip.__new__" ⟨[.type "zip", a, b, c], []⟩ = pure () := by kernel_rfl
theorem args_object_init_4 (a b c d : Value) : argsOk "object.__init__" ⟨[a, b, c, d], []⟩ := by
  unfold argsOk; rw [signature?_of (id := "object.__init__") (n := ['_', '_', 't', 'i', 'n', 'i', '_', '_']) (o := ['t', 'c', 'e', 'j', 'b', 'o']) (by kernel_rfl) PySem.F.owner_object]; kernel_rfl
def itO (b : Bool) (l : Addr) : Obj := match b with
  | true => { cls := .type "list_iterator", data := .fields #[.ref l, .int 0 0] }
  | false => { cls := .type "tuple_iterator", data := .fields #[.ref l, .int 0 0] }
theorem it_new {b : Bool} {h : Heap} {a l : Addr} (e : h.get? a = some (itO b l)) : It b h a l 0 := by
  cases b <;> exact ⟨_, e, rfl, rfl⟩
section
variable {prog : Program} {w : World} {A : Around} {E : Value → Shared → Prop} {s : Shared}
theorem pyIter_sq {b : Bool} {l : Addr} {xs : Array Value} {Q : Value → Shared → Prop} (hl : Sq b s.heap l xs) (hQ : Q (.ref s.heap.objs.size) { s with heap := s.heap.push (itO b l) }) : wpAny (model prog w) A (pyIter (.ref l)) Q E s := by
  cases b
  · exact wpAny_pyIter_tuple hl hQ
  · exact wpAny_pyIter_list hl hQ
abbrev g1 (h : Heap) (b1 : Bool) (l1 : Addr) : Heap := h.push (itO b1 l1)
abbrev g2 (h : Heap) (b1 b2 : Bool) (l1 l2 : Addr) : Heap := (g1 h b1 l1).push (itO b2 l2)
abbrev g3 (h : Heap) (b1 b2 b3 : Bool) (l1 l2 l3 : Addr) : Heap := (g2 h b1 b2 l1 l2).push (itO b3 l3)
abbrev g4 (h : Heap) (b1 b2 b3 : Bool) (l1 l2 l3 : Addr) : Heap := (g3 h b1 b2 b3 l1 l2 l3).push { cls := .type "tuple", data := .seq #[.ref h.objs.size, .ref (g1 h b1 l1).objs.size, .ref (g2 h b1 b2 l1 l2).objs.size] }
abbrev g5 (h : Heap) (b1 b2 b3 : Bool) (l1 l2 l3 : Addr) : Heap := (g4 h b1 b2 b3 l1 l2 l3).push { cls := .type "tuple", data := .seq #[.none, .none, .none] }
abbrev g6 (h : Heap) (b1 b2 b3 : Bool) (l1 l2 l3 : Addr) : Heap := (g5 h b1 b2 b3 l1 l2 l3).push { cls := .type "zip", data := .fields #[.none, .bool false, .bool false, .ref (g3 h b1 b2 b3 l1 l2 l3).objs.size, .ref (g4 h b1 b2 b3 l1 l2 l3).objs.size] }
theorem Sq.push {b : Bool} {h : Heap} {a : Addr} {xs : Array Value} (x : Sq b h a xs) (o : Obj) : Sq b (h.push o) a xs := x.at fun _ e => Heap.get?_push_of_some _ e
theorem meets_zip3_new (b1 b2 b3 : Bool) (l1 l2 l3 : Addr) (xs ys zs : Array Value) :
    Meets (Builtin.«zip.__new__» ⟨[.type "zip", .ref l1, .ref l2, .ref l3], []⟩) (fun _ R s => Sq b1 s.heap l1 xs ∧ Sq b2 s.heap l2 ys ∧ Sq b3 s.heap l3 zs ∧
      R (.ok (.ret (.ref (g5 s.heap b1 b2 b3 l1 l2 l3).objs.size))) { s with heap := g6 s.heap b1 b2 b3 l1 l2 l3 }) :=
  .of_wp fun prog w A R s h => by
    obtain ⟨hp, g, d, tk, os⟩ := s; obtain ⟨hl1, hl2, hl3, h⟩ := h
    have hsub := sub_zip
    have hL1 : Sq b1 (Shared.heap ⟨hp, g, d, tk, os⟩) l1 xs := hl1
    have hL2 : Sq b2 (Shared.heap ⟨hp.push (itO b1 l1), g, d, tk, os⟩) l2 ys := Sq.push hl2 _
    have hL3 : Sq b3 (Shared.heap ⟨(hp.push (itO b1 l1)).push (itO b2 l2), g, d, tk, os⟩) l3 zs := Sq.push (Sq.push hl3 _) _
    wp_walk using pyIter_sq hL1, pyIter_sq hL2, pyIter_sq hL3
    exact ⟨_, rfl, h⟩
theorem call_zip3 {b1 b2 b3 : Bool} {l1 l2 l3 : Addr} {xs ys zs : Array Value} {Q : Value → Shared → Prop} (hl1 : Sq b1 s.heap l1 xs) (hl2 : Sq b2 s.heap l2 ys) (hl3 : Sq b3 s.heap l3 zs)
    (h : ∀ h', IsZip h' (s.heap.objs.size + 5) (s.heap.objs.size + 3) (s.heap.objs.size + 4) .none → IsTrip h' (s.heap.objs.size + 3) (.ref s.heap.objs.size) (.ref (s.heap.objs.size + 1)) (.ref (s.heap.objs.size + 2)) →
      IsTrip h' (s.heap.objs.size + 4) .none .none .none → It b1 h' s.heap.objs.size l1 0 → It b2 h' (s.heap.objs.size + 1) l2 0 → It b3 h' (s.heap.objs.size + 2) l3 0 → h'.objs.size = s.heap.objs.size + 6 →
      (∀ c o, s.heap.get? c = some o → h'.get? c = some o) → Q (.ref (s.heap.objs.size + 5)) { s with heap := h' }) :
    wpAny (model prog w) A (call (.type "zip") [.ref l1, .ref l2, .ref l3]) Q E s := by
  refine callType_new PySem.F.called_zip (by decide) (typeCall_zip_3 _ _ _) (newCall_zip_3 _ _ _) (fun obj => args_object_init_4 obj _ _ _) PySem.F.entry_zip_new
    (meets_zip3_new b1 b2 b3 l1 l2 l3 xs ys zs) ⟨hl1, hl2, hl3, ?_⟩
  have z1 : (g1 s.heap b1 l1).objs.size = s.heap.objs.size + 1 := Heap.size_push ..
  have z2 : (g2 s.heap b1 b2 l1 l2).objs.size = s.heap.objs.size + 2 := by rw [Heap.size_push, z1]
  have z3 : (g3 s.heap b1 b2 b3 l1 l2 l3).objs.size = s.heap.objs.size + 3 := by rw [Heap.size_push, z2]
  have z4 : (g4 s.heap b1 b2 b3 l1 l2 l3).objs.size = s.heap.objs.size + 4 := by rw [Heap.size_push, z3]
  have z5 : (g5 s.heap b1 b2 b3 l1 l2 l3).objs.size = s.heap.objs.size + 5 := by rw [Heap.size_push, z4]
  have z6 : (g6 s.heap b1 b2 b3 l1 l2 l3).objs.size = s.heap.objs.size + 6 := by rw [Heap.size_push, z5]
  have p {h : Heap} {a : Addr} {o : Obj} (q : Obj) : h.get? a = some o → (h.push q).get? a = some o := Heap.get?_push_of_some _
  have e6 : (g6 s.heap b1 b2 b3 l1 l2 l3).get? (g5 s.heap b1 b2 b3 l1 l2 l3).objs.size = some _ := Heap.get?_push_size _ rfl
  have e5 : (g6 s.heap b1 b2 b3 l1 l2 l3).get? (g4 s.heap b1 b2 b3 l1 l2 l3).objs.size = some _ := p _ (Heap.get?_push_size _ rfl)
  have e4 : (g6 s.heap b1 b2 b3 l1 l2 l3).get? (g3 s.heap b1 b2 b3 l1 l2 l3).objs.size = some _ := p _ (p _ (Heap.get?_push_size _ rfl))
  have nf : ∀ b l, (itO b l).isFreed = false := fun b l => by cases b <;> rfl
  have e3 : (g6 s.heap b1 b2 b3 l1 l2 l3).get? (g2 s.heap b1 b2 l1 l2).objs.size = some (itO b3 l3) := p _ (p _ (p _ (Heap.get?_push_size _ (nf _ _))))
  have e2 : (g6 s.heap b1 b2 b3 l1 l2 l3).get? (g1 s.heap b1 l1).objs.size = some (itO b2 l2) := p _ (p _ (p _ (p _ (Heap.get?_push_size _ (nf _ _)))))
  have e1 : (g6 s.heap b1 b2 b3 l1 l2 l3).get? s.heap.objs.size = some (itO b1 l1) := p _ (p _ (p _ (p _ (p _ (Heap.get?_push_size _ (nf _ _))))))
  show _ ∧ _
  rw [z3, z4, z5] at e6
  rw [z1, z2, z3] at e4
  rw [z4] at e5
  rw [z2] at e3
  rw [z1] at e2
  rw [z5]
  exact ⟨⟨_, e6, rfl⟩, h _ e6 e4 e5 (it_new e1) (it_new e2) (it_new e3) z6 fun c o x => p _ (p _ (p _ (p _ (p _ (p _ x)))))⟩
end
theorem ap_new (I l1 l2 l3 : Nat) (h1 : l1 < I) (h2 : l2 < I) (h3 : l3 < I) : Ap (I + 5) (I + 3) (I + 4) I (I + 1) (I + 2) l1 l2 l3 := by
  have ne : ∀ {a b : Nat}, (a < b ∨ b < a) → a ≠ b := fun h e => by omega
  exact ⟨⟨ne (by omega), ne (by omega), ne (by omega), ne (by omega), ne (by omega)⟩, ⟨ne (by omega), ne (by omega), ne (by omega), ne (by omega)⟩, ⟨ne (by omega), ne (by omega), ne (by omega)⟩, ⟨ne (by omega), ne (by omega), ne (by omega)⟩,
    ⟨ne (by omega), ne (by omega), ne (by omega), ne (by omega), ne (by omega)⟩, ⟨ne (by omega), ne (by omega), ne (by omega), ne (by omega), ne (by omega)⟩, ⟨ne (by omega), ne (by omega), ne (by omega), ne (by omega), ne (by omega)⟩⟩

/-! ### over the hand layer's heap -/
def SqB : Bool → Frag → Hp → Addr → List V → Prop
  | true, K, H, a, xs => SqL K H a xs
  | false, K, H, a, xs => SqT K H a xs
theorem seqT_same {K : Frag} {H H' : Hp} {a : Addr} {xs : List V} (S : Same H H') (h : SqT K H a xs) : SqT K H' a xs := by
  rcases h with (h | ⟨o, h⟩) | h
  · exact .inl (.inl (S _ _ h))
  · exact .inl (.inr ⟨o, S _ _ h⟩)
  · exact .inr h
theorem SqB.same {b : Bool} {K : Frag} {H H' : Hp} {a : Addr} {xs : List V} (S : Same H H') (h : SqB b K H a xs) : SqB b K H' a xs := by
  cases b
  · exact seqT_same S h
  · exact Same.seq S h
section
variable {X : Cx} {pins : List (Addr × Obj)} {σ : St} {H : Hp} {s : Shared}
theorem inv_seq {b : Bool} {a : Addr} {xs : List V} (I : Inv X pins σ H s) (h : SqB b X.K H a xs) : ∃ its : List Value, Vals xs its ∧ Sq b s.heap a its.toArray := by
  cases b
  · obtain ⟨its, rv, p, _⟩ := I.tuple h
    exact ⟨its, rv, p⟩
  · obtain ⟨its, rv, p, _⟩ := I.list h
    exact ⟨its, rv, p.isList⟩
theorem inv_inj {b : Bool} {a : Addr} {xs ys : List V} (I : Inv X pins σ H s) (h : SqB b X.K H a xs) (h2 : SqB b X.K H a ys) : xs = ys := by
  cases b
  · exact I.tuple_inj h h2
  · exact I.list_inj h h2
end
def Itz3 (K : Frag) (b1 b2 b3 : Bool) (a1 a2 a3 : Addr) : L2.It :=
  ⟨fun i H => ∃ (xs ys zs : List V) (x y u : V), SqB b1 K H a1 xs ∧ SqB b2 K H a2 ys ∧ SqB b3 K H a3 zs ∧ xs[i]? = some x ∧ ys[i]? = some y ∧ zs[i]? = some u,
    fun i H v H' => ∃ T x y u, v = .ref T ∧ H T = none ∧ H' = upd H T (.tup [x, y, u]) ∧ (∀ xs, SqB b1 K H a1 xs → xs[i]? = some x) ∧ (∀ ys, SqB b2 K H a2 ys → ys[i]? = some y) ∧ ∀ zs, SqB b3 K H a3 zs → zs[i]? = some u,
    fun i H => ∃ xs ys zs : List V, SqB b1 K H a1 xs ∧ SqB b2 K H a2 ys ∧ SqB b3 K H a3 zs ∧ (xs.length ≤ i ∨ ys.length ≤ i ∨ zs.length ≤ i)⟩
theorem turn_zip3 {P : Program} {w : World} {K : Frag} {elts : List Expr} {kk : Nat} {tpos : Pos} {b1 b2 b3 : Bool} {a1 a2 a3 z TI TO i1 i2 i3 : Addr} (D : Ap z TI TO i1 i2 i3 a1 a2 a3) :
    Turn P w K (.Tuple elts kk tpos) (Itz3 K b1 b2 b3 a1 a2 a3) [z, TI, TO, i1, i2, i3] z (fun i h => IsZip h z TI TO .none ∧ IsTrip h TI (.ref i1) (.ref i2) (.ref i3) ∧ (∃ x y u, IsTrip h TO x y u) ∧ It b1 h i1 a1 i ∧ It b2 h i2 a2 i ∧ It b3 h i3 a3 i) where
  mem := by simp
  obj := fun i h st c hc => by
    obtain ⟨hz, hTI, ⟨x, y, u, hTO⟩, h1, h2, h3⟩ := st
    have e' : c = z ∨ c = TI ∨ c = TO ∨ c = i1 ∨ c = i2 ∨ c = i3 := by simpa using hc
    rcases e' with q | q | q | q | q | q
    · rw [q]; exact ⟨_, hz, fun v q => nomatch q⟩
    · rw [q]; exact ⟨_, hTI, fun v q => nomatch q⟩
    · rw [q]; exact ⟨_, hTO, fun v q => nomatch q⟩
    · rw [q]; exact h1.obj
    · rw [q]; exact h2.obj
    · rw [q]; exact h3.obj
  keep := fun i h h' st k => by
    obtain ⟨hz, hTI, ⟨x, y, u, hTO⟩, h1, h2, h3⟩ := st
    exact ⟨k z (by simp) _ hz, k TI (by simp) _ hTI, ⟨x, y, u, k TO (by simp) _ hTO⟩, h1.at fun o q => k i1 (by simp) o q, h2.at fun o q => k i2 (by simp) o q, h3.at fun o q => k i3 (by simp) o q⟩
  item := by
    intro X hP hw hK hc i pins s σ H E I hf st hg
    subst hP hw hK
    obtain ⟨hz, hTI, ⟨x0, y0, u0, hTO⟩, h1, h2, h3⟩ := st
    obtain ⟨xs, ys, zs, x, y, u, hqx, hqy, hqz, hx, hy, hu⟩ := hg
    obtain ⟨its, rv, p⟩ := inv_seq I hqx
    obtain ⟨its2, rv2, p2⟩ := inv_seq I hqy
    obtain ⟨its3, rv3, p3⟩ := inv_seq I hqz
    obtain ⟨v1, hv1, r1⟩ := rv.get hx
    obtain ⟨v2, hv2, r2⟩ := rv2.get hy
    obtain ⟨v3, hv3, r3⟩ := rv3.get hu
    have hzl : z < s.heap.objs.size := Heap.lt_size hz
    refine pyNext_item D hz hTI hTO h1 h2 h3 p p2 p3 (x := v1) (y := v2) (u := v3) (by simpa using hv1) (by simpa using hv2) (by simpa using hv3) fun h' z' TO' h1' h2' h3' hT hsz hk => ?_
    refine ⟨_, rfl, wpAny_letOwnedTupleGo_zip (s := { s with heap := h' }) z' fun h'' z'' sb => ?_⟩
    have hT2 : h''.get? s.heap.objs.size = some { cls := .type "tuple", data := .seq #[v1, v2, v3] } := (sb.2 _ (Nat.ne_of_gt hzl)).trans hT
    have new : ObjOk X.prog X.w (upd H s.heap.objs.size (.tup [x, y, u])) h'' s.heap.objs.size (.tup [x, y, u]) :=
      ⟨by show 3 ≤ sizeLine; decide, [v1, v2, v3], .cons r1 (.cons r2 (.cons r3 .nil)), ⟨_, hT2, rfl, _, rfl⟩⟩
    have I1 : Inv X pins σ (upd H s.heap.objs.size (.tup [x, y, u])) { s with heap := h'' } :=
      I.turnedNew (t' := s.toks) (ch := [z, TI, TO, i1, i2, i3]) (fun c o hb q => (sb.2 c (fun q' => hb (by simp [q']))).trans (hk c o (fun q' => hb (by simp [q'])) (fun q' => hb (by simp [q'])) (fun q' => hb (by simp [q'])) (fun q' => hb (by simp [q'])) (fun q' => hb (by simp [q'])) q)) hf (Nat.le_refl _) new
    obtain ⟨⟨ti1, ti2, ti3, ti4, ti5⟩, ⟨to1, to2, to3, to4⟩, ⟨iz1, iz2, iz3⟩, _⟩ := D
    refine ⟨.ref s.heap.objs.size, _, I1, rfl, ⟨_, x, y, u, rfl, I.hok.fresh (Nat.le_refl _), rfl, fun l hl => by rw [inv_inj I hl hqx]; exact hx, fun l hl => by rw [inv_inj I hl hqy]; exact hy, fun l hl => by rw [inv_inj I hl hqz]; exact hu⟩, ⟨z'', ?_, ⟨v1, v2, v3, ?_⟩, ?_, ?_, ?_⟩, fun c hcm => ?_⟩
    · exact (sb.2 _ ti1).trans (hk _ _ ti1 ti2 ti3 ti4 ti5 hTI)
    · exact (sb.2 _ to1).trans TO'
    · exact h1'.at fun o q => (sb.2 _ iz1).trans q
    · exact h2'.at fun o q => (sb.2 _ iz2).trans q
    · exact h3'.at fun o q => (sb.2 _ iz3).trans q
    · have hlt : c < s.heap.objs.size := by
        have e' : c = z ∨ c = TI ∨ c = TO ∨ c = i1 ∨ c = i2 ∨ c = i3 := by simpa using hcm
        rcases e' with q | q | q | q | q | q
        · rw [q]; exact hzl
        · rw [q]; exact Heap.lt_size hTI
        · rw [q]; exact Heap.lt_size hTO
        · rw [q]; exact h1.lt
        · rw [q]; exact h2.lt
        · rw [q]; exact h3.lt
      rw [upd_ne (Nat.ne_of_lt hlt)]
      exact (hf c hcm).1
  done := by
    intro X hP hw hK hc i pins s σ H E I hf st hg
    subst hP hw hK
    obtain ⟨hz, hTI, ⟨x0, y0, u0, hTO⟩, h1, h2, h3⟩ := st
    obtain ⟨xs, ys, zs, hqx, hqy, hqz, hend⟩ := hg
    obtain ⟨its, rv, p⟩ := inv_seq I hqx
    obtain ⟨its2, rv2, p2⟩ := inv_seq I hqy
    obtain ⟨its3, rv3, p3⟩ := inv_seq I hqz
    have l1 := rv.length
    have l2 := rv2.length
    have l3 := rv3.length
    have he : its.toArray[i]? = none ∨ its2.toArray[i]? = none ∨ its3.toArray[i]? = none := by
      rcases hend with q | q | q
      · exact .inl (by simp; omega)
      · exact .inr (.inl (by simp; omega))
      · exact .inr (.inr (by simp; omega))
    exact pyNext_end (I.ok.hd hc) D hz hTI hTO h1 h2 h3 p p2 p3 he fun h' hk => ⟨rfl, I.turnedL (t' := s.toks) (ch := [z, TI, TO, i1, i2, i3]) (fun c o hb q =>
      hk c o (fun q' => hb (by simp [q'])) (fun q' => hb (by simp [q'])) (fun q' => hb (by simp [q'])) (fun q' => hb (by simp [q'])) (fun q' => hb (by simp [q'])) q) hf⟩
  self := fun A i s Q E st h => wpAny_pyIter_zip st.1 h
def iZip3 (K : Frag) (ta : TA) : TI := fun σ H R => ta σ H fun vs H1 => ∃ a1 a2 a3 b1 b2 b3 xs ys zs, vs = [.ref a1, .ref a2, .ref a3] ∧ SqB b1 K H1 a1 xs ∧ SqB b2 K H1 a2 ys ∧ SqB b3 K H1 a3 zs ∧ R (Itz3 K b1 b2 b3 a1 a2 a3) H1
theorem pi_zip3 {X : Cx} {e e2 e3 : Expr} {ta : TA} {p pos tpos : Pos} {elts : List Expr} {kk : Nat} (hg : Gl X "zip") (hm : X.mg "zip" = none) (ha : PA X [e, e2, e3] ta)
    (hs : starEach [e, e2, e3] X.env = (false, eval e X.env) :: starEach [e2, e3] X.env := by rfl) (hpl : (backTo pos (starEach [e2, e3] X.env)).any (·.1) = false := by rfl) :
    PI X (.Tuple elts kk tpos) (.Call (.Name "zip" p) [e, e2, e3] [] pos) (iZip3 X.K ta) := by
  refine ⟨fun pins s σ H R I h => ?_⟩
  refine Call_ (ld_blt I hg hm PyProof.Rows.boot_zip (PyProof.Rows.callWith_type1 (thn (ha.run pos pins s σ H _ I h) fun us s1 ⟨vs, H1, I1, r1, q1⟩ => ?_) hs hpl))
  obtain ⟨a1, a2, a3, b1, b2, b3, xs, ys, zs, ex, hqx, hqy, hqz, q⟩ := q1
  subst ex
  cases r1 with
  | cons r rr =>
    cases rr with
    | cons r' rr =>
      cases rr with
      | cons r'' rr =>
        cases rr
        cases r
        cases r'
        cases r''
        have fresh6 : ∀ c, c ∈ [s1.heap.objs.size + 5, s1.heap.objs.size + 3, s1.heap.objs.size + 4, s1.heap.objs.size, s1.heap.objs.size + 1, s1.heap.objs.size + 2] → FpOk X pins H1 c := fun c hcm => by
          have e' : c = s1.heap.objs.size + 5 ∨ c = s1.heap.objs.size + 3 ∨ c = s1.heap.objs.size + 4 ∨ c = s1.heap.objs.size ∨ c = s1.heap.objs.size + 1 ∨ c = s1.heap.objs.size + 2 := by simpa using hcm
          have hle : s1.heap.objs.size ≤ c := by
            rcases e' with z | z | z | z | z | z
            · rw [z]; exact Nat.le_add_right _ _
            · rw [z]; exact Nat.le_add_right _ _
            · rw [z]; exact Nat.le_add_right _ _
            · rw [z]; exact Nat.le_refl _
            · rw [z]; exact Nat.le_add_right _ _
            · rw [z]; exact Nat.le_add_right _ _
          exact I1.fpOk hle (I1.hok.fresh hle)
        obtain ⟨its, rv, p1⟩ := inv_seq I1 hqx
        obtain ⟨its2, rv2, p2⟩ := inv_seq I1 hqy
        obtain ⟨its3, rv3, p3⟩ := inv_seq I1 hqz
        refine call_zip3 p1 p2 p3 fun h' hz hTI hTO h1 h2 h3 hsz hk => wpAny_pyIter_zip hz ?_
        have I2 : Inv X pins σ H1 { s1 with heap := h' } := I1.kept (t' := s1.toks) hk
        exact ⟨s1.heap.objs.size + 5, [s1.heap.objs.size + 5, s1.heap.objs.size + 3, s1.heap.objs.size + 4, s1.heap.objs.size, s1.heap.objs.size + 1, s1.heap.objs.size + 2], _, _, H1, rfl, I2,
          turn_zip3 (ap_new s1.heap.objs.size a1 a2 a3 p1.lt p2.lt p3.lt), ⟨hz, hTI, ⟨_, _, _, hTO⟩, h1, h2, h3⟩, fresh6, q⟩
/-- a comprehension over it -/
theorem lc_zip3 {K : Frag} {b1 b2 b3 : Bool} {a1 a2 a3 : Addr} {xs ys zs : List V} {g : TG} {tt : TT} {te : TE} {vs : List Nat} {σ : St} {H1 : Hp} {D : Addr} {Qd : Hp → Prop} (hl : xs.length = ys.length) (hl2 : xs.length = zs.length) (Pv : Nat → Hp → Prop)
    (h0 : Pv 0 (upd H1 D (.lst []))) (hq : ∀ i H, Pv i H → SqB b1 K H a1 xs ∧ SqB b2 K H a2 ys ∧ SqB b3 K H a3 zs)
    (hs : ∀ (i : Nat) (x y u : V) (T : Addr) (H : Hp), xs[i]? = some x → ys[i]? = some y → zs[i]? = some u → Pv i H → H T = none → g (.ref T) (wipe σ vs) (upd H T (.tup [x, y, u])) fun σ2 H2 => wipe σ2 vs = wipe σ vs ∧ tt σ2 H2 fun b H3 =>
      if b = true then te σ2 H3 fun y H4 => ∃ acc, H4 D = some (.lst acc) ∧ acc.length < sizeLine ∧ Pv (i + 1) (upd H4 D (.lst (acc ++ [y]))) else Pv (i + 1) H3) (hd : ∀ H, Pv xs.length H → Qd H) :
    ∃ W : Nat → Nat → Hp → Prop, (∃ m, W 0 m (upd H1 D (.lst []))) ∧ ∀ i m H, W i m H →
      ((Itz3 K b1 b2 b3 a1 a2 a3).stop i H ∧ Qd H) ∨ ((Itz3 K b1 b2 b3 a1 a2 a3).go i H ∧ ∃ Nx : Hp → Prop, (∀ H', Nx H' → ∃ m', m' < m ∧ W (i + 1) m' H') ∧ ∀ y H', (Itz3 K b1 b2 b3 a1 a2 a3).yld i H y H' → g y (wipe σ vs) H' fun σ2 H2 => wipe σ2 vs = wipe σ vs ∧ tt σ2 H2 fun b H3 =>
        if b = true then te σ2 H3 fun y H4 => ∃ acc, H4 D = some (.lst acc) ∧ acc.length < sizeLine ∧ Nx (upd H4 D (.lst (acc ++ [y]))) else Nx H3) := by
  refine ⟨fun i m H => m = xs.length - i ∧ i ≤ xs.length ∧ Pv i H, ⟨xs.length, by simp, Nat.zero_le _, h0⟩, ?_⟩
  rintro i m H ⟨rfl, hi, p⟩
  obtain ⟨s1, s2, s3⟩ := hq i H p
  by_cases hlt : i < xs.length
  · have g1 := List.getElem?_eq_getElem hlt
    have g2 := List.getElem?_eq_getElem (show i < ys.length by omega)
    have g3 := List.getElem?_eq_getElem (show i < zs.length by omega)
    refine .inr ⟨⟨xs, ys, zs, _, _, _, s1, s2, s3, g1, g2, g3⟩, Pv (i + 1), fun H' p' => ⟨xs.length - (i + 1), by omega, rfl, hlt, p'⟩, fun y H' z => ?_⟩
    obtain ⟨T, x, y, u, ev, hT, eH, k1, k2, k3⟩ := z
    subst ev eH
    exact hs i x y u T H (k1 _ s1) (k2 _ s2) (k3 _ s3) p hT
  · have e : i = xs.length := by omega
    subst e
    exact .inl ⟨⟨xs, ys, zs, s1, s2, s3, .inl (Nat.le_refl _)⟩, hd H p⟩
end L2.Jk.Z3

set_option Elab.async false
set_option linter.all false
set_option maxRecDepth 100000
set_option maxHeartbeats 4000000
/-! Layouts: made, their rows checked, the texts of rows. -/
namespace L2.K80
open PySem PySem.W PySem.Spec PySem.Calls PyProof.Rows L2.Jk
abbrev LA (K : Frag) : Addr := He.ga K "Layout"
structure P5 (P : Program) (w : World) (K : Frag) (mg : Str → Option Value) (base : Heap) : Prop extends P4 P w K mg base where
  hvMarked : HM P w K mg base 4 (ca K 5) "has_value" ["self", "thing"] (spMHV K)
def FD.ci : FD → Nat
  | .pl d => d.ci
  | .mk .. => 5
theorem FD.ci_lt : ∀ d : FD, d.ci < 6
  | .pl d => Nat.lt_of_lt_of_le d.ci_lt (by decide)
  | .mk .. => by show 5 < 6; decide
def FD.tfOk (v : V) : FD → Bool
  | .pl _ => true
  | .mk _ _ d => decide ((d.textF v).length ≤ 900)
section
variable {P : Program} {w : World} {K : Frag} {mg : Str → Option Value} {base : Heap} {f : Addr} {fd : FuncData}
theorem FdAt.ins {H : Hp} {y : Addr} {g : Str} (hg : g = "has_value" ∨ g = "text_for" ∨ g = "has_text" ∨ g = "value_for" ∨ g = "puts_before") : ∀ {d : FD}, FdAt K H y d → ∃ dx fs, H y = some (.ins (ca K d.ci) dx fs) ∧ fs.lookup g = none
  | .pl d, ⟨h, _⟩ => by
    obtain ⟨dx, fs, hi, _⟩ := h.ins
    exact ⟨dx, fs, hi, h.no hg _ _ _ hi⟩
  | .mk n m d, ⟨⟨dx, y2, h, _⟩, _⟩ => by
    refine ⟨dx, _, h, ?_⟩
    unfold fMarked
    rcases hg with rfl | rfl | rfl | rfl | rfl <;> (rw [lookup_putF, if_neg (by decide +kernel)]; rw [lookup_putF, if_neg (by decide +kernel)]; rw [lookup_putF, if_neg (by decide +kernel)]; rfl)
theorem HM.mono {j k : Nat} {C : Addr} {m : Str} {ps : List Str} {sp : Sp} (h : HM P w K mg base j C m ps sp) (hjk : j ≤ k) : HM P w K mg base k C m ps sp := by
  obtain ⟨fd, F, b⟩ := h.ok
  exact ⟨h.me, fd, F.mono hjk, b⟩
theorem P5.hv5 (G : P5 P w K mg base) {H : Hp} {y : Addr} : ∀ {d : FD}, FdAt K H y d → ∃ sp, HM P w K mg base 4 (ca K d.ci) "has_value" ["self", "thing"] sp ∧
    ∀ (v : V) (Q : VK) (E : XK), Thg H v → lenV v ≤ 900 → Q (.bl (d.hasV v)) H → sp [.ref y, v] H Q E
  | .pl d, ⟨h, i, u⟩ => by
    obtain ⟨sp, M, Hs⟩ := G.hv_ h i u
    exact ⟨sp, M.mono (by decide), fun v Q E hf hz q => Hs v Q E hf hz q⟩
  | .mk n m d, h => ⟨_, G.hvMarked, fun v Q E hf hz q => ⟨y, n, m, d, v, rfl, h, hf, hz, q⟩⟩
/-! ### sequences -/
inductive SeqIs (K : Frag) (H : Hp) : V → Option (List V) → Prop
  | flat {v : V} (h : flatV v = true) : SeqIs K H v none
  | dict {p : Addr} {kvs : List (Key × V)} (h : H p = some (.dK kvs)) : SeqIs K H (.ref p) none
  | lst {p : Addr} {xs : List V} (h : H p = some (.lst xs)) : SeqIs K H (.ref p) (some xs)
  | tup {p : Addr} {xs : List V} (h : H p = some (.tup xs)) : SeqIs K H (.ref p) (some xs)
theorem SeqIs.same {K : Frag} {H H' : Hp} {v : V} {o : Option (List V)} (S : Same H H') : SeqIs K H v o → SeqIs K H' v o
  | .flat h => .flat h
  | .dict h => .dict (S _ _ h)
  | .lst h => .lst (S _ _ h)
  | .tup h => .tup (S _ _ h)
theorem SeqIs.sqb {K : Frag} {H : Hp} {v : V} {xs : List V} (h : SeqIs K H v (some xs)) : ∃ p b, v = .ref p ∧ Z3.SqB b K H p xs ∧ (SqL K H p xs ∨ SqT K H p xs) := by
  cases h with
  | lst h => exact ⟨_, true, rfl, SqL.of h, .inl (SqL.of h)⟩
  | tup h => exact ⟨_, false, rfl, SqT.of h, .inr (SqT.of h)⟩
def spSeq (K : Frag) : Sp := fun vs H Q _ => ∃ (v : V) (o : Option (List V)), vs = [v] ∧ SeqIs K H v o ∧ ∀ H', Same H H' → Q (.bl o.isSome) H'

abbrev s_is_sequence : Stmt := top 33
theorem sc_is_sequence : FnScope ["thing"] ["thing"] (defScope s_is_sequence) := ⟨rfl, rfl, rfl, by decide +kernel, rfl, by decide +kernel, by decide +kernel⟩

theorem ok_is_sequence (F : FunD K "is_sequence" "is_sequence" (defArgs s_is_sequence) (defBody s_is_sequence) (defScope s_is_sequence) [] [] f fd) (G : P5 P w K mg base) : FnOk P w K mg base CX0 1 f fd ["thing"] (spSeq K) := by
  refine F.ok (CX := CX0) sc_is_sequence (fun vs H Q E h => ?_) (fun cdv A outer s H vs Q E hr h => ?_)
  · obtain ⟨v, o, rfl, _⟩ := h
    rfl
  · refine ⟨_, PSs.nox (pss_one (ps_ret (pe_callB call_ieT (by rfl) G.isinstance (by decide +kernel) (pa_cons (pv 0) (pa_cons (pe_tupS (pa_cons (pe_bty (n := "list") (by rfl) G.list (by decide +kernel)) (pa_cons (pe_bty (n := "tuple") (by rfl) G.tuple (by decide +kernel)) pa_nil))) pa_nil))))), ?_⟩
    obtain ⟨v, o, rfl, h, q⟩ := h
    refine ⟨_, rfl, by show 2 ≤ 1000; decide, fun p0 H0 hp0 S0 e0 => ?_⟩
    have h := h.same S0
    have hn : ∀ S : String, kitB S "list" = some false → kitB S "tuple" = some false → kitAny K (.type S) [.type "list", .type "tuple"] = some false := fun S a b =>
      kitAny_cons (b := false) (kit_ty a) (fun _ => kitAny_cons (b := false) (kit_ty b) (fun _ => kitAny_nil) (fun z => nomatch z)) (fun z => nomatch z)
    cases h with
    | flat hf =>
      refine ⟨_, p0, _, _, _, false, rfl, e0, .cons (.ty _) (.cons (.ty _) Paired.nil), flat_ty hf, ?_, q _ S0⟩
      cases v with
      | non => exact hn "NoneType" (by decide +kernel) (by decide +kernel)
      | bl b => exact hn "bool" (by decide +kernel) (by decide +kernel)
      | int i => exact hn "int" (by decide +kernel) (by decide +kernel)
      | str z => exact hn "str" (by decide +kernel) (by decide +kernel)
      | _ => cases hf
    | dict hd => exact ⟨_, p0, _, _, _, false, rfl, e0, .cons (.ty _) (.cons (.ty _) Paired.nil), .x (.base (.dK hd)), hn "dict" (by decide +kernel) (by decide +kernel), q _ S0⟩
    | lst hl => exact ⟨_, p0, _, _, _, true, rfl, e0, .cons (.ty _) (.cons (.ty _) Paired.nil), .x (.base (.lst hl)), (kit_LT K).1, q _ S0⟩
    | tup hl => exact ⟨_, p0, _, _, _, true, rfl, e0, .cons (.ty _) (.cons (.ty _) Paired.nil), .x (.base (.tup hl)), (kit_LT K).2.1, q _ S0⟩

end
end L2.K80

set_option Elab.async false
set_option linter.all false
set_option maxRecDepth 100000
set_option maxHeartbeats 4000000
/-! Layouts: made, their rows checked, the texts of rows. -/
namespace L2.K80
open PySem PySem.W PySem.Spec PySem.Calls PyProof.Rows L2.Jk
def fLayout (x y : V) : List (Str × V) := putF "joints" y (putF "fields" x [])
theorem lLayout_fields {x y : V} : (fLayout x y).lookup ("fields" : Str) = some x := by unfold fLayout; rw [lookup_putF, if_neg (by decide +kernel)]; rw [lookup_putF, if_pos rfl]
theorem lLayout_joints {x y : V} : (fLayout x y).lookup ("joints" : Str) = some y := by unfold fLayout; rw [lookup_putF, if_pos rfl]
/-- the fields that stand at values -/
def FsAt (K : Frag) (H : Hp) (ys : List V) (ds : List FD) : Prop := ys.length = ds.length ∧ ∀ (i : Nat) (v : V) (d : FD), ys[i]? = some v → ds[i]? = some d → ∃ y, v = .ref y ∧ FdAt K H y d
theorem FsAt.same {K : Frag} {H H' : Hp} {ys : List V} {ds : List FD} (S : Same H H') (h : FsAt K H ys ds) : FsAt K H' ys ds := ⟨h.1, fun i v d a b => by
  obtain ⟨y, e, k⟩ := h.2 i v d a b
  exact ⟨y, e, k.same S⟩⟩
theorem FsAt.get {K : Frag} {H : Hp} {ys : List V} {ds : List FD} (h : FsAt K H ys ds) {i : Nat} {v : V} (e : ys[i]? = some v) : ∃ y d, v = .ref y ∧ ds[i]? = some d ∧ FdAt K H y d := by
  have hi := (List.getElem?_eq_some_iff.mp e).1
  have e2 := List.getElem?_eq_getElem (show i < ds.length by rw [← h.1]; exact hi)
  obtain ⟨y, ev, k⟩ := h.2 i v _ e e2
  exact ⟨y, _, ev, e2, k⟩
def JN : List Str := ["", "!", "~"]
structure LyOk (ds : List FD) (js : List Str) : Prop where
  few : ds.length ≤ 30
  some : ds ≠ []
  len : js.length + 1 = ds.length
  jn : ∀ j ∈ js, j ∈ JN
structure LayAt (K : Frag) (H : Hp) (L : Addr) (ds : List FD) (js : List Str) : Prop where
  ex : ∃ dx t1 t2 ys, H L = some (.ins (LA K) dx (fLayout (.ref t1) (.ref t2))) ∧ SqT K H t1 ys ∧ FsAt K H ys ds ∧ SqT K H t2 (js.map V.str)
  ok : LyOk ds js
theorem LayAt.same {K : Frag} {H H' : Hp} {L : Addr} {ds : List FD} {js : List Str} (S : Same H H') (h : LayAt K H L ds js) : LayAt K H' L ds js := by
  obtain ⟨⟨dx, t1, t2, ys, a, b, c, d⟩, o⟩ := h
  exact ⟨⟨dx, t1, t2, ys, S _ _ a, Z3.seqT_same S b, c.same S, Z3.seqT_same S d⟩, o⟩
def JK : List Str := JN
theorem call_ieTK {X : Cx} {K : Frag} (h : X.K = K) : CallR X (.builtin "isinstance") (rIeT K) := by
  subst h
  exact call_ieT
structure P6 (P : Program) (w : World) (K : Frag) (mg : Str → Option Value) (base : Heap) : Prop extends P5 P w K mg base where
  is_sequence : FnAt P w K mg base CX0 1 "is_sequence" ["thing"] (spSeq K)
  low : ∃ t, mg "LOW" = some (.str "!" t)
  high : ∃ t, mg "HIGH" = some (.str "~" t)
  cLayout : C0 K mg "Layout" ["fields", "joints"]
  nr : ErrAt P w K mg base "NoRow" (NR K) ["place"] "refused norow"
  max : mg "max" = none
  zip : mg "zip" = none
section
variable {P : Program} {w : World} {K : Frag} {mg : Str → Option Value} {base : Heap} {f : Addr} {fd : FuncData}
theorem kit6 (G : G4 P w K mg base) : ∀ i, i < 6 → kitAny K (.ref (ca K i)) [.ref (ca K 0), .ref (ca K 1), .ref (ca K 2), .ref (ca K 3), .ref (ca K 4), .ref (ca K 5)] = some true
  | 0, h => by
    have k := fun j (hj : j < 6) => G.kit 0 j h hj
    exact kitAny_cons (b := true) (k 0 (by decide)) (fun z => nomatch z) (fun _ => rfl)
  | 1, h => by
    have k := fun j (hj : j < 6) => G.kit 1 j h hj
    exact kitAny_cons (b := false) (k 0 (by decide)) (fun _ => kitAny_cons (b := true) (k 1 (by decide)) (fun z => nomatch z) (fun _ => rfl)) (fun z => nomatch z)
  | 2, h => by
    have k := fun j (hj : j < 6) => G.kit 2 j h hj
    exact kitAny_cons (b := false) (k 0 (by decide)) (fun _ => kitAny_cons (b := false) (k 1 (by decide)) (fun _ => kitAny_cons (b := true) (k 2 (by decide)) (fun z => nomatch z) (fun _ => rfl)) (fun z => nomatch z)) (fun z => nomatch z)
  | 3, h => by
    have k := fun j (hj : j < 6) => G.kit 3 j h hj
    exact kitAny_cons (b := false) (k 0 (by decide)) (fun _ => kitAny_cons (b := false) (k 1 (by decide)) (fun _ => kitAny_cons (b := false) (k 2 (by decide)) (fun _ => kitAny_cons (b := true) (k 3 (by decide)) (fun z => nomatch z) (fun _ => rfl)) (fun z => nomatch z)) (fun z => nomatch z)) (fun z => nomatch z)
  | 4, h => by
    have k := fun j (hj : j < 6) => G.kit 4 j h hj
    exact kitAny_cons (b := false) (k 0 (by decide)) (fun _ => kitAny_cons (b := false) (k 1 (by decide)) (fun _ => kitAny_cons (b := false) (k 2 (by decide)) (fun _ => kitAny_cons (b := false) (k 3 (by decide)) (fun _ => kitAny_cons (b := true) (k 4 (by decide)) (fun z => nomatch z) (fun _ => rfl)) (fun z => nomatch z)) (fun z => nomatch z)) (fun z => nomatch z)) (fun z => nomatch z)
  | 5, h => by
    have k := fun j (hj : j < 6) => G.kit 5 j h hj
    exact kitAny_cons (b := false) (k 0 (by decide)) (fun _ => kitAny_cons (b := false) (k 1 (by decide)) (fun _ => kitAny_cons (b := false) (k 2 (by decide)) (fun _ => kitAny_cons (b := false) (k 3 (by decide)) (fun _ => kitAny_cons (b := false) (k 4 (by decide)) (fun _ => kitAny_cons (b := true) (k 5 (by decide)) (fun z => nomatch z) (fun _ => rfl)) (fun z => nomatch z)) (fun z => nomatch z)) (fun z => nomatch z)) (fun z => nomatch z)) (fun z => nomatch z)
  | n + 6, h => absurd h (by omega)

def spCkF (K : Frag) : Sp := fun vs H Q _ => ∃ (p : Addr) (ys : List V) (ds : List FD), vs = [.ref p] ∧ H p = some (.lst ys) ∧ FsAt K H ys ds ∧ ys.length ≤ 1000 ∧ ys ≠ [] ∧ ∀ H', Same H H' → Q .non H'

abbrev s_check_fields : Stmt := top 34
theorem sc_check_fields : FnScope ["fields", "field"] ["fields"] (defScope s_check_fields) := ⟨rfl, rfl, rfl, by decide +kernel, rfl, by decide +kernel, by decide +kernel⟩

theorem ok_check_fields (F : FunD K "check_fields" "check_fields" (defArgs s_check_fields) (defBody s_check_fields) (defScope s_check_fields) [] [] f fd) (G : P6 P w K mg base) : FnOk P w K mg base CX0 2 f fd ["fields"] (spCkF K) := by
  refine F.ok (CX := CX0) sc_check_fields (fun vs H Q E h => ?_) (fun cdv A outer s H vs Q E hr h => ?_)
  · obtain ⟨p, ys, ds, rfl, _⟩ := h
    rfl
  · refine ⟨_, PSs.nox (pss_cons (ps_if (PW.pt (pw_or (pt_not (pt_val (pe_fn G.is_sequence (hr.mono (by decide)) pass0 (by rfl) (pa_cons (pv 0) pa_nil)))) (pw_or1 (pt_cmpR op_eq (pe_callB call_len_seq (by rfl) G.len (by decide +kernel) (pa_cons (pv 0) pa_nil)) pe_int (nomark _)))))
      (pss_one ps_never)
      pss_nil)
    (pss_one (ps_if (pt_not (pt_val (pe_callB (cr_all rfl) (by rfl) G.all (by decide +kernel) (pa_cons (pe_lc (own := [("field", 1)]) (g := gName 1) (tt := tYes) rfl sc_check_fields.nd (pi_list (pv 0)) (blkOk_by (N := ["fields", "field"]) (sc := defScope s_check_fields) (by decide +kernel)) (fun _ _ _ _ _ => pg_name (i := 1) sc_check_fields.nd rfl (Or.inl rfl)) (fun _ _ _ _ _ => pts_nil) (fun _ _ _ _ _ => (pe_callB (call_ieTK (K := K) rfl) (by rfl) G.isinstance (by decide +kernel) (pa_cons (pv 1) (pa_cons (pe_tupS (pa_cons (pe_gref (by rfl) G.cWord.mgC) (pa_cons (pe_gref (by rfl) G.cNumber.mgC) (pa_cons (pe_gref (by rfl) G.cFixed.mgC) (pa_cons (pe_gref (by rfl) G.cListed.mgC) (pa_cons (pe_gref (by rfl) G.cEnded.mgC) (pa_cons (pe_gref (by rfl) G.cMarked.mgC) pa_nil))))))) pa_nil))))) pa_nil))))
      (pss_one ps_never)
      pss_nil))), ?_⟩
    obtain ⟨p, ys, ds, rfl, hp, hF, hz, hne, q⟩ := h
    refine ⟨_, rfl, _, _, rfl, .lst hp, fun H0 S0 => ?_⟩
    have hp0 := S0 _ _ hp
    refine ⟨_, rfl, iteF ?_⟩
    refine ⟨_, rfl, p, ys, rfl, .inl (SqL.of hp0), rfl, _, rfl, ?_⟩
    rw [decide_eq_false (show ¬ V.int (ys.length : Nat) = V.int 0 from fun z => hne (List.length_eq_zero_iff.mp (by injection z with z; omega)))]
    refine iteF ?_
    refine ⟨_, rfl, p, rfl, ⟨_, SqL.of hp0⟩, fun D hD => ?_⟩
    refine lc_list (K := K) (a := p) (xs := ys) (LcP H0 D fun n => (ys.take n).map fun _ => V.bl true) (LcP.start hD rfl) (fun i J hi pJ => SqL.of (pJ.1 _ _ hp0)) ?_ ?_
    · intro i v J hv pJ
      obtain ⟨y, d, rfl, _, k⟩ := ((hF.same S0).same pJ.1).get hv
      obtain ⟨dx, fs, hi, _⟩ := k.ins (.inl rfl)
      have hlt := (List.getElem?_eq_some_iff.mp hv).1
      refine ⟨rfl, _, rfl, by show 6 ≤ 1000; decide, fun p1 H1 hp1 S1 e1 => ?_⟩
      exact ⟨_, p1, _, _, _, true, rfl, e1, .cons (.own _) (.cons (.own _) (.cons (.own _) (.cons (.own _) (.cons (.own _) (.cons (.own _) Paired.nil))))), G.ty d.ci_lt (S1 _ _ hi), kit6 G.toG4 _ d.ci_lt, pJ.put S1 (take_succ_map _ hv) (by omega)⟩
    · rintro J ⟨S1, _, eJ, _⟩
      have eJ2 : J D = some (.lst ((ys.map fun _ => true).map V.bl)) := by rw [eJ]; show some (HO.lst ((ys.take ys.length).map fun _ => V.bl true)) = _; rw [List.take_length, List.map_map]; rfl
      refine ⟨D, ys.map fun _ => true, rfl, SqL.of eJ2, _, rfl, ?_⟩
      have ea : (ys.map fun _ => true).all id = true := by rw [List.all_map]; exact List.all_eq_true.mpr fun _ _ => rfl
      rw [ea]
      exact iteF (q _ (S0.trans S1))

def spJn : Sp := fun vs H Q _ => ∃ j : Str, vs = [.str j] ∧ j ∈ JN ∧ ∀ H', Same H H' → Q (.bl true) H'

end
end L2.K80

set_option Elab.async false
set_option linter.all false
set_option maxRecDepth 100000
set_option maxHeartbeats 4000000
/-! Layouts: made, their rows checked, the texts of rows. -/
namespace L2.K80
open PySem PySem.W PySem.Spec PySem.Calls PyProof.Rows L2.Jk
/-- o.m(e, ..) in a context that is not named yet -/
def tMethK (P : Program) (w : World) (K : Frag) (mg : Str → Option Value) (base : Heap) (k : Nat) (CX : CXT) (m : Str) (E : XK) (ta : TE) (t : TA) : TE := fun σ H Q => ta σ H fun x H1 => ∃ (a C dx f : Addr) (fs : List (Str × V)) (fd : FuncData) (ps : List Str) (sp : Sp), x = .ref a ∧ H1 a = some (.ins C dx fs) ∧ fs.lookup m = none ∧
  Cls K C ∧ Meth K C m f ∧ FnOk P w K mg base CX k f fd ps sp ∧ Binds K fd ps [] ∧ t σ H1 fun vs H2 => sp (x :: vs) H2 Q E
section
variable {P : Program} {w : World} {K : Frag} {mg : Str → Option Value} {base : Heap} {k : Nat} {X : Cx} {CX : CXT} {E : XK} {o e : Expr} {es : List Expr} {m : Str} {ta : TE} {t : TA} {apos pos : Pos}
theorem pe_methK {pl : Sem Bool} (eP : X.prog = P) (ew : X.w = w) (eK : X.K = K) (em : X.mg = mg) (eb : X.base = base) (hr : Room k X.A) (he : PE X o ta) (hx : Passes CX X E) (ha : PA X (e :: es) t)
    (hst : starEach (e :: es) X.env = (false, eval e X.env) :: starEach es X.env := by rfl) (hpl : (backTo pos (starEach es X.env)).any (·.1) = false := by rfl)
    (ht : eval (.Call (.Attribute o m apos) (e :: es) [] pos) X.env = (do
      let ov ← eval o X.env
      standAt apos.atName
      let (f, first) ← holding [ov] (getMethod ov m pl)
      callWith pos f first (backTo pos (starEach (e :: es) X.env)) (backToKw pos (keywordEach [] X.env))) := by rfl) :
    PE X (.Call (.Attribute o m apos) (e :: es) [] pos) (tMethK P w K mg base k CX m E ta t) := by
  subst eP ew eK em eb
  refine ⟨fun pins s σ H Q I h => ?_⟩
  refine PySem.W.methodCall_KW (pl := pl) (thn (he.run pins s σ H _ I h) fun u s1 hh => ?_) ht
  obtain ⟨x, H1, I1, rx, a, C, dx, f, fs, fd, ps, sp, ex, ea, l, c, hm, F, hb, q⟩ := hh
  subst ex
  obtain rfl : u = Value.ref a := rx
  refine getmeth_ok I1 ea c hm l ?_
  refine PySem.W.callWith_K (first := [.ref a]) (h₀ := X.base) I.ok.mod.kin hm.kp (thn (ha.run pos pins s1 σ H1 _ I1 q) fun us s2 ⟨vs, H2, I2, r, q2⟩ => ⟨I2.kIn, ?_⟩) hst hpl
  have q2' : sp (V.ref a :: (vs ++ [])) H2 Q E := by rw [List.append_nil]; exact q2
  exact run_fn (us := .ref a :: us) (vs := .ref a :: vs) (dvs := []) (ds := []) F hr hb .nil hx I2 (.cons rfl r) q2'
end
structure P7 (P : Program) (w : World) (K : Frag) (mg : Str → Option Value) (base : Heap) : Prop extends P6 P w K mg base where
  check_fields : FnAt P w K mg base CX0 2 "check_fields" ["fields"] (spCkF K)
  is_joint : FnAt P w K mg base CX0 1 "is_joint" ["thing"] spJn
section
variable {P : Program} {w : World} {K : Frag} {mg : Str → Option Value} {base : Heap} {f : Addr} {fd : FuncData}

abbrev s_is_joint : Stmt := top 35
theorem sc_is_joint : FnScope ["thing"] ["thing"] (defScope s_is_joint) := ⟨rfl, rfl, rfl, by decide +kernel, rfl, by decide +kernel, by decide +kernel⟩

theorem ok_is_joint (F : FunD K "is_joint" "is_joint" (defArgs s_is_joint) (defBody s_is_joint) (defScope s_is_joint) [] [] f fd) (G : P6 P w K mg base) : FnOk P w K mg base CX0 1 f fd ["thing"] spJn := by
  refine F.ok (CX := CX0) sc_is_joint (fun vs H Q E h => ?_) (fun cdv A outer s H vs Q E hr h => ?_)
  · obtain ⟨j, rfl, _⟩ := h
    rfl
  · refine ⟨_, PSs.nox (pss_one (ps_ret (pe_and (pe_callB call_ie (by rfl) G.isinstance (by decide +kernel) (pa_cons (pv 0) (pa_cons (pe_bty (n := "str") (by rfl) G.str (by decide +kernel)) pa_nil))) (pe_one (pe_cmpR op_in_seq (pv 0) (pe_tupS (pa_cons pe_str (pa_cons (pe_sg G.low) (pa_cons (pe_sg G.high) pa_nil)))) (by rfl)))))), ?_⟩
    obtain ⟨j, rfl, hj, q⟩ := h
    refine ⟨_, rfl, _, _, _, _, _, rfl, .ty _, flat_ty (v := .str j) rfl, kit_ty (kit_str (v := .str j) rfl), _, rfl, ?_⟩
    refine iteT ⟨_, rfl, by show 3 ≤ 1000; decide, fun p H1 hp S1 e1 => ⟨p, _, rfl, .inr (SqT.of e1), rfl, rfl, ?_⟩⟩
    have e : inV (.str j) [V.str "", V.str "!", V.str "~"] = true := by
      rcases List.mem_cons.mp hj with rfl | h
      · decide +kernel
      rcases List.mem_cons.mp h with rfl | h
      · decide +kernel
      rcases List.mem_cons.mp h with rfl | h
      · decide +kernel
      cases h
    rw [e]
    exact q _ S1

def spLay (K : Frag) : Sp := fun vs H Q _ => ∃ (L dx p p2 : Addr) (ys : List V) (ds : List FD) (js : List Str), vs = [.ref L, .ref p, .ref p2] ∧ H L = some (.ins (LA K) dx []) ∧ H p = some (.lst ys) ∧ FsAt K H ys ds ∧ H p2 = some (.lst (js.map V.str)) ∧ LyOk ds js ∧
  ∀ H' t1 t2, Same H H' → SqT K H' t1 ys → SqT K H' t2 (js.map V.str) → Q .non (upd H' L (.ins (LA K) dx (fLayout (.ref t1) (.ref t2))))
theorem seqL_same {K : Frag} {H H' : Hp} {a : Addr} {xs : List V} (S : Same H H') (h : H a = some (.lst xs)) : SqL K H' a xs := SqL.of (S _ _ h)

abbrev s_Layout_init : Stmt := inClass (top 36) 0
theorem sc_Layout_init : FnScope ["self", "fields", "joints", "joint"] ["self", "fields", "joints"] (defScope s_Layout_init) := ⟨rfl, rfl, rfl, by decide +kernel, rfl, by decide +kernel, by decide +kernel⟩

theorem ok_Layout_init (F : FunD K "__init__" "Layout.__init__" (defArgs s_Layout_init) (defBody s_Layout_init) (defScope s_Layout_init) [] [] f fd) (G : P7 P w K mg base) : FnOk P w K mg base CX0 3 f fd ["self", "fields", "joints"] (spLay K) := by
  refine F.ok (CX := CX0) sc_Layout_init (fun vs H Q E h => ?_) (fun cdv A outer s H vs Q E hr h => ?_)
  · obtain ⟨L, dx, p, p2, ys, ds, js, rfl, _⟩ := h
    rfl
  · refine ⟨_, PSs.nox (pss_cons (ps_expr (pe_fn G.check_fields (hr.mono (by decide)) pass0 (by rfl) (pa_cons (pv 1) pa_nil)))
    (pss_cons (ps_if (PW.pt (pw_or (pt_not (pt_val (pe_fn G.is_sequence (hr.mono (by decide)) pass0 (by rfl) (pa_cons (pv 2) pa_nil)))) (pw_or1 (pt_cmpR op_ne (pe_callB call_len_seq (by rfl) G.len (by decide +kernel) (pa_cons (pv 2) pa_nil)) (pe_op op_sub (pe_callB call_len_seq (by rfl) G.len (by decide +kernel) (pa_cons (pv 1) pa_nil)) pe_int) (nomark _)))))
      (pss_one ps_never)
      pss_nil)
    (pss_cons (ps_if (pt_not (pt_val (pe_callB (cr_all rfl) (by rfl) G.all (by decide +kernel) (pa_cons (pe_lc (own := [("joint", 3)]) (g := gName 3) (tt := tYes) rfl sc_Layout_init.nd (pi_list (pv 2)) (blkOk_by (N := ["self", "fields", "joints", "joint"]) (sc := defScope s_Layout_init) (by decide +kernel)) (fun _ _ _ _ _ => pg_name (i := 3) sc_Layout_init.nd rfl (Or.inl rfl)) (fun _ _ _ _ _ => pts_nil) (fun _ _ _ _ _ => (pe_fn G.is_joint (hr.mono (by decide)) pass0 (by rfl) (pa_cons (pv 3) pa_nil)))) pa_nil))))
      (pss_one ps_never)
      pss_nil)
    (pss_cons (ps_fld (pv 0) (pe_callTy call_tupleZ (by rfl) G.tuple (by decide +kernel) (pa_cons (pv 1) pa_nil)) rfl)
    (pss_one (ps_fld (pv 0) (pe_callTy call_tupleZ (by rfl) G.tuple (by decide +kernel) (pa_cons (pv 2) pa_nil)) rfl)))))), ?_⟩
    obtain ⟨L, dx, p, p2, ys, ds, js, rfl, hL, hp, hF, hp2, ok, q⟩ := h
    have hlen : ys.length = ds.length := hF.1
    have hfew := ok.few
    have hjl := ok.len
    refine ⟨_, rfl, p, ys, ds, rfl, hp, hF, by omega, fun z => ok.some (List.length_eq_zero_iff.mp (by rw [← hlen, z]; rfl)), fun H0 S0 => ?_⟩
    have hp2' := S0 _ _ hp2
    refine ⟨_, rfl, _, _, rfl, .lst hp2', fun H1 S1 => ⟨_, rfl, iteF ?_⟩⟩
    have T1 : Same H H1 := S0.trans S1
    refine ⟨_, rfl, p2, _, rfl, .inl (SqL.of (T1 _ _ hp2)), _, rfl, p, _, rfl, .inl (SqL.of (T1 _ _ hp)), _, _, rfl, rfl, rfl, _, rfl, ?_⟩
    refine ite2 (fun h => absurd h ?_) (fun _ => ?_)
    · rw [show decide (V.int (((js.map V.str).length : Nat) : Int) = V.int ((ys.length : Int) - 1)) = true from decide_eq_true (congrArg V.int (by rw [List.length_map]; omega))]
      decide
    refine ⟨_, rfl, p2, rfl, ⟨_, SqL.of (T1 _ _ hp2)⟩, fun D hD => ?_⟩
    refine lc_list (K := K) (a := p2) (xs := js.map V.str) (LcP H1 D fun n => (js.take n).map fun _ => V.bl true) (LcP.start hD rfl) (fun i J hi pJ => SqL.of (pJ.1 _ _ (T1 _ _ hp2))) ?_ ?_
    · intro i v J hv pJ
      obtain ⟨j, hj, rfl⟩ : ∃ j, js[i]? = some j ∧ V.str j = v := by rw [List.getElem?_map] at hv; cases e : js[i]? with
        | none => rw [e] at hv; cases hv
        | some j => rw [e] at hv; exact ⟨j, rfl, Option.some.inj hv⟩
      have hlt := (List.getElem?_eq_some_iff.mp hj).1
      exact ⟨rfl, _, rfl, j, rfl, ok.jn j (List.mem_of_getElem? hj), fun H2 S2 => pJ.put S2 (take_succ_map _ hj) (by omega)⟩
    · rintro J ⟨S2, _, eJ, _⟩
      have eJ2 : J D = some (.lst ((js.map fun _ => true).map V.bl)) := by rw [eJ]; show some (HO.lst ((js.take (js.map V.str).length).map fun _ => V.bl true)) = _; rw [List.length_map, List.take_length, List.map_map]; rfl
      refine ⟨D, js.map fun _ => true, rfl, SqL.of eJ2, _, rfl, ?_⟩
      have ea : (js.map fun _ => true).all id = true := by rw [List.all_map]; exact List.all_eq_true.mpr fun _ _ => rfl
      rw [ea]
      have T2 : Same H J := T1.trans S2
      refine iteF ⟨_, rfl, p, ys, rfl, .inl ⟨SqL.of (T2 _ _ hp), fun t1 H3 ht1 S3 tz1 => ?_⟩⟩
      have T3 := T2.trans S3
      refine ⟨_, rfl, L, _, dx, _, rfl, T3 _ _ hL, G.cLayout.cl, G.cLayout.no _ (by decide +kernel), (by show 0 < 1000; decide), ?_⟩
      have nL : p2 ≠ L := fun e => by rw [e, hL] at hp2; cases hp2
      refine ⟨_, rfl, p2, _, rfl, .inl ⟨SqL.of (by show upd H3 L _ p2 = _; rw [upd_ne nL]; exact T3 _ _ hp2), fun t2 H4 ht2 S4 tz2 => ?_⟩⟩
      refine ⟨_, rfl, L, _, dx, _, rfl, S4 _ _ upd_same, G.cLayout.cl, G.cLayout.no _ (by decide +kernel), (by show 1 < 1000; decide), ?_⟩
      obtain ⟨o1, oc1, od1, oe1⟩ := tz1
      obtain ⟨o2, oc2, od2, oe2⟩ := tz2
      have n1 : t1 ≠ L := fun e => by rw [e, T2 _ _ hL] at ht1; cases ht1
      have n2 : t2 ≠ L := fun e => by rw [e, upd_same] at ht2; cases ht2
      have z := q (upd H4 L (.ins (LA K) dx [])) t1 t2 (fun b o e => by
        by_cases hb : b = L
        · subst hb
          rw [upd_same]
          rw [hL] at e
          exact e
        · rw [upd_ne hb]
          refine S4 _ _ ?_
          rw [upd_ne hb]
          exact T3 _ _ e) (.inl (.inr ⟨o1, by
            rw [upd_ne n1]
            refine S4 _ _ ?_
            rw [upd_ne n1]
            exact oe1⟩)) (.inl (.inr ⟨o2, by rw [upd_ne n2]; exact oe2⟩))
      rw [upd_upd] at z
      exact z

structure P8 (P : Program) (w : World) (K : Frag) (mg : Str → Option Value) (base : Heap) : Prop extends P7 P w K mg base where
  kLayout : ClsAt P w K mg base CX0 3 "Layout" (LA K) ["self", "fields", "joints"] (spLay K)
def spJB (K : Frag) : Sp := fun vs H Q _ => ∃ (L : Addr) (ds : List FD) (js : List Str), vs = [.ref L] ∧ LayAt K H L ds js ∧ ∀ p H', Same H H' → SqT K H' p ((js ++ [("" : Str)]).map V.str) → Q (.ref p) H'
/-- the first place that does not fit -/
def badAt (ds : List FD) (xs : List V) (i : Nat) : Bool := match ds[i]?, xs[i]? with
  | some d, some x => !d.hasV x
  | _, _ => true
def rowDue (ds : List FD) : Option (List V) → Option Int
  | none => some (-1)
  | some xs => ((List.range (max xs.length ds.length)).find? (badAt ds xs)).map fun i : Nat => (i : Int)
def RowIn (H : Hp) : Option (List V) → Prop
  | none => True
  | some xs => xs.length ≤ 1000 ∧ ∀ x ∈ xs, Thg H x ∧ lenV x ≤ 900
theorem RowIn.same {H H' : Hp} (S : Same H H') : ∀ {o : Option (List V)}, RowIn H o → RowIn H' o
  | none, _ => trivial
  | some _, ⟨a, b⟩ => ⟨a, fun x hx => ⟨(b x hx).1.same S, (b x hx).2⟩⟩
def spCkR (K : Frag) : Sp := fun vs H Q E => ∃ (L : Addr) (ds : List FD) (js : List Str) (v : V) (o : Option (List V)), vs = [.ref L, v] ∧ LayAt K H L ds js ∧ SeqIs K H v o ∧ RowIn H o ∧
  (rowDue ds o = none → ∀ H', Same H H' → Q .non H') ∧ ∀ z, rowDue ds o = some z → RaiseE (NR K) "place" (.int z) H E
theorem find_at {p : Nat → Bool} {n i : Nat} (hi : i < n) (h1 : p i = true) (h2 : ∀ j, j < i → p j = false) : (List.range n).find? p = some i := by
  rw [List.find?_range_eq_some]
  exact ⟨h1, List.mem_range.mpr hi, fun j hj => by rw [h2 j hj]; rfl⟩

abbrev s_check_row : Stmt := top 37
theorem sc_check_row : FnScope ["layout", "row", "place"] ["layout", "row"] (defScope s_check_row) := ⟨rfl, rfl, rfl, by decide +kernel, rfl, by decide +kernel, by decide +kernel⟩

theorem ok_check_row (F : FunD K "check_row" "check_row" (defArgs s_check_row) (defBody s_check_row) (defScope s_check_row) [] [] f fd) (G : P8 P w K mg base) : FnOk P w K mg base (L2.CX P w) 5 f fd ["layout", "row"] (spCkR K) := by
  refine F.ok (CX := (L2.CX P w)) sc_check_row (fun vs H Q E h => ?_) (fun cdv A outer s H vs Q E hr h => ?_)
  · obtain ⟨L, ds, js, v, o, rfl, _⟩ := h
    rfl
  · have hr2 : Room 2 _ := hr.mono (by decide)
    refine ⟨_, (pss_cons (ps_if (pt_not (pt_val (pe_fn G.is_sequence (hr.mono (by decide)) pass0 (by rfl) (pa_cons (pv 1) pa_nil))))
      (pss_one (ps_raise rfl (takes_of rfl rfl rfl rfl) (pmk_1 G.nr hr2 (by rfl) (pa_cons (pe_un un_neg pe_int) pa_nil))))
      pss_nil)
    (pss_one (ps_for (passes_of rfl) rfl (pi_range1 (by rfl) G.range (pa_cons (pe_callB (call_max2 rfl) (by rfl) G.max (by decide +kernel) (pa_cons (pe_callB call_len_seq (by rfl) G.len (by decide +kernel) (pa_cons (pv 1) pa_nil)) (pa_cons (pe_callB call_len_seq (by rfl) G.len (by decide +kernel) (pa_cons (pe_fld (pv 0) rfl) pa_nil)) pa_nil))) pa_nil)) (pg_name (i := 2) sc_check_row.nd rfl (Or.inl rfl))
      (pss_cons (ps_if (PW.pt (pw_or (pt_cmpR op_ge (pv 2) (pe_callB call_len_seq (by rfl) G.len (by decide +kernel) (pa_cons (pv 1) pa_nil)) (nomark _)) (pw_or1 (pt_cmpR op_ge (pv 2) (pe_callB call_len_seq (by rfl) G.len (by decide +kernel) (pa_cons (pe_fld (pv 0) rfl) pa_nil)) (nomark _)))))
        (pss_one (ps_raise rfl (takes_of rfl rfl rfl rfl) (pmk_1 G.nr hr2 (by rfl) (pa_cons (pv 2) pa_nil))))
        pss_nil)
      (pss_one (ps_if (pt_not (pt_val (pe_methK (P := P) (w := w) (K := K) (mg := mg) (base := base) (k := 4) (CX := CX0) rfl rfl rfl rfl rfl hr (pe_ix ix_tup (pe_fld (pv 0) rfl) (pv 2) (fun _ _ => rfl)) pass0 (pa_cons (pe_ix ix_seq (pv 1) (pv 2) (fun _ _ => rfl)) pa_nil))))
        (pss_one (ps_raise rfl (takes_of rfl rfl rfl rfl) (pmk_1 G.nr hr2 (by rfl) (pa_cons (pv 2) pa_nil))))
        pss_nil)))))), ?_⟩
    obtain ⟨L, ds, js, v, o, rfl, hLy, hS, hR, q1, q2⟩ := h
    refine ⟨_, rfl, v, o, rfl, hS, fun H0 S0 => ⟨_, rfl, ?_⟩⟩
    have hLy0 := hLy.same S0
    have hS0 := hS.same S0
    have hR0 := hR.same S0
    cases o with
    | none => exact iteT ⟨_, rfl, mkO_1 (raise_mono S0 (q2 _ rfl))⟩
    | some xs =>
    refine iteF ?_
    obtain ⟨p, b, rfl, hsq, hor⟩ := hS0.sqb
    obtain ⟨⟨dx, t1, t2, ys, hL, h1, hF, h2⟩, ok⟩ := id hLy0
    obtain ⟨hxl, hxs⟩ := hR0
    have hlen : ys.length = ds.length := hF.1
    have hf := ok.few
    refine ⟨_, rfl, p, xs, rfl, hor, _, rfl, L, _, dx, _, _, rfl, hL, G.cLayout.cl, G.cLayout.no _ (by decide +kernel), lLayout_fields, t1, ys, rfl, .inr h1, _, _, rfl, ?_⟩
    have eM : (if (ys.length : Int) > (xs.length : Int) then (ys.length : Int) else (xs.length : Int)) = ((max xs.length ds.length : Nat) : Int) := by
      split <;> omega
    rw [eM]
    refine ⟨_, rfl, by omega, by omega, ?_⟩
    refine for_range (lo := 0) (n := max xs.length ds.length) (fun i σ H' => (∃ v2, σ = [some (.ref L), some (.ref p), v2]) ∧ Same H0 H' ∧ ∀ j, j < i → badAt ds xs j = false) ⟨⟨_, rfl⟩, Same.refl _, fun j hj => absurd hj (Nat.not_lt_zero _)⟩ ?_ ?_
    · rintro i σ J hi ⟨⟨v2, rfl⟩, S1, hb⟩
      have hLy1 := hLy0.same S1
      obtain ⟨⟨dx, t1, t2, ys, hL, h1, hF, h2⟩, _⟩ := id hLy1
      have hlen : ys.length = ds.length := hF.1
      have hor1 : SqL K J p xs ∨ SqT K J p xs := hor.imp (fun h => S1.seq h) (fun h => Z3.seqT_same S1 h)
      have hR1 := hxs
      have T1 := S0.trans S1
      have bad : badAt ds xs i = true → RaiseE (NR K) "place" (.int ((0 : Int) + (i : Int))) J E := fun hbd => raise_mono T1 (q2 _ (by
        show ((List.range (max xs.length ds.length)).find? (badAt ds xs)).map _ = _
        rw [find_at hi hbd hb, Int.zero_add]
        rfl))
      rw [Int.zero_add] at bad ⊢
      refine ⟨_, rfl, _, rfl, p, xs, rfl, hor1, _, _, rfl, rfl, _, rfl, ?_⟩
      refine ite2 (fun c1 => ?_) (fun c1 => ?_)
      · have c1' : ¬ i < xs.length := by have := of_decide_eq_true c1; omega
        refine iteT ⟨_, rfl, mkO_1 (bad ?_)⟩
        unfold badAt
        rw [List.getElem?_eq_none (show xs.length ≤ i by omega)]
        cases ds[i]? <;> rfl
      · have c1' : i < xs.length := by
          refine Decidable.byContradiction fun z => c1 (decide_eq_true ?_)
          omega
        refine ⟨_, rfl, _, rfl, L, _, dx, _, _, rfl, hL, G.cLayout.cl, G.cLayout.no _ (by decide +kernel), lLayout_fields, t1, ys, rfl, .inr h1, _, _, rfl, rfl, _, rfl, ?_⟩
        refine ite2 (fun c2 => ?_) (fun c2 => ?_)
        · have c2' : ¬ i < ds.length := by have := of_decide_eq_true c2; omega
          refine ⟨_, rfl, mkO_1 (bad ?_)⟩
          unfold badAt
          rw [List.getElem?_eq_none (show ds.length ≤ i by omega)]
        · have c2' : i < ds.length := by
            refine Decidable.byContradiction fun z => c2 (decide_eq_true ?_)
            omega
          obtain ⟨x, hx⟩ : ∃ x, xs[i]? = some x := ⟨_, List.getElem?_eq_getElem c1'⟩
          obtain ⟨y0, hy0⟩ : ∃ x, ys[i]? = some x := ⟨_, List.getElem?_eq_getElem (by omega)⟩
          obtain ⟨y, d, rfl, hd, hk⟩ := hF.get hy0
          have eb : badAt ds xs i = !d.hasV x := by
            unfold badAt
            rw [hd, hx]
          rw [eb] at bad
          obtain ⟨ey, fs, hin, lf⟩ := hk.ins (g := "has_value") (.inl rfl)
          obtain ⟨sp, M, Hs⟩ := G.toP5.hv5 hk
          obtain ⟨fde, Fe, Be⟩ := M.ok
          obtain ⟨ht, hlv⟩ := hxs x (List.mem_of_getElem? hx)
          have aty : atI ys (i : Int) = some (.ref y) := (atI_nat hy0)
          have atx : atI xs (i : Int) = some x := (atI_nat hx)
          refine ⟨_, rfl, L, _, dx, _, _, rfl, hL, G.cLayout.cl, G.cLayout.no _ (by decide +kernel), lLayout_fields, _, rfl, t1, ys, _, _, rfl, rfl, h1, aty, y, _, ey, _, fs, fde, _, sp, rfl, hin, lf, G.cl _ d.ci_lt, M.me, Fe, Be, _, rfl, _, rfl, ?_⟩
          have fin : ∀ v2, sp [.ref y, x] J v2 E0 → sp [.ref y, x] J v2 E0 := fun _ h => h
          rcases hor1 with hl | hl
          · refine .inl ⟨p, xs, _, x, rfl, rfl, hl, atx, Hs x _ _ (ht.same S1) hlv ⟨_, rfl, ?_⟩⟩
            refine ite2 (fun c => ⟨_, rfl, mkO_1 (bad c)⟩) (fun c => ⟨⟨_, rfl⟩, S1, fun j hj => ?_⟩)
            rcases Nat.lt_or_ge j i with h | h
            · exact hb j h
            · rw [show j = i by omega, eb]
              exact Bool.eq_false_iff.mpr c
          · refine .inr (.inl ⟨p, xs, _, x, rfl, rfl, hl, atx, Hs x _ _ (ht.same S1) hlv ⟨_, rfl, ?_⟩⟩)
            refine ite2 (fun c => ⟨_, rfl, mkO_1 (bad c)⟩) (fun c => ⟨⟨_, rfl⟩, S1, fun j hj => ?_⟩)
            rcases Nat.lt_or_ge j i with h | h
            · exact hb j h
            · rw [show j = i by omega, eb]
              exact Bool.eq_false_iff.mpr c
    · rintro σ J ⟨⟨v2, rfl⟩, S1, hb⟩
      refine q1 ?_ _ (S0.trans S1)
      show ((List.range (max xs.length ds.length)).find? (badAt ds xs)).map _ = none
      rw [List.find?_eq_none.mpr (fun j hj => by rw [hb j (List.mem_range.mp hj)]; decide)]
      rfl


end
end L2.K80

set_option Elab.async false
set_option linter.all false
set_option maxRecDepth 100000
set_option maxHeartbeats 4000000
/-! Texts cut at one sign, and put together again. -/
namespace L2.Jk
open PySem PySem.W PySem.StrLaws
theorem str_ext {a b : Str} (h : a.cps.toList = b.cps.toList) : a = b := by
  cases a
  cases b
  exact congrArg Str.mk (Array.toList_inj.mp h)
theorem cat_list (a b : Str) : (a ++ b).cps.toList = a.cps.toList ++ b.cps.toList := by
  show (a.cps ++ b.cps).toList = _
  exact Array.toList_append
/-- the list cut at a sign, n times at most -/
def cutN (c : Nat) : Nat → List Nat → List (List Nat)
  | 0, l => [l]
  | n + 1, l => match l.dropWhile (· != c) with
    | [] => [l]
    | _ :: r => l.takeWhile (· != c) :: cutN c n r
def occL (c : Nat) : List Nat → Nat → List Nat
  | [], _ => []
  | x :: r, a => if x = c then a :: occL c r (a + 1) else occL c r (a + 1)
theorem occL_run (s : Str) (c lim : Nat) : ∀ (m i : Nat) (st : Array Nat × Nat), i + m = s.length + 1 → st.2 ≤ i → st.1.size ≤ lim →
    (forIn (List.range' i m) st (occBody s ⟨#[c]⟩ s.length lim)).run.1.toList = (st.1.toList ++ occL c (s.cps.toList.drop i) i).take lim
  | 0, i, st, h, _, hs => by
    have e : s.cps.toList.drop i = [] := List.drop_eq_nil_of_le (by rw [Array.length_toList]; show s.cps.size ≤ i; have : s.length = s.cps.size := rfl; omega)
    rw [e]
    show st.1.toList = (st.1.toList ++ []).take lim
    rw [List.append_nil, List.take_of_length_le (by rw [Array.length_toList]; exact hs)]
  | m + 1, i, st, h, hf, hs => by
    have ih := occL_run s c lim m (i + 1)
    rw [List.range'_succ, List.forIn_cons, occBody.eq_1]
    by_cases hc : s.cps.toList[i]? = some c
    · have hi : i < s.cps.toList.length := (List.getElem?_eq_some_iff.mp hc).1
      have e : s.cps.toList.drop i = c :: s.cps.toList.drop (i + 1) := by
        rw [List.drop_eq_getElem_cons hi, (List.getElem?_eq_some_iff.mp hc).2]
      have r : occL c (s.cps.toList.drop i) i = i :: occL c (s.cps.toList.drop (i + 1)) (i + 1) := by rw [e]; exact if_pos rfl
      by_cases hl : st.1.size < lim
      · rw [if_pos ⟨⟨⟨hl, hf⟩, ((subAt_one s c i).mpr hc).1⟩, ((subAt_one s c i).mpr hc).2⟩]
        have z := ih (st.1.push i, i + 1) (by omega) (Nat.le_refl _) (by show (st.1.push i).size ≤ lim; rw [Array.size_push]; omega)
        rw [r]
        refine Eq.trans z ?_
        show ((st.1.push i).toList ++ _).take lim = _
        rw [Array.toList_push, List.append_assoc]
        rfl
      · rw [if_neg (fun k => hl k.1.1.1)]
        have z := ih (st.1, st.2) (by omega) (by show st.2 ≤ i + 1; omega) hs
        refine Eq.trans z ?_
        have hz : lim = st.1.toList.length := by rw [Array.length_toList]; omega
        rw [hz, List.take_left, List.take_left]
    · rw [if_neg (fun k => hc ((subAt_one s c i).mp ⟨k.1.2, k.2⟩))]
      have z := ih (st.1, st.2) (by omega) (by show st.2 ≤ i + 1; omega) hs
      refine Eq.trans z ?_
      have r : occL c (s.cps.toList.drop i) i = occL c (s.cps.toList.drop (i + 1)) (i + 1) := by
        by_cases hi : i < s.cps.toList.length
        · rw [List.drop_eq_getElem_cons hi]
          exact if_neg (fun k => hc (by rw [List.getElem?_eq_getElem hi, k]))
        · rw [List.drop_eq_nil_of_le (by omega), List.drop_eq_nil_of_le (by omega)]
          rfl
      rw [r]
theorem occ_is (s : Str) (c lim : Nat) : Builtin.Str.occurrences s ⟨#[c]⟩ 0 s.length lim = (occL c s.cps.toList 0).take lim := by
  rw [occ_eq]
  have z := occL_run s c lim (s.length + 1 - 0) 0 (#[], 0) (by omega) (Nat.le_refl _) (Nat.zero_le _)
  refine Eq.trans z ?_
  rfl
theorem occL_cut (c : Nat) : ∀ (l : List Nat) (a : Nat), occL c l a = match l.dropWhile (· != c) with
    | [] => []
    | _ :: r => (a + (l.takeWhile (· != c)).length) :: occL c r (a + (l.takeWhile (· != c)).length + 1)
  | [], a => rfl
  | x :: l, a => by
    by_cases h : x = c
    · have e : (x != c) = false := by rw [h]; exact bne_self_eq_false c
      rw [List.dropWhile_cons_of_neg (by rw [e]; exact Bool.false_ne_true), List.takeWhile_cons_of_neg (by rw [e]; exact Bool.false_ne_true)]
      show (if x = c then _ else _) = _
      rw [if_pos h]
      rfl
    · have e : (x != c) = true := bne_iff_ne.mpr h
      rw [List.dropWhile_cons_of_pos (p := (· != c)) e, List.takeWhile_cons_of_pos (p := (· != c)) e]
      show (if x = c then _ else _) = _
      rw [if_neg h, occL_cut c l (a + 1)]
      cases l.dropWhile (· != c) with
      | nil => rfl
      | cons y r =>
        show (a + 1 + _) :: _ = (a + (_ + 1)) :: _
        rw [show a + 1 + (l.takeWhile (· != c)).length = a + ((l.takeWhile (· != c)).length + 1) by omega]
        rfl
theorem parts_cut (s : Str) (c : Nat) : ∀ (lim a : Nat), a ≤ s.length → (partsFrom s 1 a ((occL c (s.cps.toList.drop a) a).take lim)).map (·.cps.toList) = cutN c lim (s.cps.toList.drop a)
  | 0, a, ha => by
    rw [List.take_zero, partsFrom.eq_1]
    show [(Builtin.Str.strSub s a s.length).cps.toList] = [_]
    rw [strSub_toList, List.take_of_length_le (by rw [List.length_drop, Array.length_toList]; exact Nat.le_refl _)]
  | n + 1, a, ha => by
    rw [occL_cut]
    unfold cutN
    generalize hl : s.cps.toList.drop a = l
    have hlen : l.length = s.length - a := by rw [← hl, List.length_drop, Array.length_toList]; rfl
    cases e : l.dropWhile (· != c) with
    | nil =>
      show (partsFrom s 1 a []).map _ = [l]
      rw [partsFrom.eq_1]
      show [(Builtin.Str.strSub s a s.length).cps.toList] = [_]
      rw [strSub_toList, hl, List.take_of_length_le (by omega)]
    | cons y r =>
      have whole := List.takeWhile_append_dropWhile (p := (· != c)) (l := l)
      rw [e] at whole
      have hk : (l.takeWhile (· != c)).length + (r.length + 1) = l.length := by
        have := congrArg List.length whole
        rw [List.length_append, List.length_cons] at this
        exact this
      show (partsFrom s 1 a (((a + (l.takeWhile (· != c)).length) :: _).take (n + 1))).map _ = _
      rw [List.take_succ_cons, partsFrom.eq_2]
      show (Builtin.Str.strSub s a (a + (l.takeWhile (· != c)).length)).cps.toList :: (partsFrom s 1 (a + (l.takeWhile (· != c)).length + 1) _).map _ = _
      have hr : s.cps.toList.drop (a + (l.takeWhile (· != c)).length + 1) = r := by
        rw [Nat.add_assoc, ← List.drop_drop, hl]
        have z : (l.takeWhile (· != c) ++ y :: r).drop ((l.takeWhile (· != c)).length + 1) = r := by
          rw [← List.drop_drop, List.drop_left]
          rfl
        rw [whole] at z
        exact z
      have ih := parts_cut s c n (a + (l.takeWhile (· != c)).length + 1) (by omega)
      rw [hr] at ih
      rw [ih, strSub_toList, hl, show a + (l.takeWhile (· != c)).length - a = (l.takeWhile (· != c)).length by omega]
      congr 1
      exact (List.prefix_iff_eq_take.mp (List.takeWhile_prefix _)).symm
theorem dropW_free {c : Nat} {l : List Nat} (h : c ∉ l) : l.dropWhile (· != c) = [] := by
  induction l with
  | nil => rfl
  | cons x l ih =>
    have e : (x != c) = true := bne_iff_ne.mpr fun e => h (e ▸ List.mem_cons_self ..)
    rw [List.dropWhile_cons_of_pos (p := (· != c)) e]
    exact ih fun k => h (List.mem_cons_of_mem _ k)
theorem cutN_free {c : Nat} {l : List Nat} (h : c ∉ l) : ∀ n, cutN c n l = [l]
  | 0 => rfl
  | n + 1 => by
    unfold cutN
    rw [dropW_free h]
theorem cutN_cons {c : Nat} {a l : List Nat} (h : c ∉ a) (n : Nat) : cutN c (n + 1) (a ++ c :: l) = a :: cutN c n l := by
  have hp : ∀ x ∈ a, (x != c) = true := fun x hx => bne_iff_ne.mpr fun e => h (e ▸ hx)
  conv => lhs; unfold cutN
  rw [List.dropWhile_append_of_pos hp, List.takeWhile_append_of_pos hp, List.dropWhile_cons_of_neg (by simp), List.takeWhile_cons_of_neg (by simp)]
  rw [List.append_nil]
theorem one_occ {s : Str} {c : Nat} (h : (decide (s.length < (⟨#[c]⟩ : Str).length) || decide (Builtin.Str.strKind s < Builtin.Str.strKind ⟨#[c]⟩)) = true) : c ∉ s.cps.toList := by
  rcases Bool.or_eq_true_iff.mp h with h | h
  · have z : s.cps.size < 1 := of_decide_eq_true h
    intro k
    have := List.length_pos_of_mem k
    rw [Array.length_toList] at this
    omega
  · exact kind_free s c (of_decide_eq_true h)
theorem cut_any (s : Str) (c lim : Nat) : (if (decide (s.length < (⟨#[c]⟩ : Str).length) || decide (Builtin.Str.strKind s < Builtin.Str.strKind ⟨#[c]⟩)) = true then [s]
    else if (Builtin.Str.occurrences s ⟨#[c]⟩ 0 s.length lim).isEmpty = true then [s] else Builtin.Str.partsBetween s (Builtin.Str.occurrences s ⟨#[c]⟩ 0 s.length lim) (⟨#[c]⟩ : Str).length).map (·.cps.toList) = cutN c lim s.cps.toList := by
  have whole := parts_cut s c lim 0 (Nat.zero_le _)
  rw [List.drop_zero, ← occ_is] at whole
  split
  · rename_i h
    rw [cutN_free (one_occ h)]
    rfl
  · split
    · rename_i h
      rw [List.isEmpty_iff.mp h, partsFrom.eq_1] at whole
      rw [← whole]
      show [s.cps.toList] = [(Builtin.Str.strSub s 0 s.length).cps.toList]
      rw [sub_whole]
    · rw [partsBetween_eq]
      exact whole
theorem splitMax_cut (s : Str) (c : Nat) (k : Int) : (Txt.splitMax s ⟨#[c]⟩ k).map (·.cps.toList) = cutN c (limitOf s k) s.cps.toList := cut_any s c _
theorem split_cut (s : Str) (c : Nat) : (Txt.split s ⟨#[c]⟩).map (·.cps.toList) = cutN c (s.length + 1) s.cps.toList := cut_any s c _
theorem map_list_inj {xs ys : List Str} (h : xs.map (·.cps.toList) = ys.map (·.cps.toList)) : xs = ys := List.map_inj_right (fun _ _ e => str_ext e) |>.mp h
theorem occL_len (c : Nat) : ∀ (l : List Nat) (a : Nat), (occL c l a).length = l.count c
  | [], _ => rfl
  | x :: l, a => by
    show (if x = c then _ else _ : List Nat).length = _
    rw [List.count_cons]
    split
    · rename_i h
      rw [List.length_cons, occL_len c l, if_pos (by rw [h]; exact beq_self_eq_true c)]
    · rename_i h
      rw [occL_len c l, if_neg (by simpa using h), Nat.add_zero]
theorem count_is (s : Str) (c : Nat) : Txt.count s ⟨#[c]⟩ = ((s.cps.toList.count c : Nat) : Int) := by
  show ((Builtin.Str.occurrences s ⟨#[c]⟩ 0 s.length (s.length + 1)).length : Int) = _
  rw [occ_is, List.take_of_length_le, occL_len]
  rw [occL_len]
  have := List.count_le_length (a := c) (l := s.cps.toList)
  rw [Array.length_toList] at this
  show s.cps.toList.count c ≤ s.cps.size + 1
  omega
/-! ### put together -/
theorem join_nil (s : Str) : Txt.join s [] = "" := by
  show Builtin.Str.glued s [] = _
  rw [glued_eq_join]
  rfl
theorem join_one (s x : Str) : Txt.join s [x] = x := by
  show Builtin.Str.glued s [x] = _
  rw [glued_eq_join, ← glued_cons]
  rfl
theorem join_cons (s x y : Str) (r : List Str) : Txt.join s (x :: y :: r) = x ++ s ++ Txt.join s (y :: r) := by
  show Builtin.Str.glued s (x :: y :: r) = x ++ s ++ Builtin.Str.glued s (y :: r)
  rw [glued_eq_join, glued_eq_join, ← join_shift, ← glued_cons, ← glued_cons]
  rfl
theorem cutN_join (c : Nat) : ∀ (ps : List Str) (n : Nat), ps ≠ [] → ps.length ≤ n + 1 → (∀ p ∈ ps, c ∉ p.cps.toList) → cutN c n (Txt.join ⟨#[c]⟩ ps).cps.toList = ps.map (·.cps.toList)
  | [], _, h, _, _ => absurd rfl h
  | [x], n, _, _, hf => by
    rw [join_one, cutN_free (hf x (List.mem_cons_self ..))]
    rfl
  | x :: y :: r, 0, _, hl, _ => by
    simp only [List.length_cons] at hl
    omega
  | x :: y :: r, n + 1, _, hl, hf => by
    rw [join_cons, cat_list, cat_list]
    show cutN c (n + 1) (x.cps.toList ++ [c] ++ _) = _
    rw [List.append_assoc, List.singleton_append]
    rw [cutN_cons (hf x (List.mem_cons_self ..)), cutN_join c (y :: r) n (by simp) (by simp only [List.length_cons] at hl ⊢; omega) fun p hp => hf p (List.mem_cons_of_mem _ hp)]
    rfl
theorem join_len (s : Str) : ∀ ps : List Str, ps ≠ [] → (Txt.join s ps).length + s.length = (ps.map fun p => p.length + s.length).sum
  | [], h => absurd rfl h
  | [x], _ => by rw [join_one]; simp
  | x :: y :: r, _ => by
    have ih := join_len s (y :: r) (by simp)
    rw [join_cons]
    have e : ∀ a b : Str, (a ++ b).length = a.length + b.length := fun a b => by
      show (a.cps ++ b.cps).size = _
      exact Array.size_append
    rw [e, e, List.map_cons, List.sum_cons, ← ih]
    omega
theorem split_join {c : Nat} {ps : List Str} (hne : ps ≠ []) (hf : ∀ p ∈ ps, c ∉ p.cps.toList) : Txt.split (Txt.join ⟨#[c]⟩ ps) ⟨#[c]⟩ = ps := by
  refine map_list_inj ?_
  rw [split_cut]
  refine cutN_join c ps _ hne ?_ hf
  have z := join_len ⟨#[c]⟩ ps hne
  have k : ∀ l : List Str, l.length ≤ (l.map fun p => p.length + (⟨#[c]⟩ : Str).length).sum := fun l => by
    induction l with
    | nil => exact Nat.le_refl _
    | cons a l ih =>
      rw [List.map_cons, List.sum_cons, List.length_cons]
      have : (⟨#[c]⟩ : Str).length = 1 := rfl
      omega
  have k2 := k ps
  have : (⟨#[c]⟩ : Str).length = 1 := rfl
  omega
end L2.Jk

set_option Elab.async false
set_option linter.all false
set_option maxRecDepth 100000
set_option maxHeartbeats 4000000
/-! Numbers as texts, and back. -/
namespace L2.Jk
open PySem PySem.W PySem.StrLaws PyProof.Rows
def T (n : Nat) : Str := (toString ((n : Nat) : Int) : Str)
theorem T_list (n : Nat) : (T n).cps.toList = (Nat.toDigits 10 n).map Char.toNat := KIN.signs_num n
theorem T_val (n : Nat) : NumText.digitsVal (T n).cps.toList = n := by
  have h := KIN.val_back n
  rw [← KIN.signs_num] at h
  exact h
theorem T_dg (n : Nat) : NumText.AllDigits (T n).cps.toList := by
  rw [T_list]
  induction n using Nat.strongRecOn with
  | _ m ih =>
    have dc : ∀ d : Nat, d < 10 → 48 ≤ (Nat.digitChar d).toNat ∧ (Nat.digitChar d).toNat ≤ 57 := by decide
    by_cases h : m < 10
    · rw [Nat.toDigits_of_lt_base h]
      intro c hc
      rw [List.mem_singleton.mp hc]
      exact dc m h
    · have hm : m % 10 < 10 := Nat.mod_lt m (by decide)
      have t : Nat.toDigits 10 (m / 10) ++ Nat.toDigits 10 (m % 10) = Nat.toDigits 10 (10 * (m / 10) + m % 10) := Nat.toDigits_append_toDigits (by decide) (by omega) hm
      rw [Nat.div_add_mod] at t
      rw [← t, List.map_append, Nat.toDigits_of_lt_base hm]
      intro c hc
      rcases List.mem_append.mp hc with hc | hc
      · exact ih (m / 10) (by omega) c hc
      · rw [List.mem_singleton.mp hc]
        exact dc _ hm
/-- the first digit is no zero, but of 0 -/
theorem T_head (n : Nat) : ∃ c r, (T n).cps.toList = c :: r ∧ (c = 48 → n = 0) := by
  rw [T_list]
  induction n using Nat.strongRecOn with
  | _ m ih =>
    have dc : ∀ d : Nat, d < 10 → (Nat.digitChar d).toNat = 48 → d = 0 := by decide
    by_cases h : m < 10
    · rw [Nat.toDigits_of_lt_base h]
      exact ⟨_, [], rfl, dc m h⟩
    · have hm : m % 10 < 10 := Nat.mod_lt m (by decide)
      have t : Nat.toDigits 10 (m / 10) ++ Nat.toDigits 10 (m % 10) = Nat.toDigits 10 (10 * (m / 10) + m % 10) := Nat.toDigits_append_toDigits (by decide) (by omega) hm
      rw [Nat.div_add_mod] at t
      rw [← t, List.map_append]
      obtain ⟨c, r, e, k⟩ := ih (m / 10) (by omega)
      rw [e]
      exact ⟨c, _, rfl, fun z => by have := k z; omega⟩
theorem T_ne (n : Nat) : (T n).cps.toList ≠ [] := by
  obtain ⟨c, r, e, _⟩ := T_head n
  rw [e]
  exact List.cons_ne_nil _ _
theorem T_len {n k : Nat} (hk : 0 < k) (h : n < 10 ^ k) : (T n).length ≤ k := toString_length_le (Int.natCast_nonneg n) hk (by exact_mod_cast h)
theorem int_zT {n : Nat} (h : (T n).length ≤ 4000) : PySem.intText? (("0" : Str) ++ T n) = some (n : Int) := by
  have e : (("0" : Str) ++ T n).cps.toList = 48 :: (T n).cps.toList := by rw [cat_list]; rfl
  have l : (("0" : Str) ++ T n).length = 1 + (T n).length := by
    have := congrArg List.length e
    rw [List.length_cons, Array.length_toList, Array.length_toList] at this
    show (("0" : Str) ++ T n).cps.size = 1 + (T n).cps.size
    omega
  have hd : NumText.AllDigits (("0" : Str) ++ T n).cps.toList := by
    rw [e]
    intro c hc
    rcases List.mem_cons.mp hc with rfl | hc
    · exact ⟨by decide, by decide⟩
    · exact T_dg n c hc
  rw [intText_digits hd (by rw [e]; exact List.cons_ne_nil _ _) (by omega), e, NumText.digitsVal_zero, T_val]
theorem cut_all {z : Str} : cutS z none (some (z.length : Int)) = z := by
  refine str_ext ?_
  show ((z.cps.toList.drop 0).take (HT.sIx z.length z.length (some ((z.length : Nat) : Int)) - 0)) = _
  rw [HT.sIx_nat, List.drop_zero, List.take_of_length_le]
  rw [Array.length_toList, Nat.min_self]
  exact Nat.le_refl _
end L2.Jk

set_option Elab.async false
set_option linter.all false
set_option maxRecDepth 100000
set_option maxHeartbeats 4000000
/-! list < list, of whole numbers. -/
namespace L2.Jk
open PySem PySem.W PySem.Spec PySem.Calls PyProof.Rows L2
def rLtL (K : Frag) : R2 := fun x y H Q => ∃ a b ns ms, x = .ref a ∧ y = .ref b ∧ SqL K H a (ns.map V.int) ∧ SqL K H b (ms.map V.int) ∧ Q (.bl (listLt ns ms)) H
theorem dp_ints {K : Frag} {H : Hp} : ∀ ns : List Int, DpAll K H (ns.map V.int) (ns.map PyData.int)
  | [] => .nil
  | n :: ns => .cons (.int n) (dp_ints ns)
theorem op_ltL {X : Cx} (hu : X.A.units + 64 < cLine) : OpR X (compareOp .Lt) (rLtL X.K) := by
  intro pins s σ H x y v u Q I rx ry h
  obtain ⟨a, b, ns, ms, rfl, rfl, ha, hb, q⟩ := h
  obtain ⟨as, r1⟩ := Dp.reads I (.list (ns.map PyData.int)) _ v (.lst ha (dp_ints ns)) rx
  obtain ⟨bs, r2⟩ := Dp.reads I (.list (ms.map PyData.int)) _ u (.lst hb (dp_ints ms)) ry
  exact PySem.W.lt_datum (x := ns) (y := ms) ⟨as, r1⟩ ⟨bs, r2⟩ (by
    have : Datum.depth (List Int) ≤ 64 := by decide
    omega) ⟨.bl (listLt ns ms), H, I, rfl, q⟩
/-! tuples: a slice, a sum, told by their items -/
def rSlTS : V → Option Int → Option Int → Hp → VK → Prop := fun x lo hi H Q => ∃ a xs, x = .ref a ∧ H a = some (.tup xs) ∧ ∀ p H', (∀ b o, H b = some o → H' b = some o) → H' p = some (.tup (cutV xs lo hi)) → Q (.ref p) H'
theorem sl_tupTS {X : Cx} : SlR X rSlTS := by
  intro pins s σ H x v vl vu lo hi sl Q I rx hs pl pu h
  obtain ⟨a, xs, rfl, hx, q⟩ := h
  refine sl_tupA pins s σ H _ v vl vu lo hi sl Q I rx hs pl pu ⟨a, xs, rfl, SqT.of hx, fun hw => q a H (fun _ _ e => e) ?_, fun hw p hp => q p _ (fun b o e => ?_) upd_same⟩
  · have e : cutV xs lo hi = xs := by
      unfold cutV
      rw [hw.1, hw.2, List.drop_zero, Nat.sub_zero, List.take_length]
    rw [e]
    exact hx
  · rw [upd_ne (ne_of_none e hp)]
    exact e
def rCatTS : R2 := fun x y H Q => ∃ a b xs ys, x = .ref a ∧ y = .ref b ∧ H a = some (.tup xs) ∧ H b = some (.tup ys) ∧ xs.length + ys.length ≤ sizeLine ∧ ∀ p H', (∀ b o, H b = some o → H' b = some o) → H' p = some (.tup (xs ++ ys)) → Q (.ref p) H'
theorem op_catTS {X : Cx} : OpR X (binaryOp .Add) rCatTS := by
  intro pins s σ H x y v u Q I rx ry h
  obtain ⟨a, b, xs, ys, rfl, rfl, ha, hb, hz, q⟩ := h
  refine op_catA pins s σ H _ _ v u Q I rx ry ⟨a, b, xs, ys, rfl, rfl, SqT.of ha, SqT.of hb, hz, fun e => q b H (fun _ _ e => e) ?_, fun _ e => q a H (fun _ _ e => e) ?_, fun _ _ p hp => q p _ (fun c o e => ?_) upd_same⟩
  · rw [e, List.nil_append]
    exact hb
  · rw [e, List.append_nil]
    exact ha
  · rw [upd_ne (ne_of_none e hp)]
    exact e
theorem call_ieK {X : Cx} {K : Frag} (h : X.K = K) : CallR X (.builtin "isinstance") (rIe K) := by
  subst h
  exact call_ie
theorem mt_indexK {X : Cx} {K : Frag} (h : X.K = K) : MtR X "list.index" (rIndex K) := by
  subst h
  exact mt_index
end L2.Jk

set_option Elab.async false
set_option linter.all false
set_option maxRecDepth 100000
set_option maxHeartbeats 4000000
/-! Numerals. -/
namespace L2.K80
open PySem PySem.W PySem.Spec PySem.Calls PyProof.Rows L2.Jk
theorem dgT (n : Nat) : dg (n : Nat) = T n := rfl
theorem T9 {n : Nat} (h : n < 1000000000) : (T n).length ≤ 9 := T_len (by decide) (by simpa using h)
theorem numTx_T {n : Nat} (h : (T n).length < 64) : numTx (T n) = ("0" : Str) ++ T n := by
  unfold numTx
  rw [Int.emod_eq_of_lt (by omega) (by omega), cut_all]
theorem numOf_T {n : Nat} (h : (T n).length < 64) : numOf (T n) = n := by
  unfold numOf
  rw [numTx_T h, int_zT (by omega)]
  rfl
theorem app_len (a b : Str) : (a ++ b).length = a.length + b.length := by
  show (a.cps ++ b.cps).size = _
  exact Array.size_append
theorem numOk_T {n : Nat} (h : (T n).length < 64) : numOk (T n) = true := by
  unfold numOk
  rw [numTx_T h, int_zT (by omega), Int.emod_eq_of_lt (by omega) (by omega), cut_all, app_len]
  have : ("0" : Str).length = 1 := rfl
  rw [decide_eq_true h, decide_eq_true (show ("0" : Str).length + (T n).length ≤ 640 by omega)]
  rfl
theorem inSG : ∀ c ∈ DG.cps.toList, 48 ≤ c ∧ c ≤ 57 := by decide +kernel
theorem dgs_in : ∀ c, 48 ≤ c → c ≤ 57 → c ∈ DG.cps.toList := by
  intro c h1 h2
  have : ∀ k ∈ List.range 10, 48 + k ∈ DG.cps.toList := by decide +kernel
  have z := this (c - 48) (List.mem_range.mpr (by omega))
  rwa [show 48 + (c - 48) = c by omega] at z
theorem made_of {t z : Str} (h : ∀ c ∈ t.cps.toList, c ∈ z.cps.toList) : madeB t z = true := by
  have go : ∀ k, k < t.length → z.cps.contains (t.cps.getD k 0) = true := fun k hk => by
    have hk : k < t.cps.size := hk
    rw [Array.contains_iff]
    have e : t.cps.getD k 0 = t.cps[k] := by simp [Array.getD, hk]
    rw [e]
    have m := h t.cps[k] (by simp)
    simpa using m
  obtain ⟨l1, l2, l3⟩ := lo_facts z.cps.contains t
  have e1 : PySem.stripLo z.cps.contains true t = t.length := by
    rcases l3 with e | e
    · exact e
    · by_cases k : PySem.stripLo z.cps.contains true t < t.length
      · rw [go _ k] at e
        cases e
      · omega
  obtain ⟨h1, h2, _⟩ := hi_facts z.cps.contains t _ l1
  refine decide_eq_true ?_
  have e2 : Txt.stripChars t z = Str.empty := by
    show Txt.stripBy _ _ _ _ = _
    rw [PyProof.Rows.stripBy_eq]
    have e3 : PySem.stripHi z.cps.contains true t (PySem.stripLo z.cps.contains true t) = t.length := by rw [e1] at h1 h2 ⊢; omega
    rw [e3, e1]
    show Str.mk (t.cps.extract t.cps.size t.cps.size) = ⟨#[]⟩
    simp
  rw [e2]
  rfl
theorem numeral_T (n : Nat) : numeralB (T n) = true := by
  obtain ⟨c, r, e, k⟩ := T_head n
  unfold numeralB
  have h1 : decide (V.str (T n) = .str "") = false := decide_eq_false fun z => by
    injection z with z
    rw [z] at e
    cases e
  have h2 : madeB (T n) DG = true := made_of fun x hx => dgs_in x (T_dg n x hx).1 (T_dg n x hx).2
  rw [h1, h2, if_neg (by decide)]
  have e0 : (T n).cps.getD 0 0 = c := by
    have z : (T n).cps = (c :: r).toArray := by rw [← e, Array.toArray_toList]
    rw [z]
    rfl
  rw [e0]
  by_cases hc : c = 48
  · rw [k hc]
    rfl
  · rw [decide_eq_false (show ¬ V.str ⟨#[c]⟩ = V.str "0" from fun z => hc (by
      injection z with z
      have z2 := congrArg (fun s : Str => s.cps.toList) z
      have z3 : [c] = [48] := z2
      injection z3)), Bool.not_false, Bool.or_true]
theorem itN {a b : Str} {A B : Prop} (h : decide (V.str a = V.str b) = false) (k : B) : if decide (V.str a = V.str b) = true then A else B := by
  rw [h]
  exact iteF k
theorem itY {a : V} {A B : Prop} (k : A) : if decide (a = a) = true then A else B := by
  rw [decide_eq_true rfl]
  exact iteT k
theorem itNn {n : Int} {A B : Prop} (k : B) : if decide (V.int n = V.non) = true then A else B := by
  rw [decide_eq_false (fun z => by cases z)]
  exact iteF k
theorem none_of {H H' : Hp} {p : Addr} (S : Same H H') (h : H' p = none) : H p = none := by
  cases e : H p with
  | none => rfl
  | some o => rw [S _ _ e] at h; cases h

theorem in_of_made {t z : Str} (h : madeB t z = true) : ∀ c ∈ t.cps.toList, c ∈ z.cps.toList := by
  have e : Txt.stripChars t z = "" := by
    have := of_decide_eq_true h
    injection this
  obtain ⟨l1, l2, l3⟩ := lo_facts z.cps.contains t
  obtain ⟨h1, h2, h3, h4⟩ := hi_facts z.cps.contains t _ l1
  have e2 : Builtin.Str.strSub t (PySem.stripLo z.cps.contains true t) (PySem.stripHi z.cps.contains true t (PySem.stripLo z.cps.contains true t)) = "" := by
    rw [← PyProof.Rows.stripBy_eq]
    exact e
  have e3 := StrLaws.sub_len t (PySem.stripLo z.cps.contains true t) _ h2
  rw [e2] at e3
  have e4 : ("" : Str).length = 0 := rfl
  have all : ∀ k, k < t.length → z.cps.contains (t.cps.getD k 0) = true := fun k hk => by
    by_cases q : k < PySem.stripLo z.cps.contains true t
    · exact l2 k q
    · exact h3 k (by omega) hk
  intro c hc
  obtain ⟨k, hk⟩ := List.mem_iff_getElem?.mp hc
  have hk2 : k < t.length := by
    have := (List.getElem?_eq_some_iff.mp hk).1
    rw [Array.length_toList] at this
    exact this
  have a := all k hk2
  rw [StrLaws.getD_of_getElem? hk, Array.contains_iff] at a
  simpa using a
theorem made_iff {t z : Str} : madeB t z = true ↔ ∀ c ∈ t.cps.toList, c ∈ z.cps.toList := ⟨in_of_made, made_of⟩
theorem dg_lt : ∀ c ∈ DG.cps.toList, 48 ≤ c ∧ c ≤ 57 := by decide +kernel
/-- a numeral is the text of a number -/
theorem numeral_is {t : Str} (h : numeralB t = true) : ∃ n : Nat, t = T n := by
  unfold numeralB at h
  split at h
  · cases h
  · rename_i c
    have c1 : t ≠ "" := fun z => c (by rw [z]; rfl)
    have c2 : madeB t DG = true := by
      cases q : madeB t DG with
      | true => rfl
      | false => exact absurd (by rw [q]; simp) c
    have hd : NumText.AllDigits t.cps.toList := fun x hx => dg_lt x (in_of_made c2 x hx)
    have hne : t.cps.toList ≠ [] := fun z => c1 (str_ext z)
    cases e : t.cps.toList with
    | nil => exact absurd e hne
    | cons x r =>
      have h0 : t.cps.getD 0 0 = x := StrLaws.getD_of_getElem? (by rw [e]; rfl)
      have hz : r.length = 0 ∨ 49 ≤ x := by
        rcases Bool.or_eq_true_iff.mp h with h | h
        · have h : V.str t = V.str "0" := of_decide_eq_true h
          injection h with h
          rw [h] at e
          cases e
          exact .inl rfl
        · rw [h0] at h
          refine .inr ?_
          have h5 := (hd x (by rw [e]; exact List.mem_cons_self ..)).1
          have : x ≠ 48 := fun z => by rw [z] at h; exact absurd h (by decide +kernel)
          omega
      refine ⟨NumText.digitsVal t.cps.toList, str_ext ?_⟩
      rw [T_list, NumText.toDigits_digitsVal r.length t.cps.toList (by rw [e]; rfl) hd (by rcases hz with z | z; exact .inl z; exact .inr ⟨x, r, e, z⟩), List.map_map]
      have z : ∀ k ∈ List.range 58, (Char.ofNat k).toNat = k := by decide
      have m : t.cps.toList.map (Char.toNat ∘ Char.ofNat) = t.cps.toList.map id := List.map_congr_left fun c hc => z c (List.mem_range.mpr (by have := hd c hc; omega))
      rw [m, List.map_id]
theorem T_length (n : Nat) : (T n).length = (Nat.toDigits 10 n).length := by
  have := congrArg List.length (T_list n)
  rw [Array.length_toList, List.length_map] at this
  exact this
theorem T_len_ge {n k : Nat} (h : 10 ^ k ≤ n) : k + 1 ≤ (T n).length := by rw [T_length]; exact digits10_ge h
theorem T_lt {n k : Nat} (hk : 0 < k) : (T n).length ≤ k ↔ n < 10 ^ k := ⟨fun h => by
  rcases Nat.lt_or_ge n (10 ^ k) with z | z
  · exact z
  · have := T_len_ge z; omega, fun h => T_len hk h⟩
theorem T_inj {n m : Nat} (h : T n = T m) : n = m := by rw [← T_val n, ← T_val m, h]
section
variable {P : Program} {w : World} {K : Frag} {mg : Str → Option Value} {base : Heap} {f : Addr} {fd : FuncData}
abbrev s_is_numeral : Stmt := top 16
theorem sc_is_numeral : FnScope ["text"] ["text"] (defScope s_is_numeral) := ⟨rfl, rfl, rfl, by decide +kernel, rfl, by decide +kernel, by decide +kernel⟩

theorem ok_is_numeral (F : FunD K "is_numeral" "is_numeral" (defArgs s_is_numeral) (defBody s_is_numeral) (defScope s_is_numeral) [] [] f fd) (G : G1 P w K mg base) : FnOk P w K mg base CX0 2 f fd ["text"] spNumeral := by
  refine F.ok (CX := CX0) sc_is_numeral (fun vs H Q E h => ?_) (fun cdv A outer s H vs Q E hr h => ?_)
  · obtain ⟨t, rfl, _⟩ := h
    rfl
  · refine ⟨_, PSs.nox (pss_cons (ps_if (PW.pt (pw_or (pt_cmpR op_eq (pv 0) pe_str (nomark _)) (pw_or1 (pt_not (pt_val (pe_fn G.is_made_of hr pass0 (by rfl) (pa_cons (pv 0) (pa_cons (pe_sg G.dgs) pa_nil))))))))
      (pss_one (ps_ret pe_bl))
      pss_nil)
    (pss_one (ps_ret (pe_or (pe_cmpR op_eq (pv 0) pe_str (nomark _)) (pe_one (pe_cmpR op_ne (pe_ix ix_str (pv 0) pe_int (fun _ _ => rfl)) pe_str (nomark _))))))), ?_⟩
    obtain ⟨t, rfl, hz, q⟩ := h
    refine ⟨_, rfl, rfl, _, rfl, ?_⟩
    have no : (decide (V.str t = .str "") || !madeB t DG) = true → Q (.bl false) H := fun e => by
      have r : numeralB t = false := by unfold numeralB; rw [if_pos e]
      rw [r] at q
      exact q
    refine ite2 (fun h1 => iteT (no (by rw [h1]; rfl))) (fun h1 => ?_)
    refine ⟨_, rfl, t, DG, rfl, Nat.le_trans hz (by decide), _, rfl, ?_⟩
    show if (!madeB t DG) = true then _ else _
    refine ite2 (fun h2 => no (by rw [h2, Bool.or_true])) (fun h2 => ?_)
    have r : numeralB t = (decide (V.str t = .str "0") || !decide (V.str ⟨#[t.cps.getD 0 0]⟩ = .str "0")) := by
      unfold numeralB
      rw [if_neg (by rw [Bool.eq_false_iff.mpr h1, Bool.eq_false_iff.mpr h2]; exact Bool.false_ne_true)]
    rw [r] at q
    refine ⟨_, rfl, rfl, _, rfl, ?_⟩
    refine ite2 (fun h3 => ?_) (fun h3 => ?_)
    · rw [h3] at q
      exact q
    · rw [Bool.eq_false_iff.mpr h3] at q
      have hp : 0 < t.cps.toList.length := by
        cases e : t.cps.toList with
        | nil => exact absurd (decide_eq_true (by
            have e2 : t.cps = #[] := by rw [← Array.toArray_toList (xs := t.cps), e]
            show V.str t = V.str ⟨#[]⟩
            exact congrArg V.str (by cases t; exact congrArg Str.mk e2))) h1
        | cons x xs => exact Nat.zero_lt_succ _
      refine ⟨_, rfl, t, 0, t.cps.getD 0 0, rfl, rfl, small_line t (Nat.le_trans hz (by decide)), atI_nat (j := 0) ?_, rfl, ?_⟩
      · cases e : t.cps.toList with
        | nil => rw [e] at hp; exact absurd hp (Nat.lt_irrefl _)
        | cons x xs =>
          show some x = some (t.cps.getD 0 0)
          have e2 : t.cps = (x :: xs).toArray := by rw [← Array.toArray_toList (xs := t.cps), e]
          rw [e2]
          rfl
      · exact q

end
end L2.K80

set_option Elab.async false
set_option linter.all false
set_option maxRecDepth 100000
set_option maxHeartbeats 4000000
/-! Values as words. -/
namespace L2.K80
open PySem PySem.W PySem.Spec PySem.Calls PyProof.Rows L2.Jk
def vw : V → Str
  | .non => "="
  | .int i => dg i
  | .str z => z
  | _ => ""
def VwOk (v : V) : Prop := v = .non ∨ (∃ n : Nat, v = .int (n : Nat) ∧ n < 1000000000000) ∨ ∃ z : Str, v = .str z ∧ z.length ≤ 900
theorem vw_len {v : V} (h : VwOk v) : (vw v).length ≤ 900 := by
  rcases h with rfl | ⟨n, rfl, h⟩ | ⟨z, rfl, h⟩
  · decide
  · exact Nat.le_trans (dg_len12 h) (by decide)
  · exact h
def spVw : Sp := fun vs H Q _ => ∃ v : V, vs = [v] ∧ VwOk v ∧ ∀ H', Same H H' → Q (.str (vw v)) H'
def PD.isW (t : Str) : PD → Bool
  | .number l m => numeralB t && PD.hasV (.int (numOf t)) (.number l m)
  | .fixed u => numeralB t && PD.hasV (.int (numOf t)) (.fixed u)
  | d => d.hasV (.str t)
def PD.valW (t : Str) : PD → V
  | .number _ _ => .int (numOf t)
  | .fixed _ => .int (numOf t)
  | _ => .str t
def FD.isW (t : Str) : FD → Bool
  | .pl d => d.isW t
  | .mk _ _ d => decide (V.str t = V.str "=") || d.isW t
def FD.valW (t : Str) : FD → V
  | .pl d => d.valW t
  | .mk _ _ d => if decide (V.str t = V.str "=") = true then .non else d.valW t
def FD.dep : FD → Nat
  | .pl _ => 0
  | .mk .. => 1
theorem FD.dep_lt : ∀ d : FD, d.dep < 2
  | .pl _ => by show 0 < 2; decide
  | .mk .. => by show 1 < 2; decide
def spIvw (K : Frag) (n : Nat) : Sp := fun vs H Q _ => ∃ (y : Addr) (t : Str) (d : FD), vs = [.ref y, .str t] ∧ FdAt K H y d ∧ t.length ≤ 60 ∧ d.dep < n ∧ ∀ H', Same H H' → Q (.bl (d.isW t)) H'
def spVin (K : Frag) (n : Nat) : Sp := fun vs H Q _ => ∃ (y : Addr) (t : Str) (d : FD), vs = [.ref y, .str t] ∧ FdAt K H y d ∧ t.length ≤ 60 ∧ d.isW t = true ∧ d.dep < n ∧ ∀ H', Same H H' → Q (d.valW t) H'
theorem numOk_of {t : Str} (h : numeralB t = true) (hl : t.length ≤ 60) : numOk t = true := by
  obtain ⟨n, rfl⟩ := numeral_is h
  exact numOk_T (by omega)
theorem itSn {n : Str} {A B : Prop} (k : B) : if decide (V.str n = V.non) = true then A else B := by
  rw [decide_eq_false (fun z => by cases z)]
  exact iteF k
theorem itYv {a : V} {A B : Prop} (k : A) : if decide (a = a) = true then A else B := by
  rw [decide_eq_true rfl]
  exact iteT k
structure W1 (P : Program) (w : World) (K : Frag) (mg : Str → Option Value) (base : Heap) : Prop extends P8 P w K mg base where
  is_numeral : FnAt P w K mg base CX0 2 "is_numeral" ["text"] spNumeral
section
variable {P : Program} {w : World} {K : Frag} {mg : Str → Option Value} {base : Heap} {f : Addr} {fd : FuncData}

abbrev s_value_word : Stmt := top 40
theorem sc_value_word : FnScope ["value"] ["value"] (defScope s_value_word) := ⟨rfl, rfl, rfl, by decide +kernel, rfl, by decide +kernel, by decide +kernel⟩

theorem ok_value_word (F : FunD K "value_word" "value_word" (defArgs s_value_word) (defBody s_value_word) (defScope s_value_word) [] [] f fd) (G : W1 P w K mg base) : FnOk P w K mg base CX0 2 f fd ["value"] spVw := by
  refine F.ok (CX := CX0) sc_value_word (fun vs H Q E h => ?_) (fun cdv A outer s H vs Q E hr h => ?_)
  · obtain ⟨_, rfl, _⟩ := h
    rfl
  · refine ⟨_, PSs.nox (pss_cons (ps_if (pt_cmpR op_isN (pv 0) pe_non (nomark _))
      (pss_one (ps_ret pe_str))
      pss_nil)
    (pss_one (ps_ret (pe_ifExp (pt_val (pe_callB call_ie (by rfl) G.isinstance (by decide +kernel) (pa_cons (pv 0) (pa_cons (pe_bty (n := "int") (by rfl) G.int (by decide +kernel)) pa_nil)))) (pe_fn G.digits_of hr pass0 (by rfl) (pa_cons (pv 0) pa_nil)) (pv 0))))), ?_⟩
    obtain ⟨v, rfl, hv, q⟩ := h
    rcases hv with rfl | ⟨n, rfl, h⟩ | ⟨z, rfl, h⟩
    · exact ⟨_, rfl, rfl, _, rfl, itYv (q H (Same.refl _))⟩
    · exact ⟨_, rfl, rfl, _, rfl, itNn ⟨_, rfl, _, _, _, _, _, rfl, .ty _, flat_ty (v := .int _) rfl, (show kitOne K (.type "int") (.type "int") = some true from kit_ty (by decide +kernel)), _, rfl, iteT ⟨_, rfl, n, rfl, by omega, by omega, q⟩⟩⟩
    · exact ⟨_, rfl, rfl, _, rfl, itSn ⟨_, rfl, _, _, _, _, _, rfl, .ty _, flat_ty (v := .str _) rfl, (show kitOne K (.type "str") (.type "int") = some false from kit_ty (by decide +kernel)), _, rfl, iteF ⟨_, rfl, q H (Same.refl _)⟩⟩⟩

abbrev s_is_value_word : Stmt := top 43
theorem sc_is_value_word : FnScope ["field", "word"] ["field", "word"] (defScope s_is_value_word) := ⟨rfl, rfl, rfl, by decide +kernel, rfl, by decide +kernel, by decide +kernel⟩

theorem ok_is_value_word (F : FunD K "is_value_word" "is_value_word" (defArgs s_is_value_word) (defBody s_is_value_word) (defScope s_is_value_word) [] [] f fd) {n : Nat} (G : W1 P w K mg base) (AM : FnAt P w K mg base CX0 (n + 4) "is_value_word" ["field", "word"] (spIvw K n)) : FnOk P w K mg base CX0 (n + 4 + 1) f fd ["field", "word"] (spIvw K (n + 1)) := by
  refine F.ok (CX := CX0) sc_is_value_word (fun vs H Q E h => ?_) (fun cdv A outer s H vs Q E hr h => ?_)
  · obtain ⟨_, _, _, rfl, _⟩ := h
    rfl
  · refine ⟨_, PSs.nox (pss_cons (ps_if (pt_val (pe_callB (call_ieK (K := K) rfl) (by rfl) G.isinstance (by decide +kernel) (pa_cons (pv 0) (pa_cons (pe_gref (by rfl) G.cMarked.mgC) pa_nil))))
      (pss_one (ps_ret (pe_or (pe_cmpR op_eq (pv 1) pe_str (nomark _)) (pe_one (pe_fn AM hr pass0 (by rfl) (pa_cons (pe_fld (pv 0) rfl) (pa_cons (pv 1) pa_nil)))))))
      pss_nil)
    (pss_cons (ps_if (pt_val (pe_callB call_ieT (by rfl) G.isinstance (by decide +kernel) (pa_cons (pv 0) (pa_cons (pe_tupS (pa_cons (pe_gref (by rfl) G.cNumber.mgC) (pa_cons (pe_gref (by rfl) G.cFixed.mgC) pa_nil))) pa_nil))))
      (pss_one (ps_ret (pe_and (pe_fn G.is_numeral (hr.mono (by omega)) pass0 (by rfl) (pa_cons (pv 1) pa_nil)) (pe_one (pe_methD (CX := CX0) (pv 0) pass0 (pa_cons (pe_fn G.number_of (hr.mono (by omega)) pass0 (by rfl) (pa_cons (pv 1) pa_nil)) pa_nil))))))
      pss_nil)
    (pss_one (ps_ret (pe_methD (CX := CX0) (pv 0) pass0 (pa_cons (pv 1) pa_nil)))))), ?_⟩
    obtain ⟨y, t, d, rfl, hF, hl, hdep, q⟩ := h
    have hr4 : Room 4 _ := hr.mono (by omega)
    cases d with
    | mk nn mm d =>
      obtain ⟨⟨dx, y2, ha, hF2⟩, h1, h2, _, _⟩ := id hF
      refine ⟨_, rfl, _, _, _, _, _, rfl, .own _, G.ty (i := 5) (by decide) ha, G.kit 5 5 (by decide) (by decide), _, rfl, iteT ?_⟩
      refine ⟨_, rfl, rfl, _, rfl, ?_⟩
      have r : FD.isW t (.mk nn mm d) = (decide (V.str t = V.str "=") || d.isW t) := rfl
      rw [r] at q
      refine ite2 (fun c => ?_) (fun c => ?_)
      · rw [c] at q
        exact q H (Same.refl _)
      · rw [Bool.eq_false_iff.mpr c] at q
        exact ⟨_, rfl, y, _, dx, _, _, rfl, ha, G.cMarked.cl, G.cMarked.no _ (by decide +kernel), lMarked_field, _, rfl, y2, t, .pl d, rfl, ⟨hF2, h1, h2⟩, hl, Nat.lt_of_succ_lt_succ hdep, fun H' S => q H' S⟩
    | pl d =>
    obtain ⟨hF0, h1, h2⟩ := id hF
    obtain ⟨dx0, fs0, ha0, _⟩ := hF0.ins
    have hlt := d.ci_lt
    refine ⟨_, rfl, _, _, _, _, _, rfl, .own _, G.ty (by omega) ha0, G.kit d.ci 5 (by omega) (by decide), _, rfl, ?_⟩
    rw [decide_eq_false (show ¬ d.ci = 5 by omega)]
    refine iteF ?_
    refine ⟨_, rfl, by show 2 ≤ 1000; decide, fun p0 H0 hp0 S0 e0 => ?_⟩
    have ha1 := S0 _ _ ha0
    have hF1 := hF.same S0
    obtain ⟨sp, M, Hs⟩ := G.hv5 hF1
    obtain ⟨fde, Fe, Be⟩ := M.ok
    obtain ⟨dx, fs, hi, hno⟩ := hF1.ins (g := "has_value") (by decide +kernel)
    have kk : ∀ b : Bool, (b = true ↔ d.ci = 1 ∨ d.ci = 2) → kitAny K (.ref (ca K d.ci)) [.ref (ca K 1), .ref (ca K 2)] = some b := fun b hb => by
      have k1 := G.kit d.ci 1 (by omega) (by decide)
      have k2 := G.kit d.ci 2 (by omega) (by decide)
      by_cases c1 : d.ci = 1
      · rw [hb.mpr (.inl c1)]
        exact kitAny_cons (b := true) (by rw [k1, decide_eq_true c1]) (fun z => nomatch z) (fun _ => rfl)
      · by_cases c2 : d.ci = 2
        · rw [hb.mpr (.inr c2)]
          exact kitAny_cons (b := false) (by rw [k1, decide_eq_false c1]) (fun _ => kitAny_cons (b := true) (by rw [k2, decide_eq_true c2]) (fun z => nomatch z) (fun _ => rfl)) (fun z => nomatch z)
        · have : b = false := Bool.eq_false_iff.mpr fun z => by rcases hb.mp z with z | z; exact c1 z; exact c2 z
          rw [this]
          exact kitAny_cons (b := false) (by rw [k1, decide_eq_false c1]) (fun _ => kitAny_cons (b := false) (by rw [k2, decide_eq_false c2]) (fun _ => kitAny_nil) (fun z => nomatch z)) (fun z => nomatch z)
    have num : (d.ci = 1 ∨ d.ci = 2) → FD.isW t (.pl d) = (numeralB t && d.hasV (.int (numOf t))) := fun z => by
      cases d with
      | number => rfl
      | fixed => rfl
      | word => rcases z with z | z <;> cases z
      | listed => rcases z with z | z <;> cases z
      | ended => rcases z with z | z <;> cases z
    have oth : ¬ (d.ci = 1 ∨ d.ci = 2) → FD.isW t (.pl d) = d.hasV (.str t) := fun z => by
      cases d with
      | number => exact absurd (.inl rfl) z
      | fixed => exact absurd (.inr rfl) z
      | word => rfl
      | listed => rfl
      | ended => rfl
    by_cases c : d.ci = 1 ∨ d.ci = 2
    · rw [num c] at q
      refine ⟨_, p0, _, _, _, true, rfl, e0, .cons (.own _) (.cons (.own _) Paired.nil), G.ty (by omega) ha1, kk true ⟨fun _ => c, fun _ => rfl⟩, _, rfl, iteT ?_⟩
      refine ⟨_, rfl, t, rfl, by omega, _, rfl, ?_⟩
      refine ite2 (fun c2 => ?_) (fun c2 => ?_)
      · rw [c2] at q
        exact ⟨_, rfl, y, _, dx, _, fs, 4, fde, _, sp, rfl, hi, hno, G.cl _ (by show d.ci < 6; omega), M.me, Fe, hr4, Be, _, rfl, t, rfl, numOk_of c2 hl, Hs _ _ _ (.inl rfl) (by show 0 ≤ 900; decide) (q H0 S0)⟩
      · rw [Bool.eq_false_iff.mpr c2] at q
        exact q H0 S0
    · rw [oth c] at q
      refine ⟨_, p0, _, _, _, false, rfl, e0, .cons (.own _) (.cons (.own _) Paired.nil), G.ty (by omega) ha1, kk false ⟨fun z => (by cases z), fun z => absurd z c⟩, _, rfl, iteF ?_⟩
      exact ⟨_, rfl, y, _, dx, _, fs, 4, fde, _, sp, rfl, hi, hno, G.cl _ (by show d.ci < 6; omega), M.me, Fe, hr4, Be, _, rfl, Hs _ _ _ (.inl rfl) (by show t.length ≤ 900; omega) (q H0 S0)⟩

end
end L2.K80

set_option Elab.async false
set_option linter.all false
set_option maxRecDepth 100000
set_option maxHeartbeats 4000000
/-! enumerate(t), t a tuple. -/
namespace L2.Jk
open PySem PySem.W PySem.Spec PySem.Calls PyProof.Rows L2
theorem meets_enumerate_newT (l : Addr) (items : Array Value) :
    Meets (Builtin.«enumerate.__new__» ⟨[.type "enumerate", .ref l], []⟩) (fun _ R s => s.heap.IsTuple l items ∧
      R (.ok (.ret (.ref (s.heap.push { cls := .type "tuple_iterator", data := .fields #[.ref l, .int 0 0] }).objs.size)))
        { s with heap := (s.heap.push { cls := .type "tuple_iterator", data := .fields #[.ref l, .int 0 0] }).push { cls := .type "enumerate", data := .fields #[.none, .bool false, .ref s.heap.objs.size, rawInt 0, .none, .none] } }) :=
  .of_wp fun prog w A R s h => by
    obtain ⟨hp, g, d, tk, os⟩ := s; obtain ⟨hl, h⟩ := h
    have hsub := sub_enumerate
    have hL : Heap.IsTuple (Shared.heap ⟨hp, g, d, tk, os⟩) l items := hl
    wp_walk using wpAny_pyIter_tuple hL
    refine wpAny_stack_any fun st => wpAny_pure ?_
    split
    · rename_i c _ _ _ _ _
      cases (c == Value.type "enumerate")
      · wp_walk using wpAny_pyIter_tuple hL
        exact ⟨_, rfl, h⟩
      · wp_walk using wpAny_pyIter_tuple hL
        exact ⟨_, rfl, h⟩
    · wp_walk using wpAny_pyIter_tuple hL
      exact ⟨_, rfl, h⟩
section
variable {prog : Program} {w : World} {A : Around} {E : Value → Shared → Prop} {s : Shared}
theorem call_enumerate_tuple {l : Addr} {items : Array Value} {Q : Value → Shared → Prop} (hL : s.heap.IsTuple l items)
    (h : ∀ h', IsEnum h' (s.heap.objs.size + 1) s.heap.objs.size 0 .none → h'.IsTupleIter s.heap.objs.size l 0 → h'.objs.size = s.heap.objs.size + 2 →
      (∀ b o, s.heap.get? b = some o → h'.get? b = some o) → Q (.ref (s.heap.objs.size + 1)) { s with heap := h' }) :
    wpAny (model prog w) A (call (.type "enumerate") [.ref l]) Q E s := by
  refine callType_new PySem.F.called_enumerate (by decide) (PySem.F.typeCall_enumerate_1 _) (PySem.F.newCall_enumerate_1 _) (fun obj => PySem.F.args_object_init_2 obj _) PySem.F.entry_enumerate_new
    (meets_enumerate_newT l items) ⟨hL, ?_⟩
  have hz : (s.heap.push { cls := .type "tuple_iterator", data := .fields #[.ref l, .int 0 0] }).objs.size = s.heap.objs.size + 1 := Heap.size_push ..
  show _ ∧ _
  rw [hz]
  have he : IsEnum ((s.heap.push { cls := .type "tuple_iterator", data := .fields #[.ref l, .int 0 0] }).push
      { cls := .type "enumerate", data := .fields #[.none, .bool false, .ref s.heap.objs.size, rawInt 0, .none, .none] }) (s.heap.objs.size + 1) s.heap.objs.size 0 .none := by
    have := Heap.get?_push_size (s.heap.push { cls := .type "tuple_iterator", data := .fields #[.ref l, .int 0 0] })
      (o := { cls := .type "enumerate", data := .fields #[.none, .bool false, .ref s.heap.objs.size, rawInt 0, .none, .none] }) rfl
    rw [hz] at this; exact this
  refine ⟨⟨_, he, rfl⟩, h _ he ⟨_, Heap.get?_push_of_some _ (Heap.get?_push_size _ rfl), rfl, rfl⟩ (by rw [Heap.size_push, hz]) fun b o x => Heap.get?_push_of_some _ (Heap.get?_push_of_some _ x)⟩
end
/-- the tuple at a, each item in a new pair -/
def IteT (K : Frag) (a : Addr) : L2.It :=
  ⟨fun i H => ∃ (xs : List V) (x : V), SqT K H a xs ∧ xs[i]? = some x, fun i H v H' => ∃ T x, v = .ref T ∧ H T = none ∧ H' = upd H T (.tup [.int (i : Nat), x]) ∧ ∀ xs, SqT K H a xs → xs[i]? = some x, fun i H => ∃ xs : List V, SqT K H a xs ∧ xs.length = i⟩
theorem turn_enumT {P : Program} {w : World} {K : Frag} {elts : List Expr} {kk : Nat} {tpos : Pos} (a e it : Addr) (hai : a ≠ it) (hae : e ≠ a) :
    Turn P w K (.Tuple elts kk tpos) (IteT K a) [e, it] e (fun i h => (∃ old, IsEnum h e it ((i : Nat) : Int) old) ∧ h.IsTupleIter it a i ∧ e ≠ it) where
  mem := by simp
  obj := fun i h st b hb => by
    obtain ⟨⟨old, he⟩, ⟨o, ho, hc, hd⟩, _⟩ := st
    have e' : b = e ∨ b = it := by simpa using hb
    rcases e' with z | z
    · rw [z]; exact ⟨_, he, fun v q => nomatch q⟩
    · rw [z]; exact ⟨o, ho, fun v q => by rw [hd] at q; cases q⟩
  keep := fun i h h' st k => let ⟨⟨old, he⟩, hi, hne⟩ := st; ⟨⟨old, k e (by simp) _ he⟩, by
    obtain ⟨o, ho, r⟩ := hi
    exact ⟨o, k it (by simp) o ho, r⟩, hne⟩
  item := by
    intro X hP hw hK hc i pins s σ H E I hf st hg
    subst hP hw hK
    obtain ⟨⟨old, he⟩, hit, hne⟩ := st
    obtain ⟨xs, x, hq, hx⟩ := hg
    obtain ⟨its, rv, p, hz⟩ := I.tuple hq
    obtain ⟨u, hu, ru⟩ := rv.get hx
    have hel : e < s.heap.objs.size := Heap.lt_size he
    have hil : it < s.heap.objs.size := by obtain ⟨_, q, _⟩ := hit; exact Heap.lt_size q
    have D := Draws.tuple (prog := X.prog) (w := X.w) (A := X.A.in1) (I.ok.hd hc) it a hai its.toArray
    have hlen := (List.getElem?_eq_some_iff.mp hu).1
    have nea : ∀ {b : Addr}, b ≠ e → b ≠ it → b ∉ [e, it] := fun h1 h2 z => by
      rcases List.mem_cons.mp z with z | z
      · exact h1 z
      · exact h2 (List.mem_singleton.mp z)
    refine wpAny_pyNext_enum_itemC (i := i) D he ⟨hit, p⟩ (by simpa using hlen) hne (fun z => ?_) fun x2 h' tk hP ho hs' hT hsz hk => ?_
    · rcases List.mem_cons.mp z with z | z
      · exact hne z
      · exact hae (List.mem_singleton.mp z)
    have ex2 : x2 = u := by
      have z : its[i]? = some x2 := by simpa using hP
      rw [hu] at z
      exact (Option.some.inj z).symm
    subst ex2
    refine ⟨_, rfl, wpAny_letOwnedTupleGo_enum (s := { s with heap := h', toks := tk + 1 }) ho fun h'' he' sb => ?_⟩
    have hT2 : h''.get? s.heap.objs.size = some { cls := .type "tuple", data := .seq #[.int i tk, x2] } := (sb.2 _ (Nat.ne_of_gt hel)).trans hT
    have new : ObjOk X.prog X.w (upd H s.heap.objs.size (.tup [.int (i : Nat), x])) h'' s.heap.objs.size (.tup [.int (i : Nat), x]) :=
      ⟨by show 2 ≤ sizeLine; decide, [.int i tk, x2], .cons ⟨_, rfl⟩ (.cons ru .nil), ⟨_, hT2, rfl, _, rfl⟩⟩
    have I1 : Inv X pins σ (upd H s.heap.objs.size (.tup [.int (i : Nat), x])) { s with heap := h'', toks := tk + 1 } :=
      I.turnedNew (ch := [e, it]) (fun b ob hb q => (sb.2 b (fun z => hb (by simp [z]))).trans (hk b ob (fun z => hb (by simp [z])) (fun z => hb (by simp [z])) q)) hf (Nat.le_refl _) new
    refine ⟨.ref s.heap.objs.size, _, I1, rfl, ⟨_, x, rfl, I.hok.fresh (Nat.le_refl _), rfl, fun ys hy => by rw [I.tuple_inj hy hq]; exact hx⟩, ⟨⟨x2, ?_⟩, ?_, hne⟩, fun b hb => ?_⟩
    · have e1 : ((i + 1 : Nat) : Int) = (i : Int) + 1 := by omega
      rw [e1]; exact he'
    · obtain ⟨o, ho2, r⟩ := hs'.1
      exact ⟨o, (sb.2 it (Ne.symm hne)).trans ho2, r⟩
    · have hb' : b < s.heap.objs.size := by
        have e' : b = e ∨ b = it := by simpa using hb
        rcases e' with z | z
        · rw [z]; exact hel
        · rw [z]; exact hil
      rw [upd_ne (Nat.ne_of_lt hb')]
      exact (hf b hb).1
  done := by
    intro X hP hw hK hc i pins s σ H E I hf st hg
    subst hP hw hK
    obtain ⟨⟨old, he⟩, hit, hne⟩ := st
    obtain ⟨xs, hq, hx⟩ := hg
    obtain ⟨its, rv, p, hz⟩ := I.tuple hq
    obtain ⟨f0, f1, f2, f3, f4, f5⟩ := hf it (by simp)
    have hl := rv.length
    have D := Draws.tuple (prog := X.prog) (w := X.w) (A := X.A.in1) (I.ok.hd hc) it a hai its.toArray
    refine wpAny_pyNext_enum_endD D he ⟨?_, p⟩ fun h' eb => ⟨rfl, I.turned (t' := s.toks) (fun b o hb q => eb b o hb q) f0 f1 f3 f4 f5⟩
    have e1 : its.toArray.size = i := by simp; omega
    rw [e1]
    exact hit
  self := fun A i s Q E st h => let ⟨⟨_, he⟩, _⟩ := st; wpAny_pyIter_enum he h
def iEnumT (K : Frag) (ta : TA) : TI := fun σ H R => ta σ H fun vs H1 => ∃ a xs, vs = [.ref a] ∧ SqT K H1 a xs ∧ R (IteT K a) H1
theorem pi_enumT {X : Cx} {e : Expr} {ta : TA} {p pos tpos : Pos} {elts : List Expr} {kk : Nat} (hg : Gl X "enumerate") (hm : X.mg "enumerate" = none) (ha : PA X [e] ta) (hs : starEach [e] X.env = [(false, eval e X.env)] := by rfl) :
    PI X (.Tuple elts kk tpos) (.Call (.Name "enumerate" p) [e] [] pos) (iEnumT X.K ta) := by
  refine ⟨fun pins s σ H R I h => ?_⟩
  refine Call_ (ld_blt I hg hm boot_enumerate (PyProof.Rows.callWith_type1 (thn (ha.run pos pins s σ H _ I h) fun us s1 ⟨vs, H1, I1, r1, q1⟩ => ?_) hs rfl))
  obtain ⟨a, xs, ex, hq, q⟩ := q1
  subst ex
  cases r1 with
  | cons r rr =>
    cases rr
    cases r
    obtain ⟨its, rv, p', hz⟩ := I1.tuple hq
    have hal : a < s1.heap.objs.size := Z3.Sq.lt (b := false) p'
    refine call_enumerate_tuple p' fun h' he hit hsz hk => wpAny_pyIter_enum he ?_
    have I2 : Inv X pins σ H1 { s1 with heap := h' } := I1.kept (t' := s1.toks) hk
    refine ⟨s1.heap.objs.size + 1, [s1.heap.objs.size + 1, s1.heap.objs.size], _, _, H1, rfl, I2, turn_enumT a (s1.heap.objs.size + 1) s1.heap.objs.size (Nat.ne_of_lt hal) (Nat.ne_of_gt (Nat.lt_succ_of_lt hal)), ⟨⟨.none, he⟩, hit, Nat.succ_ne_self _⟩, fun b hb => ?_, q⟩
    have e' : b = s1.heap.objs.size + 1 ∨ b = s1.heap.objs.size := by simpa using hb
    have hle : s1.heap.objs.size ≤ b := by
      rcases e' with z | z
      · rw [z]; exact Nat.le_add_right _ _
      · rw [z]; exact Nat.le_refl _
    exact I1.fpOk hle (I1.hok.fresh hle)
theorem walk_enumT {K : Frag} {a : Addr} {xs : List V} : Walk (IteT K a) xs.length (fun H => SqT K H a xs) (YPair (fun i => some (.int (i : Nat))) (fun i => xs[i]?)) := by
  refine ⟨fun i _ hi q => ⟨xs, xs[i], q, by simp [hi]⟩, fun _ q => ⟨xs, q, rfl⟩, fun i H v H' _ q y => ?_⟩
  obtain ⟨T, x, h1, h2, h3, h4⟩ := y
  exact ⟨T, .int (i : Nat), x, h1, h2, h3, rfl, h4 xs q⟩
end L2.Jk

set_option Elab.async false
set_option linter.all false
set_option maxRecDepth 100000
set_option maxHeartbeats 4000000
/-! Words of rows: written and read. -/
namespace L2.K80
open PySem PySem.W PySem.Spec PySem.Calls PyProof.Rows L2.Jk
structure W2 (P : Program) (w : World) (K : Frag) (mg : Str → Option Value) (base : Heap) : Prop extends W1 P w K mg base where
  value_word : FnAt P w K mg base CX0 2 "value_word" ["value"] spVw
  check_row : FnAt P w K mg base (L2.CX P w) 5 "check_row" ["layout", "row"] (spCkR K)
  is_value_word : FnAt P w K mg base CX0 6 "is_value_word" ["field", "word"] (spIvw K 2)
  enumerate : mg "enumerate" = none
def rowT (xs : List V) : Str := Txt.join "," (xs.map vw)
/-- what a row's word is -/
def spRw (K : Frag) : Sp := fun vs H Q E => ∃ (L : Addr) (ds : List FD) (js : List Str) (v : V) (o : Option (List V)), vs = [.ref L, v] ∧ LayAt K H L ds js ∧ SeqIs K H v o ∧ RowIn H o ∧
  (rowDue ds o = none → ∀ xs, o = some xs → (∀ x ∈ xs, VwOk x) ∧ xs.length ≤ 100 ∧ ∀ H', Same H H' → Q (.str (rowT xs)) H') ∧ (∀ z, rowDue ds o = some z → RaiseE (NR K) "place" (.int z) H E)
section
variable {P : Program} {w : World} {K : Frag} {mg : Str → Option Value} {base : Heap} {f : Addr} {fd : FuncData}

abbrev s_value_in : Stmt := top 44
theorem sc_value_in : FnScope ["field", "word"] ["field", "word"] (defScope s_value_in) := ⟨rfl, rfl, rfl, by decide +kernel, rfl, by decide +kernel, by decide +kernel⟩

theorem ok_value_in (F : FunD K "value_in" "value_in" (defArgs s_value_in) (defBody s_value_in) (defScope s_value_in) [] [] f fd) {n : Nat} (G : W2 P w K mg base) (AM : FnAt P w K mg base CX0 (n + 1) "value_in" ["field", "word"] (spVin K n)) : FnOk P w K mg base CX0 (n + 1 + 1) f fd ["field", "word"] (spVin K (n + 1)) := by
  refine F.ok (CX := CX0) sc_value_in (fun vs H Q E h => ?_) (fun cdv A outer s H vs Q E hr h => ?_)
  · obtain ⟨_, _, _, rfl, _⟩ := h
    rfl
  · refine ⟨_, PSs.nox (pss_cons (ps_if (pt_val (pe_callB (call_ieK (K := K) rfl) (by rfl) G.isinstance (by decide +kernel) (pa_cons (pv 0) (pa_cons (pe_gref (by rfl) G.cMarked.mgC) pa_nil))))
      (pss_one (ps_ret (pe_ifExp (pt_cmpR op_eq (pv 1) pe_str (nomark _)) pe_non (pe_fn AM hr pass0 (by rfl) (pa_cons (pe_fld (pv 0) rfl) (pa_cons (pv 1) pa_nil))))))
      pss_nil)
    (pss_one (ps_ret (pe_ifExp (pt_val (pe_callB call_ieT (by rfl) G.isinstance (by decide +kernel) (pa_cons (pv 0) (pa_cons (pe_tupS (pa_cons (pe_gref (by rfl) G.cNumber.mgC) (pa_cons (pe_gref (by rfl) G.cFixed.mgC) pa_nil))) pa_nil)))) (pe_fn G.number_of (hr.mono (by omega)) pass0 (by rfl) (pa_cons (pv 1) pa_nil)) (pv 1))))), ?_⟩
    obtain ⟨y, t, d, rfl, hF, hl, hw, hdep, q⟩ := h
    cases d with
    | mk nn mm d =>
      obtain ⟨⟨dx, y2, ha, hF2⟩, h1, h2, _, _⟩ := id hF
      refine ⟨_, rfl, _, _, _, _, _, rfl, .own _, G.ty (i := 5) (by decide) ha, G.kit 5 5 (by decide) (by decide), _, rfl, iteT ?_⟩
      refine ⟨_, rfl, rfl, _, rfl, ?_⟩
      have r : FD.valW t (.mk nn mm d) = if decide (V.str t = V.str "=") = true then .non else d.valW t := rfl
      have rw_ : FD.isW t (.mk nn mm d) = (decide (V.str t = V.str "=") || d.isW t) := rfl
      rw [r] at q
      rw [rw_] at hw
      refine ite2 (fun c => ?_) (fun c => ?_)
      · rw [if_pos c] at q
        exact q H (Same.refl _)
      · rw [if_neg c] at q
        rw [Bool.eq_false_iff.mpr c, Bool.false_or] at hw
        exact ⟨_, rfl, y, _, dx, _, _, rfl, ha, G.cMarked.cl, G.cMarked.no _ (by decide +kernel), lMarked_field, _, rfl, y2, t, .pl d, rfl, ⟨hF2, h1, h2⟩, hl, hw, Nat.lt_of_succ_lt_succ hdep, fun H' S => q H' S⟩
    | pl d =>
    obtain ⟨hF0, h1, h2⟩ := id hF
    obtain ⟨dx0, fs0, ha0, _⟩ := hF0.ins
    have hlt := d.ci_lt
    refine ⟨_, rfl, _, _, _, _, _, rfl, .own _, G.ty (by omega) ha0, G.kit d.ci 5 (by omega) (by decide), _, rfl, ?_⟩
    rw [decide_eq_false (show ¬ d.ci = 5 by omega)]
    refine iteF ?_
    refine ⟨_, rfl, by show 2 ≤ 1000; decide, fun p0 H0 hp0 S0 e0 => ?_⟩
    have ha1 := S0 _ _ ha0
    have k1 := G.kit d.ci 1 (by omega) (by decide)
    have k2 := G.kit d.ci 2 (by omega) (by decide)
    cases d with
    | word s l m =>
      exact ⟨_, p0, _, _, _, false, rfl, e0, .cons (.own _) (.cons (.own _) Paired.nil), G.ty (i := 0) (by decide) ha1, kitAny_cons (b := false) k1 (fun _ => kitAny_cons (b := false) k2 (fun _ => kitAny_nil) (fun z => nomatch z)) (fun z => nomatch z), _, rfl, iteF ⟨_, rfl, q H0 S0⟩⟩
    | number l m =>
      have hn : numeralB t = true := (Bool.and_eq_true_iff.mp hw).1
      exact ⟨_, p0, _, _, _, true, rfl, e0, .cons (.own _) (.cons (.own _) Paired.nil), G.ty (i := 1) (by decide) ha1, kitAny_cons (b := true) k1 (fun z => nomatch z) (fun _ => rfl), _, rfl, iteT ⟨_, rfl, t, rfl, numOk_of hn hl, q H0 S0⟩⟩
    | fixed u =>
      have hn : numeralB t = true := (Bool.and_eq_true_iff.mp hw).1
      exact ⟨_, p0, _, _, _, true, rfl, e0, .cons (.own _) (.cons (.own _) Paired.nil), G.ty (i := 2) (by decide) ha1, kitAny_cons (b := false) k1 (fun _ => kitAny_cons (b := true) k2 (fun z => nomatch z) (fun _ => rfl)) (fun z => nomatch z), _, rfl, iteT ⟨_, rfl, t, rfl, numOk_of hn hl, q H0 S0⟩⟩
    | listed x =>
      exact ⟨_, p0, _, _, _, false, rfl, e0, .cons (.own _) (.cons (.own _) Paired.nil), G.ty (i := 3) (by decide) ha1, kitAny_cons (b := false) k1 (fun _ => kitAny_cons (b := false) k2 (fun _ => kitAny_nil) (fun z => nomatch z)) (fun z => nomatch z), _, rfl, iteF ⟨_, rfl, q H0 S0⟩⟩
    | ended s e l m =>
      exact ⟨_, p0, _, _, _, false, rfl, e0, .cons (.own _) (.cons (.own _) Paired.nil), G.ty (i := 4) (by decide) ha1, kitAny_cons (b := false) k1 (fun _ => kitAny_cons (b := false) k2 (fun _ => kitAny_nil) (fun z => nomatch z)) (fun z => nomatch z), _, rfl, iteF ⟨_, rfl, q H0 S0⟩⟩

abbrev s_row_word : Stmt := top 39
theorem sc_row_word : FnScope ["layout", "row", "value"] ["layout", "row"] (defScope s_row_word) := ⟨rfl, rfl, rfl, by decide +kernel, rfl, by decide +kernel, by decide +kernel⟩

theorem ok_row_word (F : FunD K "row_word" "row_word" (defArgs s_row_word) (defBody s_row_word) (defScope s_row_word) [] [] f fd) (G : W2 P w K mg base) : FnOk P w K mg base (L2.CX P w) 6 f fd ["layout", "row"] (spRw K) := by
  refine F.ok (CX := (L2.CX P w)) sc_row_word (fun vs H Q E h => ?_) (fun cdv A outer s H vs Q E hr h => ?_)
  · obtain ⟨_, _, _, _, _, rfl, _⟩ := h
    rfl
  · refine ⟨_, (pss_cons (ps_expr (pe_fnS G.check_row hr (fun σ => passAt (takes_of rfl rfl rfl rfl) σ) (by rfl) (pa_cons (pv 0) (pa_cons (pv 1) pa_nil))))
    (pss_one (ps_ret (pe_join pe_str (pe_lc (own := [("value", 2)]) (g := gName 2) (tt := tYes) rfl sc_row_word.nd (pi_or (pi_list (pv 1)) (pi_tup (pv 1))) (blkOk_by (N := ["layout", "row", "value"]) (sc := defScope s_row_word) (by decide +kernel)) (fun _ _ _ _ _ => pg_name (i := 2) sc_row_word.nd rfl (Or.inl rfl)) (fun _ _ _ _ _ => pts_nil) (fun _ _ _ _ _ => (pe_fn G.value_word (hr.mono (by decide)) pass0 (by rfl) (pa_cons (pv 2) pa_nil)))))))), ?_⟩
    obtain ⟨L, ds, js, v, o, rfl, hLy, hS, hR, q1, q2⟩ := h
    refine ⟨_, rfl, _, rfl, L, ds, js, v, o, rfl, hLy, hS, hR, fun hd H0 S0 => ?_, fun z hz => q2 z hz⟩
    cases o with
    | none => cases hd
    | some xs =>
    obtain ⟨hv, hxl, q⟩ := q1 hd xs rfl
    obtain ⟨p, b, rfl, hsq, hor⟩ := (hS.same S0).sqb
    have turn : ∀ (D i : Nat) (x : V) (J : Hp), xs[i]? = some x → LcP H0 D (fun n => ((xs.take n).map vw).map V.str) i J → ∀ J4, Same J J4 → ∃ acc, J4 D = some (.lst acc) ∧ acc.length < sizeLine ∧ LcP H0 D (fun n => ((xs.take n).map vw).map V.str) (i + 1) (upd J4 D (.lst (acc ++ [.str (vw x)]))) := fun D i x J hx pJ J4 S4 => by
      have hi := (List.getElem?_eq_some_iff.mp hx).1
      exact pJ.put S4 (by rw [List.take_add_one, hx, List.map_append, List.map_append]; rfl) (by omega)
    have fin : ∀ (D : Addr) (J : Hp), LcP H0 D (fun n => ((xs.take n).map vw).map V.str) xs.length J → Same H0 J ∧ J D = some (.lst ((xs.map vw).map V.str)) := fun D J h => by
      obtain ⟨S1, _, eJ, _⟩ := h
      dsimp only at eJ
      rw [List.take_length] at eJ
      exact ⟨S1, eJ⟩
    have sum : ((xs.map vw).map (·.length)).sum + (xs.map vw).length * ("," : Str).length ≤ 16777216 := by
      have k : ∀ us : List V, (∀ x ∈ us, VwOk x) → ((us.map vw).map (·.length)).sum ≤ us.length * 900 := fun us => by
        induction us with
        | nil => intro _; exact Nat.le_refl _
        | cons u us ih =>
          intro h
          have a := ih fun t ht => h t (List.mem_cons_of_mem _ ht)
          have b := vw_len (h u (List.mem_cons_self ..))
          rw [List.map_cons, List.map_cons, List.sum_cons, List.length_cons, Nat.succ_mul]
          omega
      have a := k xs hv
      have e1 : ("," : Str).length = 1 := rfl
      rw [List.length_map, e1]
      omega
    rcases hor with hl | hl
    · refine ⟨⟨_, rfl⟩, .inl ⟨_, rfl, p, rfl, ⟨_, hl⟩, fun D hD => ?_⟩⟩
      refine lc_list (K := K) (a := p) (xs := xs) (LcP H0 D fun n => ((xs.take n).map vw).map V.str) (LcP.start hD rfl) (fun i J hi pJ => pJ.1.seq hl) ?_ ?_
      · intro i x J hx pJ
        exact ⟨rfl, _, rfl, x, rfl, hv x (List.mem_of_getElem? hx), fun J4 S4 => turn D i x J hx pJ J4 S4⟩
      · rintro J pJ
        obtain ⟨S1, eJ⟩ := fin D J pJ
        exact ⟨",", D, xs.map vw, rfl, rfl, .inl (SqL.of eJ), sum, q J (S0.trans S1)⟩
    · refine ⟨⟨_, rfl⟩, .inr ⟨_, rfl, p, rfl, ⟨_, hl⟩, fun D hD => ?_⟩⟩
      refine lc_tup (K := K) (a := p) (xs := xs) (LcP H0 D fun n => ((xs.take n).map vw).map V.str) (LcP.start hD rfl) (fun i J hi pJ => Z3.seqT_same pJ.1 hl) ?_ ?_
      · intro i x J hx pJ
        exact ⟨rfl, _, rfl, x, rfl, hv x (List.mem_of_getElem? hx), fun J4 S4 => turn D i x J hx pJ J4 S4⟩
      · rintro J pJ
        obtain ⟨S1, eJ⟩ := fin D J pJ
        exact ⟨",", D, xs.map vw, rfl, rfl, .inl (SqL.of eJ), sum, q J (S0.trans S1)⟩

end
end L2.K80

set_option Elab.async false
set_option linter.all false
set_option maxRecDepth 100000
set_option maxHeartbeats 4000000
/-! Rows read. -/
namespace L2.K80
open PySem PySem.W PySem.Spec PySem.Calls PyProof.Rows L2.Jk
structure W3 (P : Program) (w : World) (K : Frag) (mg : Str → Option Value) (base : Heap) : Prop extends W2 P w K mg base where
  value_in : FnAt P w K mg base CX0 3 "value_in" ["field", "word"] (spVin K 2)
def rvBad (ds : List FD) (ps : List Str) (i : Nat) : Bool := match ps[i]? with
  | none => false
  | some p => match ds[i]? with
    | none => true
    | some d => !d.isW p
def rvDue (ds : List FD) (ps : List Str) : Option Nat := (List.range ps.length).find? (rvBad ds ps)
def rvVals (ds : List FD) (ps : List Str) : List V := List.zipWith (fun d p => FD.valW p d) ds ps
structure PsOk (t : Str) (ps : List Str) : Prop where
  is : Txt.split t "," = ps
  len : ∀ p ∈ ps, p.length ≤ 60
  few : ps.length ≤ 200
  tl : t.length ≤ 20000
def spRv (K : Frag) : Sp := fun vs H Q E => ∃ (L : Addr) (ds : List FD) (js : List Str) (v : V), vs = [.ref L, v] ∧ LayAt K H L ds js ∧ Thg H v ∧
  (∀ t, v = .str t → ∃ ps, PsOk t ps ∧ (rvDue ds ps = none → ∀ r H', Same H H' → H' r = some (.tup (rvVals ds ps)) → Q (.ref r) H') ∧ (∀ i : Nat, rvDue ds ps = some i → RaiseE (NR K) "place" (.int (i : Nat)) H E)) ∧
  ((∀ t, v ≠ .str t) → RaiseE (NR K) "place" (.int (-1)) H E)
/-- what the word of a row tells -/
def rdDue (ds : List FD) (ps : List Str) : Option Nat := match rvDue ds ps with
  | some i => some i
  | none => if ps.length < ds.length then some ps.length else none
def spRd (K : Frag) : Sp := fun vs H Q E => ∃ (L : Addr) (ds : List FD) (js : List Str) (v : V), vs = [.ref L, v] ∧ LayAt K H L ds js ∧ Thg H v ∧
  (∀ t, v = .str t → ∃ ps, PsOk t ps ∧ (rdDue ds ps = none → ∀ r H', Same H H' → H' r = some (.tup (rvVals ds ps)) → Q (.ref r) H') ∧ (∀ i : Nat, rdDue ds ps = some i → RaiseE (NR K) "place" (.int (i : Nat)) H E)) ∧
  ((∀ t, v ≠ .str t) → RaiseE (NR K) "place" (.int (-1)) H E)
theorem rv_none {ds : List FD} {ps : List Str} (h : rvDue ds ps = none) : ps.length ≤ ds.length := by
  refine Nat.le_of_not_lt fun z => ?_
  have := List.find?_eq_none.mp h ds.length (List.mem_range.mpr z)
  refine this ?_
  unfold rvBad
  rw [List.getElem?_eq_getElem z, List.getElem?_eq_none (Nat.le_refl _)]
section
variable {P : Program} {w : World} {K : Frag} {mg : Str → Option Value} {base : Heap} {f : Addr} {fd : FuncData}

abbrev s_read_values : Stmt := top 42
theorem sc_read_values : FnScope ["layout", "text", "values", "place", "word"] ["layout", "text"] (defScope s_read_values) := ⟨rfl, rfl, rfl, by decide +kernel, rfl, by decide +kernel, by decide +kernel⟩

theorem ok_read_values (F : FunD K "read_values" "read_values" (defArgs s_read_values) (defBody s_read_values) (defScope s_read_values) [] [] f fd) (G : W3 P w K mg base) : FnOk P w K mg base (L2.CX P w) 7 f fd ["layout", "text"] (spRv K) := by
  refine F.ok (CX := (L2.CX P w)) sc_read_values (fun vs H Q E h => ?_) (fun cdv A outer s H vs Q E hr h => ?_)
  · obtain ⟨_, _, _, _, rfl, _⟩ := h
    rfl
  · have hr2 : Room 2 _ := hr.mono (by decide)
    refine ⟨_, (pss_cons (ps_if (pt_not (pt_val (pe_callB (call_ieK (K := K) rfl) (by rfl) G.isinstance (by decide +kernel) (pa_cons (pv 1) (pa_cons (pe_bty (n := "str") (by rfl) G.str (by decide +kernel)) pa_nil)))))
      (pss_one (ps_raise rfl (takes_of rfl rfl rfl rfl) (pmk_1 G.nr hr2 (by rfl) (pa_cons (pe_un un_neg pe_int) pa_nil))))
      pss_nil)
    (pss_cons (ps_set (i := 2) sc_read_values.nd rfl (Or.inl rfl) (pe_lstS pa_nil))
    (pss_cons (ps_for (passes_of rfl) rfl (pi_enum (by rfl) G.enumerate (pa_cons (pe_split (pv 1) pe_str) pa_nil)) (pg_tup rfl (pgs_cons (pg_name (i := 3) sc_read_values.nd rfl (Or.inl rfl)) (pgs_cons (pg_name (i := 4) sc_read_values.nd rfl (Or.inl rfl)) pgs_nil)))
      (pss_cons (ps_if (PW.pt (pw_or (pt_cmpR op_ge (pv 3) (pe_callB call_len_seq (by rfl) G.len (by decide +kernel) (pa_cons (pe_fld (pv 0) rfl) pa_nil)) (nomark _)) (pw_or1 (pt_not (pt_val (pe_fn G.is_value_word hr pass0 (by rfl) (pa_cons (pe_ix ix_tup (pe_fld (pv 0) rfl) (pv 3) (fun _ _ => rfl)) (pa_cons (pv 4) pa_nil))))))))
        (pss_one (ps_raise rfl (takes_of rfl rfl rfl rfl) (pmk_1 G.nr hr2 (by rfl) (pa_cons (pv 3) pa_nil))))
        pss_nil)
      (pss_one (ps_expr (pe_bm PySem.F.plainAttrs_list PySem.F.slot_list_append PySem.F.type_list_append mt_append (pv 2) (pa_cons (pe_fn G.value_in (hr.mono (by decide)) pass0 (by rfl) (pa_cons (pe_ix ix_tup (pe_fld (pv 0) rfl) (pv 3) (fun _ _ => rfl)) (pa_cons (pv 4) pa_nil))) pa_nil))))))
    (pss_one (ps_ret (pe_callTy call_tuple_of (by rfl) G.tuple (by decide +kernel) (pa_cons (pv 2) pa_nil))))))), ?_⟩
    obtain ⟨L, ds, js, v, rfl, hLy, hT, q1, q2⟩ := h
    obtain ⟨T, ty, ks, _, _⟩ := thg_ty (K := K) hT
    refine ⟨_, rfl, _, _, _, _, _, rfl, .ty _, ty, kit_ty ks, _, rfl, ?_⟩
    by_cases hs : ∃ t, v = .str t
    · obtain ⟨t, rfl⟩ := hs
      obtain ⟨ps, ok, g1, g2⟩ := q1 t rfl
      refine iteF ?_
      refine ⟨by show 0 ≤ 1000; decide, fun D H1 hD S1 eD => ?_⟩
      refine ⟨_, rfl, ⟨_, rfl⟩, t, ",", rfl, rfl, rfl, by have := ok.tl; rw [sizeLine_eq]; omega, fun pl hpl => ?_⟩
      rw [ok.is]
      have S2 : Same H1 (upd H1 pl (.lst (ps.map V.str))) := same_upd hpl
      have e2 : upd H1 pl (.lst (ps.map V.str)) pl = some (.lst (ps.map V.str)) := upd_same
      generalize upd H1 pl (.lst (ps.map V.str)) = H2 at S2 e2 ⊢
      have nlD : pl ≠ D := fun z => by
        have := S2 _ _ eD
        rw [← z, e2] at this
        rw [z] at hpl
        rw [eD] at hpl
        cases hpl
      refine ⟨pl, _, rfl, SqL.of e2, for_it (walk_enum (xs := ps.map V.str)) (fun i σ J => (∃ v3 v4, σ = [some (.ref L), some (.str t), some (.ref D), v3, v4]) ∧ Same H J ∧ J pl = some (.lst (ps.map V.str)) ∧ J D = some (.lst (rvVals (ds.take i) (ps.take i))) ∧ ∀ j, j < i → rvBad ds ps j = false) ⟨⟨_, _, rfl⟩, S1.trans S2, e2, S2 _ _ eD, fun j hj => absurd hj (Nat.not_lt_zero _)⟩ (fun i σ J _ ⟨_, _, e, _⟩ => SqL.of e) ?_ ?_⟩
      · rintro i z σ J J2 hi ⟨⟨v3, v4, rfl⟩, S, eP, eV, hb⟩ ⟨T0, p, x, rfl, hT0, rfl, ep, ex⟩
        obtain rfl := Option.some.inj ep
        replace ex : (ps.map V.str)[i]? = some x := ex
        rw [List.getElem?_map] at ex
        obtain ⟨u, hu, rfl⟩ := Option.map_eq_some_iff.mp ex
        have hiP : i < ps.length := (List.getElem?_eq_some_iff.mp hu).1
        have hul := ok.len u (List.mem_of_getElem? hu)
        have S3 : Same J (upd J T0 (.tup [.int (i : Nat), .str u])) := same_upd hT0
        have e3 : upd J T0 (.tup [.int (i : Nat), .str u]) T0 = some (.tup [.int (i : Nat), .str u]) := upd_same
        generalize upd J T0 (.tup [.int (i : Nat), .str u]) = J3 at S3 e3 ⊢
        have T3 := S.trans S3
        have hLy3 := hLy.same T3
        obtain ⟨⟨dx, t1, t2, ys, hL, h1, hF, h2⟩, okL⟩ := id hLy3
        have hlen : ys.length = ds.length := hF.1
        have bad : rvBad ds ps i = true → RaiseE (NR K) "place" (.int (i : Nat)) J3 E := fun hbd => raise_mono T3 (g2 i (find_at hiP hbd hb))
        refine ⟨T0, _, rfl, SqT.of e3, rfl, _, _, rfl, _, _, rfl, rfl, ?_⟩
        refine ⟨_, rfl, _, rfl, L, _, dx, _, _, rfl, hL, G.cLayout.cl, G.cLayout.no _ (by decide +kernel), lLayout_fields, t1, ys, rfl, .inr h1, _, _, rfl, rfl, _, rfl, ?_⟩
        refine ite2 (fun c1 => ?_) (fun c1 => ?_)
        · have c1' : ¬ i < ds.length := by have := of_decide_eq_true c1; omega
          refine iteT ⟨_, rfl, mkO_1 (bad ?_)⟩
          unfold rvBad
          rw [hu, List.getElem?_eq_none (show ds.length ≤ i by omega)]
        · have c1' : i < ds.length := by
            refine Decidable.byContradiction fun z => c1 (decide_eq_true ?_)
            omega
          have hd := List.getElem?_eq_getElem c1'
          have hy0 := List.getElem?_eq_getElem (show i < ys.length by omega)
          obtain ⟨y, ey, hk⟩ := hF.2 i _ _ hy0 hd
          rw [ey] at hy0
          have aty : atI ys ((i : Nat) : Int) = some (.ref y) := atI_nat hy0
          refine ⟨_, rfl, L, _, dx, _, _, rfl, hL, G.cLayout.cl, G.cLayout.no _ (by decide +kernel), lLayout_fields, _, rfl, t1, ys, _, _, rfl, rfl, h1, aty, _, rfl, y, u, ds[i], rfl, hk, hul, FD.dep_lt _, fun J4 S4 => ⟨_, rfl, ?_⟩⟩
          have eb : rvBad ds ps i = !(ds[i]).isW u := by unfold rvBad; rw [hu, hd]
          have nx : rvVals (ds.take (i + 1)) (ps.take (i + 1)) = rvVals (ds.take i) (ps.take i) ++ [FD.valW u ds[i]] := by
            unfold rvVals
            rw [List.take_add_one, List.take_add_one, hu, hd]
            exact List.zipWith_append (by rw [List.length_take, List.length_take]; omega)
          cases hw : (ds[i]).isW u with
          | false => exact iteT ⟨_, rfl, mkO_1 (raise_mono S4 (bad (by rw [eb, hw]; rfl)))⟩
          | true =>
          refine iteF ?_
          have hk4 := hk.same S4
          have S14 := S3.trans S4
          have vl : (rvVals (ds.take i) (ps.take i)).length ≤ 200 := by
            have := ok.few
            unfold rvVals
            rw [List.length_zipWith, List.length_take, List.length_take]
            omega
          refine ⟨_, rfl, .inl ⟨rfl, _, SqL.of (S14 _ _ eV)⟩, _, rfl, L, _, dx, _, _, rfl, S4 _ _ hL, G.cLayout.cl, G.cLayout.no _ (by decide +kernel), lLayout_fields, _, rfl, t1, ys, _, _, rfl, rfl, Z3.seqT_same S4 h1, aty, _, rfl, y, u, ds[i], rfl, hk4, hul, hw, FD.dep_lt _, fun J5 S5 => ?_⟩
          refine ⟨D, _, _, rfl, rfl, S5 _ _ (S14 _ _ eV), by rw [sizeLine_eq]; omega, ⟨_, _, rfl⟩, same_put ((S.trans S14).trans S5) hD, by rw [upd_ne nlD]; exact S5 _ _ (S14 _ _ eP), by rw [upd_same, nx], fun j hj => ?_⟩
          rcases Nat.lt_or_ge j i with h | h
          · exact hb j h
          · rw [show j = i by omega, eb, hw]
            rfl
      · rintro σ J ⟨⟨v3, v4, rfl⟩, S, eP, eV, hb⟩
        rw [List.length_map] at hb eV
        have hd : rvDue ds ps = none := List.find?_eq_none.mpr fun j hj => by rw [hb j (List.mem_range.mp hj)]; decide
        have hle := rv_none hd
        refine ⟨_, rfl, D, _, rfl, .inl ⟨SqL.of eV, fun l hl => g1 hd l _ (S.trans (same_upd hl)) ?_⟩⟩
        rw [upd_same, List.take_length]
        unfold rvVals
        have e : ∀ (as : List FD) (bs : List Str), bs.length ≤ as.length → List.zipWith (fun d p => FD.valW p d) (as.take bs.length) bs = List.zipWith (fun d p => FD.valW p d) as bs := fun as => by
          induction as with
          | nil => intro bs _; simp
          | cons a as ih =>
            intro bs h
            cases bs with
            | nil => rfl
            | cons b bs =>
              show _ :: List.zipWith _ (as.take bs.length) bs = _ :: List.zipWith _ as bs
              rw [ih bs (Nat.le_of_succ_le_succ h)]
        rw [e _ _ hle]
    · have hs' : ∀ t, v ≠ .str t := fun t e => hs ⟨t, e⟩
      cases v with
      | str z => exact absurd rfl (hs' z)
      | _ => exact iteT ⟨_, rfl, mkO_1 (q2 hs')⟩

structure W4 (P : Program) (w : World) (K : Frag) (mg : Str → Option Value) (base : Heap) : Prop extends W3 P w K mg base where
  read_values : FnAt P w K mg base (L2.CX P w) 7 "read_values" ["layout", "text"] (spRv K)

abbrev s_read_row : Stmt := top 41
theorem sc_read_row : FnScope ["layout", "text", "row"] ["layout", "text"] (defScope s_read_row) := ⟨rfl, rfl, rfl, by decide +kernel, rfl, by decide +kernel, by decide +kernel⟩

theorem ok_read_row (F : FunD K "read_row" "read_row" (defArgs s_read_row) (defBody s_read_row) (defScope s_read_row) [] [] f fd) (G : W4 P w K mg base) : FnOk P w K mg base (L2.CX P w) 8 f fd ["layout", "text"] (spRd K) := by
  refine F.ok (CX := (L2.CX P w)) sc_read_row (fun vs H Q E h => ?_) (fun cdv A outer s H vs Q E hr h => ?_)
  · obtain ⟨_, _, _, _, rfl, _⟩ := h
    rfl
  · have hr2 : Room 2 _ := hr.mono (by decide)
    refine ⟨_, (pss_cons (ps_set (i := 2) sc_read_row.nd rfl (Or.inl rfl) (pe_fnS G.read_values hr (fun σ => passAt (takes_of rfl rfl rfl rfl) σ) (by rfl) (pa_cons (pv 0) (pa_cons (pv 1) pa_nil))))
    (pss_cons (ps_if (pt_cmpR op_lt (pe_callB call_len_seq (by rfl) G.len (by decide +kernel) (pa_cons (pv 2) pa_nil)) (pe_callB call_len_seq (by rfl) G.len (by decide +kernel) (pa_cons (pe_fld (pv 0) rfl) pa_nil)) (nomark _))
      (pss_one (ps_raise rfl (takes_of rfl rfl rfl rfl) (pmk_1 G.nr hr2 (by rfl) (pa_cons (pe_callB call_len_seq (by rfl) G.len (by decide +kernel) (pa_cons (pv 2) pa_nil)) pa_nil))))
      pss_nil)
    (pss_one (ps_ret (pv 2))))), ?_⟩
    obtain ⟨L, ds, js, v, rfl, hLy, hT, q1, q2⟩ := h
    refine ⟨_, rfl, _, rfl, L, ds, js, v, rfl, hLy, hT, fun t et => ?_, q2⟩
    obtain ⟨ps, ok, g1, g2⟩ := q1 t et
    refine ⟨ps, ok, fun hd r H' S er => ?_, fun i hi => g2 i (by unfold rdDue; rw [hi])⟩
    have hle := rv_none hd
    obtain ⟨⟨dx, t1, t2, ys, hL, h1, hF, h2⟩, okL⟩ := id (hLy.same S)
    have hlen : ys.length = ds.length := hF.1
    have vl : (rvVals ds ps).length = ps.length := by
      unfold rvVals
      rw [List.length_zipWith]
      omega
    refine ⟨_, rfl, r, _, rfl, .inr (SqT.of er), _, rfl, L, _, dx, _, _, rfl, hL, G.cLayout.cl, G.cLayout.no _ (by decide +kernel), lLayout_fields, t1, ys, rfl, .inr h1, _, _, rfl, rfl, _, rfl, ?_⟩
    rw [vl, hlen]
    refine ite2 (fun c => ?_) (fun c => ?_)
    · have c := of_decide_eq_true c
      refine ⟨_, rfl, r, _, rfl, .inr (SqT.of er), mkO_1 ?_⟩
      rw [vl]
      refine raise_mono S (g2 _ ?_)
      unfold rdDue
      rw [hd]
      exact if_pos (by omega)
    · have c : ¬ ps.length < ds.length := fun z => c (decide_eq_true (by omega))
      refine ⟨_, rfl, g1 ?_ r H' S er⟩
      unfold rdDue
      rw [hd]
      exact if_neg c

end
end L2.K80

set_option Elab.async false
set_option linter.all false
set_option maxRecDepth 100000
set_option maxHeartbeats 4000000
/-! What the law draws: fields. -/
namespace L2.K80
open PySem PySem.W PySem.Spec PySem.Calls PyProof.Rows L2.Jk
def MOk (m : V) : Prop := m = .non ∨ ∃ n : Nat, m = .int (n : Nat) ∧ n < 1000000000
def SgT (z : Str) : Prop := ∀ c ∈ z.cps.toList, c ∈ SG.cps.toList
inductive WkP : PD → Prop
  | word {z : Str} {l : Nat} {m : V} : SgT z → z.length ≤ 20 → l < 1000000000 → MOk m → WkP (.word (.str z) (.int (l : Nat)) m)
  | number {l : Nat} {m : V} : l < 1000000000 → MOk m → WkP (.number (.int (l : Nat)) m)
  | fixed {w : Nat} : w < 60 → WkP (.fixed (.int (w : Nat)))
  | listed {ts : List Str} : ts ≠ [] → ts.length ≤ 20 → (∀ t ∈ ts, SgT t ∧ t.length ≤ 20) → WkP (.listed (.lst (ts.map V.str)))
  | ended {z e : Str} {l : Nat} {m : V} : SgT z → z.length ≤ 20 → SgT e → e.length ≤ 20 → l < 1000000000 → MOk m → WkP (.ended (.str z) (.str e) (.int (l : Nat)) m)
inductive WkF : FD → Prop
  | pl {d : PD} : WkP d → WkF (.pl d)
  | mk {n m : Str} {d : PD} : SgT n → n.length = 1 → SgT m → m.length = 1 → WkP d → WkF (.mk (.str n) (.str m) d)
theorem StAt.same {H H' : Hp} {a : Addr} (h : StAt H a) (s : Same H H') : StAt H' a := by
  obtain ⟨x, y, z, e, r⟩ := h
  exact ⟨x, y, z, s _ _ e, r⟩
theorem StAt.ne {H : Hp} {a b : Addr} (h : StAt H a) (n : H b = none) : b ≠ a := by
  obtain ⟨x, y, z, e, r⟩ := h
  exact ne_new e n
theorem pick {α : Type} {xs : List α} {i : Nat} (h : i < xs.length) : ∃ v, xs[i]? = some v ∧ v ∈ xs := ⟨xs[i], List.getElem?_eq_getElem h, List.getElem_mem h⟩
theorem map_eraseIdx' {α β : Type} (g : α → β) : ∀ (xs : List α) (k : Nat), (xs.map g).eraseIdx k = (xs.eraseIdx k).map g
  | [], _ => rfl
  | _ :: _, 0 => rfl
  | x :: xs, k + 1 => by
    show g x :: (xs.map g).eraseIdx k = g x :: (xs.eraseIdx k).map g
    rw [map_eraseIdx' g xs k]
theorem newS_all {ks : Nat → Str} : ∀ {n : Nat}, (∀ i j, i < n → j < n → ks i = ks j → i = j) → newS ks n = n
  | 0, _ => rfl
  | n + 1, h => by
    have ih := newS_all (n := n) fun i j hi hj e => h i j (by omega) (by omega) e
    unfold newS
    have no : (List.range n).any (fun j => ks j == ks n) = false := by
      refine Bool.eq_false_iff.mpr fun q => ?_
      obtain ⟨j, hj, e⟩ := List.any_eq_true.mp q
      have lt := List.mem_range.mp hj
      have := h j n (by omega) (by omega) (by simpa using e)
      omega
    rw [no, if_neg Bool.false_ne_true, ih]
theorem map_strV (ts : List Str) : (ts.map V.str).map strV = ts := by
  rw [List.map_map]
  exact List.map_id' ts
theorem lay_strs : ∀ ts : List Str, (∀ t ∈ ts, (PyData.str t).canLay0 = true) → PyData.canLayAll0 ((ts.map V.str).map dV) = true ∧ PyData.depthAll ((ts.map V.str).map dV) ≤ 1
  | [], _ => ⟨rfl, by decide⟩
  | t :: ts, h => by
    obtain ⟨h1, h2⟩ := lay_strs ts fun x hx => h x (List.mem_cons_of_mem _ hx)
    refine ⟨Bool.and_eq_true_iff.mpr ⟨h t (List.mem_cons_self ..), h1⟩, ?_⟩
    show max (PyData.str t).depth _ ≤ 1
    exact Nat.max_le.mpr ⟨by show 0 ≤ 1; decide, h2⟩
theorem erase_perm {α : Type} : ∀ (L : List α) (k : Nat) (h : k < L.length), (L[k] :: L.eraseIdx k).Perm L
  | [], _, h => absurd h (Nat.not_lt_zero _)
  | _ :: _, 0, _ => List.Perm.refl _
  | x :: xs, k + 1, h => (List.Perm.swap x (xs[k]'(Nat.lt_of_succ_lt_succ h)) _).trans ((erase_perm xs k (Nat.lt_of_succ_lt_succ h)).cons x)
theorem StAt.at {H : Hp} {s : Addr} (h : StAt H s) : ∃ xs, H s = some (.lst xs) := by
  obtain ⟨x, y, z, e, _⟩ := h
  exact ⟨_, e⟩
theorem FieldAt.but {K : Frag} {s : Addr} {H H' : Hp} {y : Addr} {xs : List V} (hs : H s = some (.lst xs)) (B : But s H H') : ∀ {d : PD}, FieldAt K H y d → FieldAt K H' y d
  | .word .., ⟨dx, h⟩ => ⟨dx, B _ _ (ne_of h hs (fun z => by cases z)) h⟩
  | .number .., ⟨dx, h⟩ => ⟨dx, B _ _ (ne_of h hs (fun z => by cases z)) h⟩
  | .fixed _, ⟨dx, h⟩ => ⟨dx, B _ _ (ne_of h hs (fun z => by cases z)) h⟩
  | .listed _, ⟨dx, t, h, ⟨o, c, d, g⟩⟩ => ⟨dx, t, B _ _ (ne_of h hs (fun z => by cases z)) h, o, c, d, B _ _ (ne_of g hs (fun z => by cases z)) g⟩
  | .ended .., ⟨dx, h⟩ => ⟨dx, B _ _ (ne_of h hs (fun z => by cases z)) h⟩
theorem FdAt.but {K : Frag} {s : Addr} {H H' : Hp} {y : Addr} (st : StAt H s) (B : But s H H') : ∀ {d : FD}, FdAt K H y d → FdAt K H' y d
  | .pl _, ⟨h, i⟩ => by
    obtain ⟨xs, hs⟩ := st.at
    exact ⟨h.but hs B, i⟩
  | .mk _ _ _, ⟨⟨dx, z, h, k⟩, i⟩ => by
    obtain ⟨xs, hs⟩ := st.at
    exact ⟨⟨dx, z, B _ _ (ne_of h hs (fun z => by cases z)) h, k.but hs B⟩, i⟩
theorem seqT_but {K : Frag} {s t : Addr} {H H' : Hp} {xs zs : List V} (hs : H s = some (.lst zs)) (B : But s H H') (h : SqT K H t xs) : SqT K H' t xs := by
  rcases h with (h | ⟨o, h⟩) | h
  · exact .inl (.inl (B _ _ (ne_of h hs (fun z => by cases z)) h))
  · exact .inl (.inr ⟨o, B _ _ (ne_of h hs (fun z => by cases z)) h⟩)
  · exact .inr h
theorem LayAt.but {K : Frag} {s : Addr} {H H' : Hp} {L : Addr} {ds : List FD} {js : List Str} (st : StAt H s) (B : But s H H') (h : LayAt K H L ds js) : LayAt K H' L ds js := by
  obtain ⟨xs, hs⟩ := st.at
  obtain ⟨⟨dx, t1, t2, ys, a, b, c, d⟩, o⟩ := h
  refine ⟨⟨dx, t1, t2, ys, B _ _ (ne_of a hs (fun z => by cases z)) a, seqT_but hs B b, ⟨c.1, fun i v d a b => ?_⟩, seqT_but hs B d⟩, o⟩
  obtain ⟨y, e, k⟩ := c.2 i v d a b
  exact ⟨y, e, k.but st B⟩
/-! ### what is drawn -/
def FD.good : FD → Prop
  | .pl d => d.In ∧ d.due = none
  | .mk n m d => d.In ∧ d.due = none ∧ n ∈ mQ ∧ m ∈ mQ ∧ OD.due (.mk n m (.pl d)) = none
theorem mk_due {n m : V} {i : OD} (h : OD.due (.mk n m i) = none) : isSignB n = true ∧ isSignB m = true := by
  have h : (if (!isSignB n) = true then (some "none" : Option Str) else if (!isSignB m || decide (m = n)) = true then some "mark" else iDue n m i) = none := h
  cases k : isSignB n with
  | false => rw [k] at h; cases h
  | true =>
    rw [k] at h
    cases k2 : isSignB m with
    | false => rw [k2] at h; cases h
    | true => exact ⟨rfl, rfl⟩
def farW : List Str := ["a", "ab", "b0", "0", "01"]
def farL : List Str := ["", "a", "b", "ab", "aba", "0", "00", "a0", "abc", "10", "010", "bb"]
def anyW : List Str := ["-./09AZ_az", "zyx", "Q", "0-"]
def anyL : List Str := ["-", "a/b", "A_z", "0.1", "xxxxxxxxxxxx", "", "listed", "word"]
def endZ : List Str := ["a", "ab", "01"]
def endE : List Str := ["c", "2"]
def marks : List Str := ["N", "z"]
def MB (l : Nat) (m : V) : Prop := m = .non ∨ ∃ k : Nat, m = .int (k : Nat) ∧ l ≤ k ∧ k ≤ 999999999
inductive DrP (wz lz : List Str) : PD → Prop
  | word {z : Str} {l : Nat} {m : V} : z ∈ wz → l ≤ 12 → MB l m → DrP wz lz (.word (.str z) (.int (l : Nat)) m)
  | number {l : Nat} {m : V} : l ≤ 999999999 → MB l m → DrP wz lz (.number (.int (l : Nat)) m)
  | fixed {w : Nat} : 1 ≤ w → w ≤ 4 → DrP wz lz (.fixed (.int (w : Nat)))
  | listed {ts : List Str} : ts.Nodup → (∀ t ∈ ts, t ∈ lz) → ts ≠ [] → ts.length ≤ 12 → DrP wz lz (.listed (.lst (ts.map V.str)))
  | ended {z e : Str} {l : Nat} {m : V} : z ∈ endZ → e ∈ endE → l ≤ 12 → MB l m → DrP wz lz (.ended (.str z) (.str e) (.int (l : Nat)) m)
theorem DrP.mono {w1 w2 l1 l2 : List Str} (hw : ∀ x ∈ w1, x ∈ w2) (hl : ∀ x ∈ l1, x ∈ l2) {d : PD} : DrP w1 l1 d → DrP w2 l2 d
  | .word a b c => .word (hw _ a) b c
  | .number a b => .number a b
  | .fixed a b => .fixed a b
  | .listed a b c e => .listed a (fun t ht => hl t (b t ht)) c e
  | .ended a b c e => .ended a b c e
def allW : List Str := anyW ++ farW
def allL : List Str := anyL ++ farL
inductive DrF : FD → Prop
  | pl {d : PD} : DrP allW allL d → DrF (.pl d)
  | mk {n : Str} {d : PD} : n ∈ marks → DrP farW farL d → DrF (.mk (.str n) (.str "M") d)
theorem DrP.all {d : PD} (h : DrP farW farL d) : DrP allW allL d := h.mono (fun _ h => List.mem_append_right _ h) (fun _ h => List.mem_append_right _ h)
theorem MB.ok {l : Nat} {m : V} (h : MB l m) : MOk m := h.imp id fun ⟨k, e, _, b⟩ => ⟨k, e, by omega⟩
theorem MB.nM {l : Nat} {m : V} (h : MB l m) : m ∈ nM := by
  rcases h with rfl | ⟨k, rfl, _, b⟩
  · exact ⟨rfl, fun i e => by cases e⟩
  · exact ⟨rfl, fun i e => by injection e with e; omega⟩
theorem nM_nat {n : Nat} (h : n ≤ 999999999) : V.int (n : Nat) ∈ nM := ⟨rfl, fun i e => by injection e with e; omega⟩
theorem bd_due {l : Nat} {m : V} (h : MB l m) : bDue (.int (l : Nat)) m = none := by
  have h1 : decide ((l : Int) < 0) = false := decide_eq_false (by omega)
  rcases h with rfl | ⟨k, rfl, h, _⟩
  · show (if (!true || decide ((l : Int) < 0)) = true then _ else if (!decide (V.non = V.non) && _) = true then _ else _) = _
    rw [h1]
    rfl
  · have h2 : decide ((k : Int) < (l : Int)) = false := decide_eq_false (by omega)
    show (if (!true || decide ((l : Int) < 0)) = true then _ else if (!decide (V.int (k : Nat) = V.non) && (!true || decide ((k : Int) < (l : Int)))) = true then _ else _) = _
    rw [h1, h2]
    rfl
theorem word_good : ∀ z ∈ allW, sBad (.str z) = false ∧ z.length ≤ 20 ∧ ∀ c ∈ z.cps.toList, c ∈ SG.cps.toList := by decide +kernel
theorem end_good : ∀ z ∈ endZ, sBad (.str z) = false ∧ z.length ≤ 20 ∧ (∀ c ∈ z.cps.toList, c ∈ SG.cps.toList) ∧ ∀ e ∈ endE, isSignB (.str e) = true ∧ inB e z = false ∧ e.length ≤ 20 ∧ ∀ c ∈ e.cps.toList, c ∈ SG.cps.toList := by decide +kernel
theorem menu_are : ∀ t ∈ allL, areB (.str t) = true ∧ t.length ≤ 20 ∧ (PyData.str t).canLay0 = true ∧ ∀ c ∈ t.cps.toList, c ∈ SG.cps.toList := by decide +kernel
theorem lst_good {ts : List Str} (hn : ts.Nodup) (hs : ∀ t ∈ ts, t ∈ allL) (h0 : ts ≠ []) (hl : ts.length ≤ 12) : PD.In (.listed (.lst (ts.map V.str))) ∧ PD.due (.listed (.lst (ts.map V.str))) = none := by
  obtain ⟨l1, l2⟩ := lay_strs ts fun t ht => (menu_are t (hs t ht)).2.2.1
  have all : (ts.map V.str).all areB = true := by
    rw [List.all_map]
    exact List.all_eq_true.mpr fun t ht => (menu_are t (hs t ht)).1
  refine ⟨⟨.inl rfl, by show (ts.map V.str).length ≤ 20; rw [List.length_map]; omega, ?_, ?_⟩, ?_⟩
  · intro v hv
    obtain ⟨t, ht, rfl⟩ := List.mem_map.mp hv
    exact ⟨rfl, (menu_are t (hs t ht)).2.1⟩
  · refine Bool.and_eq_true_iff.mpr ⟨l1, decide_eq_true ?_⟩
    show PyData.depthAll ((ts.map V.str).map dV) + 1 ≤ 64
    omega
  · show (if (decide ((ts.map V.str).length = 0) || xsBad (ts.map V.str)) = true then _ else _) = _
    have e1 : decide ((ts.map V.str).length = 0) = false := decide_eq_false (by rw [List.length_map]; exact fun e => h0 (List.length_eq_zero_iff.mp e))
    have e2 : xsBad (ts.map V.str) = false := by
      unfold xsBad
      rw [all, map_strV, newS_all ?_, List.length_map]
      · show (false || decide (ts.length < ts.length)) = false
        rw [decide_eq_false (Nat.lt_irrefl _)]
        rfl
      · intro i j hi hj e
        rw [List.getD_eq_getElem?_getD, List.getD_eq_getElem?_getD, List.getElem?_eq_getElem hi, List.getElem?_eq_getElem hj] at e
        exact (List.getElem_inj hn).mp e
    rw [e1, e2]
    rfl
theorem DrP.good : ∀ {d : PD}, DrP allW allL d → WkP d ∧ d.In ∧ d.due = none
  | _, .word (z := z) (l := l) (m := m) a b c => by
    obtain ⟨g1, g2, g3⟩ := word_good z a
    refine ⟨.word g3 g2 (by omega) c.ok, ⟨⟨rfl, g2⟩, nM_nat (by omega), c.nM⟩, ?_⟩
    show oDue _ _ _ = none
    unfold oDue
    rw [g1, if_neg Bool.false_ne_true]
    exact bd_due c
  | _, .number (l := l) (m := m) a b => ⟨.number (by omega) b.ok, ⟨nM_nat (by omega), b.nM⟩, bd_due b⟩
  | _, .fixed (w := w) a b => by
    refine ⟨.fixed (by omega), ⟨_, rfl, by omega, by omega⟩, ?_⟩
    have : ∀ w ∈ List.range 5, 1 ≤ w → wDue (.int (w : Nat)) = none := by decide +kernel
    exact this w (List.mem_range.mpr (by omega)) a
  | _, .listed (ts := ts) a b c e => by
    obtain ⟨g1, g2⟩ := lst_good a b c e
    exact ⟨.listed c (by omega) fun t ht => ⟨(menu_are t (b t ht)).2.2.2, (menu_are t (b t ht)).2.1⟩, g1, g2⟩
  | _, .ended (z := z) (e := e) (l := l) (m := m) a b c f => by
    obtain ⟨g1, g2, g3, g4⟩ := end_good z a
    obtain ⟨g5, g6, g7, g8⟩ := g4 e b
    refine ⟨.ended g3 g2 g8 g7 (by omega) f.ok, ⟨⟨rfl, g2⟩, ⟨rfl, g7⟩, nM_nat (by omega), f.nM⟩, ?_⟩
    show eDue _ _ _ _ = none
    unfold eDue
    rw [g1, g5, if_neg Bool.false_ne_true]
    show (if (!true || inB e z) = true then _ else _) = _
    rw [g6]
    exact bd_due f
def marks3 : List Str := ["N", "z", "M"]
theorem m3 : ∀ c ∈ marks3, (∀ z ∈ farW, inB c z = false) ∧ (∀ z ∈ endZ, inB c z = false) ∧ inB c DG = false ∧ (57 < c.cps.getD 0 0) ∧ (∀ z ∈ farL, inB c z = false) ∧ ∀ e ∈ endE, c ≠ e := by decide +kernel
theorem dg_has {c : Str} (h : 57 < c.cps.getD 0 0) (n : Nat) : inB c (dg (n : Nat)) = false := decide_eq_false fun z => by
  have := T_dg n _ z
  omega
theorem DrP.has {c : Str} (hc : c ∈ marks3) : ∀ {d : PD}, DrP farW farL d → d.has c = false := by
  obtain ⟨k1, k2, k3, k4, k5, k6⟩ := m3 c hc
  intro d h
  cases h with
  | @word z l m a b e =>
    show (inB c z && _) = false
    rw [k1 _ a]
    rfl
  | @number l m a b =>
    show (if _ then _ else _) = _
    split
    · exact k3
    · refine Bool.eq_false_iff.mpr fun q => ?_
      obtain ⟨i, hi, e⟩ := List.any_eq_true.mp q
      have e2 : (intV (.int (l : Nat)) + (i : Int)) = ((l + i : Nat) : Int) := by show (l : Int) + (i : Int) = _; omega
      rw [e2, dg_has k4] at e
      cases e
  | fixed => exact k3
  | listed a b e f =>
    refine Bool.eq_false_iff.mpr fun q => ?_
    obtain ⟨v, hv, e2⟩ := List.any_eq_true.mp q
    obtain ⟨t, ht, rfl⟩ := List.mem_map.mp hv
    rw [show strV (.str t) = t from rfl, k5 t (b t ht)] at e2
    cases e2
  | @ended z e l m a b _ _ =>
    show (decide (V.str c = .str e) || (inB c z && _)) = false
    rw [k2 z a, decide_eq_false (fun q => k6 e b (by injection q))]
    rfl
theorem marks_facts : ∀ n ∈ marks, isSignB (.str n) = true ∧ n ≠ "M" ∧ n.length = 1 ∧ n ∈ marks3 ∧ ∀ c ∈ n.cps.toList, c ∈ SG.cps.toList := by decide +kernel
theorem M_facts : isSignB (.str "M") = true ∧ ("M" : Str) ∈ marks3 ∧ ("M" : Str).length = 1 ∧ ∀ c ∈ ("M" : Str).cps.toList, c ∈ SG.cps.toList := by decide +kernel
theorem mk_due0 : ∀ {n : Str} {d : PD}, n ∈ marks → DrP farW farL d → OD.due (.mk (.str n) (.str "M") (.pl d)) = none := fun {n d} hn h => by
  obtain ⟨f1, f2, f3, f4, _⟩ := marks_facts n hn
  show (if (!isSignB (.str n)) = true then _ else if (!isSignB (.str "M") || decide (V.str "M" = .str n)) = true then _ else _) = _
  rw [f1, M_facts.1, decide_eq_false (fun q => f2 (by injection q with q; exact q.symm))]
  show (if (d.has n || d.has "M") = true then _ else _) = _
  rw [h.has f4, h.has M_facts.2.1]
  rfl
theorem DrF.good : ∀ {d : FD}, DrF d → WkF d ∧ d.good
  | _, .pl h => ⟨.pl h.good.1, h.good.2⟩
  | _, .mk (n := n) (d := d) hn h => by
    obtain ⟨g0, g1, g2⟩ := h.all.good
    obtain ⟨f1, f2, f3, f4, f5⟩ := marks_facts _ hn
    exact ⟨.mk f5 f3 M_facts.2.2.2 M_facts.2.2.1 g0, g1, g2, ⟨rfl, by show n.length ≤ 20; omega⟩, ⟨rfl, by decide⟩, mk_due0 hn h⟩
end L2.K80

set_option Elab.async false
set_option linter.all false
set_option maxRecDepth 100000
set_option maxHeartbeats 4000000
namespace L2.K80
open PySem PySem.W PySem.Spec PySem.Calls PyProof.Rows L2.Jk
theorem itB {b : Bool} {A B : Prop} (h : b = true) (k : A) : if b = true then A else B := by
  rw [h]
  exact iteT k
theorem itC {b : Bool} {A B : Prop} (h : b = false) (k : B) : if b = true then A else B := by
  rw [h]
  exact iteF k
theorem PSs.imp {X : Cx} {st : List Stmt} {t t' : TS} (h : PSs X st t) (k : ∀ D σ H, t' D σ H → t D σ H) : PSs X st t' := ⟨fun pins s σ H D I hw => h.run pins s σ H D I (k D σ H hw)⟩
theorem op_mulStrZ {X : Cx} : OpR X (binaryOp .Mult) (fun x y H Q => ∃ (z : Str) (i : Int), x = .str z ∧ y = .int i ∧ (i = 0 ∨ repOk z i = true) ∧ Q (.str (repS z i)) H) := by
  intro pins s σ H x y v u Q I rx ry h
  obtain ⟨z, i, rfl, rfl, ok, q⟩ := h
  rcases ok with rfl | ok
  · obtain ⟨t, rfl⟩ := rx
    obtain ⟨t', rfl⟩ := ry
    exact P.mul_str_none (by decide) (by decide) ⟨.str _, H, I.tok _, ⟨_, rfl⟩, q⟩
  · exact op_mulStr pins s σ H _ _ v u Q I rx ry ⟨z, i, rfl, rfl, ok, q⟩
section
variable {X : Cx} {o e : Expr} {es : List Expr} {to : TE} {t : TA} {name : Str} {apos cpos : Pos} {T id : String} {r : V → List V → Hp → VK → Prop}
theorem pe_bmK {K : Frag} (hK : X.K = K) (pa : PlainAttrs T) (slot : Slot T name id) (hty : typeOf (.builtin id) = pure (.type "method_descriptor")) (hm : MtR X id r) (ho : PE X o to) (ha : PA X (e :: es) t)
    (hbase : attributeBase o name X.env (eval o X.env) = eval o X.env := by rfl)
    (hfew : ((backTo cpos (starEach (e :: es) X.env)).all (fun x => !x.1) && (backToKw cpos (keywordEach [] X.env)).all (fun x => x.1.isSome)
      && decide ((e :: es).length + ([] : List Keyword).length + (if ([] : List Keyword).isEmpty then 0 else 1) < 30)) = true := by rfl)
    (hline : (apos.endLine == cpos.line) = true := by rfl) (hs : starEach (e :: es) X.env = (false, eval e X.env) :: starEach es X.env := by rfl) (hplain : (backTo cpos (starEach es X.env)).any (·.1) = false := by rfl) :
    PE X (.Call (.Attribute o name apos) (e :: es) [] cpos) (tBM K T r to t) := by
  subst hK
  exact pe_bm pa slot hty hm ho ha hbase hfew hline hs hplain
def rLenK (K : Frag) : List V → Hp → VK → Prop := fun xs H Q => ∃ p ys, xs = [.ref p] ∧ (SqL K H p ys ∨ SqT K H p ys) ∧ Q (.int ys.length) H
theorem call_lenK {K : Frag} (hK : X.K = K) : CallR X (.builtin "len") (rLenK K) := by
  subst hK
  exact call_len_seq
end
end L2.K80

set_option Elab.async false
set_option linter.all false
set_option maxRecDepth 100000
set_option maxHeartbeats 4000000
/-! The law: pick, made, written. -/
namespace L2.K80
open PySem PySem.W PySem.Spec PySem.Calls PyProof.Rows L2.Jk

def PDAt (s : Addr) (H : Hp) (v : V) : PD → Prop
  | .word x l m => ∃ b, v = .ref b ∧ b ≠ s ∧ H b = some (.tup [.str "word", x, l, m])
  | .number l m => ∃ b, v = .ref b ∧ b ≠ s ∧ H b = some (.tup [.str "number", l, m])
  | .fixed u => ∃ b, v = .ref b ∧ b ≠ s ∧ H b = some (.tup [.str "fixed", u])
  | .listed x => ∃ b u, v = .ref b ∧ b ≠ s ∧ H b = some (.tup [.str "listed", u]) ∧ LXAt H u x ∧ ∀ c, u = .ref c → c ≠ s
  | .ended x e l m => ∃ b, v = .ref b ∧ b ≠ s ∧ H b = some (.tup [.str "ended", x, e, l, m])
def FIn (s : Addr) (H : Hp) (v : V) : FD → Prop
  | .pl d => PDAt s H v d
  | .mk n m d => ∃ b u, v = .ref b ∧ b ≠ s ∧ H b = some (.tup [.str "marked", n, m, u]) ∧ PDAt s H u d
theorem PDAt.same {s : Addr} {H H' : Hp} {v : V} (S : Same H H') : ∀ {d : PD}, PDAt s H v d → PDAt s H' v d
  | .word .., ⟨b, e, n, h⟩ => ⟨b, e, n, S _ _ h⟩
  | .number .., ⟨b, e, n, h⟩ => ⟨b, e, n, S _ _ h⟩
  | .fixed _, ⟨b, e, n, h⟩ => ⟨b, e, n, S _ _ h⟩
  | .listed _, ⟨b, u, e, n, h, l, k⟩ => ⟨b, u, e, n, S _ _ h, l.same S, k⟩
  | .ended .., ⟨b, e, n, h⟩ => ⟨b, e, n, S _ _ h⟩
theorem LXAt.but {s : Addr} {H H' : Hp} {v : V} (B : But s H H') (k : ∀ c, v = .ref c → c ≠ s) : ∀ {x : LX}, LXAt H v x → LXAt H' v x
  | .lst _, ⟨b, e, h⟩ => ⟨b, e, B _ _ (k _ e) h⟩
  | .tup _, ⟨b, e, h⟩ => ⟨b, e, by
      obtain ⟨o, c, d, g⟩ := h
      exact ⟨o, c, d, B _ _ (k _ e) g⟩⟩
  | .val _, e => e
theorem PDAt.but {s : Addr} {H H' : Hp} {v : V} (B : But s H H') : ∀ {d : PD}, PDAt s H v d → PDAt s H' v d
  | .word .., ⟨b, e, n, h⟩ => ⟨b, e, n, B _ _ n h⟩
  | .number .., ⟨b, e, n, h⟩ => ⟨b, e, n, B _ _ n h⟩
  | .fixed _, ⟨b, e, n, h⟩ => ⟨b, e, n, B _ _ n h⟩
  | .listed _, ⟨b, u, e, n, h, l, k⟩ => ⟨b, u, e, n, B _ _ n h, l.but B k, k⟩
  | .ended .., ⟨b, e, n, h⟩ => ⟨b, e, n, B _ _ n h⟩
theorem FIn.same {s : Addr} {H H' : Hp} {v : V} (S : Same H H') : ∀ {d : FD}, FIn s H v d → FIn s H' v d
  | .pl _, h => PDAt.same S h
  | .mk .., ⟨b, u, e, n, h, k⟩ => ⟨b, u, e, n, S _ _ h, k.same S⟩
theorem FIn.but {s : Addr} {H H' : Hp} {v : V} (B : But s H H') : ∀ {d : FD}, FIn s H v d → FIn s H' v d
  | .pl _, h => PDAt.but B h
  | .mk .., ⟨b, u, e, n, h, k⟩ => ⟨b, u, e, n, B _ _ n h, k.but B⟩
theorem call_str_both {X : Cx} : CallR X (.type "str") (fun xs H Q => (∃ i, xs = [.int i] ∧ i.natAbs.log2 < 1920 ∧ Q (.str (toString i)) H) ∨ ∃ a, xs = [.str a] ∧ Q (.str a) H) := by
  intro pins s σ H xs us Q I r h
  rcases h with h | h
  · exact call_str_int pins s σ H xs us Q I r h
  · exact SkE.call_str_str pins s σ H xs us Q I r h
def spPick : Sp := fun vs H Q _ => ∃ (a p : Addr) (xs : List V), vs = [.ref a, .ref p] ∧ StAt H a ∧ p ≠ a ∧ H p = some (.lst xs) ∧ xs ≠ [] ∧ xs.length ≤ 1000 ∧ ∀ v H', v ∈ xs → But a H H' → StAt H' a → Q v H'
structure W5 (P : Program) (w : World) (K : Frag) (mg : Str → Option Value) (base : Heap) : Prop extends W4 P w K mg base where
  read_row : FnAt P w K mg base (L2.CX P w) 8 "read_row" ["layout", "text"] (spRd K)
  row_word : FnAt P w K mg base (L2.CX P w) 6 "row_word" ["layout", "row"] (spRw K)
  kLay : ClsAt P w K mg base CX0 3 "Layout" (LA K) ["self", "fields", "joints"] (spLay K)
  kWord : ClsAt P w K mg base (L2.CX P w) 4 "Word" (ca K 0) ["self", "signs", "least", "most"] (spWord K)
  kNumber : ClsAt P w K mg base (L2.CX P w) 4 "Number" (ca K 1) ["self", "least", "most"] (spNumber K)
  kFixed : ClsAt P w K mg base (L2.CX P w) 4 "Fixed" (ca K 2) ["self", "width"] (spFixed K)
  kListed : ClsAt P w K mg base (L2.CX P w) 4 "Listed" (ca K 3) ["self", "texts"] (spListed K)
  kEnded : ClsAt P w K mg base (L2.CX P w) 4 "Ended" (ca K 4) ["self", "signs", "sign", "least", "most"] (spEnded K)
  kMarked : ClsAt P w K mg base (L2.CX P w) 4 "Marked" (ca K 5) ["self", "none", "mark", "field"] (spMarked K)
structure GR0 (P : Program) (w : World) (K : Frag) (mg : Str → Option Value) (base : Heap) : Prop extends W5 P w K mg base where
  law_draw : FnAt P w K mg base CX0 1 "_law_draw" ["_law_source_here", "_law_many"] spDraw

structure G6 (P : Program) (w : World) (K : Frag) (mg : Str → Option Value) (base : Heap) : Prop extends GR0 P w K mg base where
  law_pick : FnAt P w K mg base CX0 2 "_law_pick" ["_law_source_here", "_law_items"] spPick
def spMd (K : Frag) (n : Nat) : Sp := fun vs H Q _ => ∃ (s0 : Addr) (v : V) (d : FD), vs = [v] ∧ FIn s0 H v d ∧ d.good ∧ d.dep < n ∧ ∀ r H', Same H H' → FdAt K H' r d → Q (.ref r) H'
section
variable {P : Program} {w : World} {K : Frag} {mg : Str → Option Value} {base : Heap} {f : Addr} {fd : FuncData}

abbrev s_law_pick : Stmt := top 48
theorem sc_law_pick : FnScope ["_law_source_here", "_law_items"] ["_law_source_here", "_law_items"] (defScope s_law_pick) := ⟨rfl, rfl, rfl, by decide +kernel, rfl, by decide +kernel, by decide +kernel⟩

theorem ok_law_pick (F : FunD K "_law_pick" "_law_pick" (defArgs s_law_pick) (defBody s_law_pick) (defScope s_law_pick) [] [] f fd) (G : GR0 P w K mg base) : FnOk P w K mg base CX0 2 f fd ["_law_source_here", "_law_items"] spPick := by
  refine F.ok (CX := CX0) sc_law_pick (fun vs H Q E h => ?_) (fun cdv A outer s H vs Q E hr h => ?_)
  · obtain ⟨a, p, xs, rfl, _⟩ := h
    rfl
  · refine ⟨_, PSs.nox (pss_one (ps_ret (pe_ix ix_list (pv 1) (pe_fn G.law_draw hr pass0 (by rfl) (pa_cons (pv 0) (pa_cons (pe_callB call_len_seq (by rfl) G.len (by decide +kernel) (pa_cons (pv 1) pa_nil)) pa_nil))) (fun _ _ => rfl)))), ?_⟩
    obtain ⟨a, p, xs, rfl, st, hne, hp, hx, hl, q⟩ := h
    have hx0 : 0 < xs.length := List.length_pos_iff.mpr hx
    refine ⟨_, rfl, _, rfl, _, rfl, p, xs, rfl, .inl (SqL.of hp), a, (xs.length : Nat), rfl, st, by omega, by omega, fun d1 H1 h0 h1 B1 st1 => ?_⟩
    obtain ⟨i, rfl⟩ : ∃ i : Nat, d1 = (i : Int) := ⟨d1.toNat, by omega⟩
    obtain ⟨v, hv, hm⟩ := pick (xs := xs) (i := i) (by omega)
    exact ⟨p, xs, _, v, rfl, rfl, SqL.of (B1 _ _ hne hp), atI_nat (j := i) hv, q v H1 hm B1 st1⟩

abbrev s_law_made : Stmt := top 49
theorem sc_law_made : FnScope ["_law_spec"] ["_law_spec"] (defScope s_law_made) := ⟨rfl, rfl, rfl, by decide +kernel, rfl, by decide +kernel, by decide +kernel⟩

theorem ok_law_made (F : FunD K "_law_made" "_law_made" (defArgs s_law_made) (defBody s_law_made) (defScope s_law_made) [] [] f fd) (G : G6 P w K mg base) {n : Nat} (AM : FnAt P w K mg base CX0 (n + 5) "_law_made" ["_law_spec"] (spMd K n)) : FnOk P w K mg base CX0 (n + 5 + 1) f fd ["_law_spec"] (spMd K (n + 1)) := by
  refine F.ok (CX := CX0) sc_law_made (fun vs H Q E h => ?_) (fun cdv A outer s H vs Q E hr h => ?_)
  · obtain ⟨s0, v, d, rfl, _⟩ := h
    rfl
  · have hr5 : Room 5 _ := hr.mono (by omega)
    refine ⟨_, PSs.nox (pss_cons (ps_if (pt_cmpR op_eq (pe_ix ix_tup (pv 0) pe_int (fun _ _ => rfl)) pe_str (nomark _))
      (pss_one (ps_ret (pe_newS G.kWord hr5 (fun σ => passAt takes0 σ) (by rfl) (pa_cons (pe_ix ix_tup (pv 0) pe_int (fun _ _ => rfl)) (pa_cons (pe_ix ix_tup (pv 0) pe_int (fun _ _ => rfl)) (pa_cons (pe_ix ix_tup (pv 0) pe_int (fun _ _ => rfl)) pa_nil))))))
      pss_nil)
    (pss_cons (ps_if (pt_cmpR op_eq (pe_ix ix_tup (pv 0) pe_int (fun _ _ => rfl)) pe_str (nomark _))
      (pss_one (ps_ret (pe_newS G.kNumber hr5 (fun σ => passAt takes0 σ) (by rfl) (pa_cons (pe_ix ix_tup (pv 0) pe_int (fun _ _ => rfl)) (pa_cons (pe_ix ix_tup (pv 0) pe_int (fun _ _ => rfl)) pa_nil)))))
      pss_nil)
    (pss_cons (ps_if (pt_cmpR op_eq (pe_ix ix_tup (pv 0) pe_int (fun _ _ => rfl)) pe_str (nomark _))
      (pss_one (ps_ret (pe_newS G.kFixed hr5 (fun σ => passAt takes0 σ) (by rfl) (pa_cons (pe_ix ix_tup (pv 0) pe_int (fun _ _ => rfl)) pa_nil))))
      pss_nil)
    (pss_cons (ps_if (pt_cmpR op_eq (pe_ix ix_tup (pv 0) pe_int (fun _ _ => rfl)) pe_str (nomark _))
      (pss_one (ps_ret (pe_newS G.kListed hr5 (fun σ => passAt takes0 σ) (by rfl) (pa_cons (pe_ix ix_tup (pv 0) pe_int (fun _ _ => rfl)) pa_nil))))
      pss_nil)
    (pss_cons (ps_if (pt_cmpR op_eq (pe_ix ix_tup (pv 0) pe_int (fun _ _ => rfl)) pe_str (nomark _))
      (pss_one (ps_ret (pe_newS G.kEnded hr5 (fun σ => passAt takes0 σ) (by rfl) (pa_cons (pe_ix ix_tup (pv 0) pe_int (fun _ _ => rfl)) (pa_cons (pe_ix ix_tup (pv 0) pe_int (fun _ _ => rfl)) (pa_cons (pe_ix ix_tup (pv 0) pe_int (fun _ _ => rfl)) (pa_cons (pe_ix ix_tup (pv 0) pe_int (fun _ _ => rfl)) pa_nil)))))))
      pss_nil)
    (pss_one (ps_ret (pe_newS G.kMarked hr5 (fun σ => passAt takes0 σ) (by rfl) (pa_cons (pe_ix ix_tup (pv 0) pe_int (fun _ _ => rfl)) (pa_cons (pe_ix ix_tup (pv 0) pe_int (fun _ _ => rfl)) (pa_cons (pe_fn AM hr pass0 (by rfl) (pa_cons (pe_ix ix_tup (pv 0) pe_int (fun _ _ => rfl)) pa_nil)) pa_nil))))))))))), ?_⟩
    obtain ⟨s0, v, d, rfl, hP, hg, hdep, q⟩ := h
    cases d with
    | mk n m d =>
      obtain ⟨b, u, rfl, hne, hb, hI⟩ := hP
      obtain ⟨hin, hd, hn, hm, hod⟩ := hg
      obtain ⟨sn, sm⟩ := mk_due hod
      refine ⟨_, rfl, b, _, _, _, rfl, rfl, SqT.of hb, atI_nat (j := 0) rfl, rfl, _, rfl, itN (by decide +kernel) ?_⟩
      refine ⟨_, rfl, b, _, _, _, rfl, rfl, SqT.of hb, atI_nat (j := 0) rfl, rfl, _, rfl, itN (by decide +kernel) ?_⟩
      refine ⟨_, rfl, b, _, _, _, rfl, rfl, SqT.of hb, atI_nat (j := 0) rfl, rfl, _, rfl, itN (by decide +kernel) ?_⟩
      refine ⟨_, rfl, b, _, _, _, rfl, rfl, SqT.of hb, atI_nat (j := 0) rfl, rfl, _, rfl, itN (by decide +kernel) ?_⟩
      refine ⟨_, rfl, b, _, _, _, rfl, rfl, SqT.of hb, atI_nat (j := 0) rfl, rfl, _, rfl, itN (by decide +kernel) ?_⟩
      refine ⟨_, rfl, b, _, _, _, rfl, rfl, SqT.of hb, atI_nat (j := 1) rfl, _, rfl, b, _, _, _, rfl, rfl, SqT.of hb, atI_nat (j := 2) rfl, _, rfl, b, _, _, _, rfl, rfl, SqT.of hb, atI_nat (j := 3) rfl, s0, u, .pl d, rfl, hI, ⟨hin, hd⟩, Nat.lt_of_succ_lt_succ hdep, fun r H1 S1 hR => ?_⟩
      intro a dx ha hx ne
      refine ⟨a, dx, n, m, .ref r, .pl d, rfl, upd_same, hn, hm, ⟨r, rfl, hR.1.same (same_new ha hx), hin, hd⟩, fun e H2 S2 => ⟨rfl, ?_⟩, fun z e => (by have e3 := hod.symm.trans e; cases e3)⟩
      have SH : Same H1 H2 := (same_new ha hx).trans S2
      exact q _ _ (S1.trans (same_put SH ha)) ⟨⟨dx, r, upd_same, hR.1.same (same_put SH ha)⟩, hin, hd, ⟨_, (sign_one sn).1⟩, _, (sign_one sm).1⟩
    | pl d =>
    obtain ⟨hin, hd⟩ := hg
    cases d with
    | word s l m =>
      obtain ⟨b, rfl, hn, hb⟩ := hP
      have hin0 := hin
      obtain ⟨hs, hl, hm⟩ := hin
      refine ⟨_, rfl, b, _, _, _, rfl, rfl, SqT.of hb, atI_nat (j := 0) rfl, rfl, _, rfl, itY ?_⟩
      refine ⟨_, rfl, b, _, _, _, rfl, rfl, SqT.of hb, atI_nat (j := 1) rfl, _, rfl, b, _, _, _, rfl, rfl, SqT.of hb, atI_nat (j := 2) rfl, _, rfl, b, _, _, _, rfl, rfl, SqT.of hb, atI_nat (j := 3) rfl, fun a dx ha hx ne => ?_⟩
      exact ⟨a, dx, s, l, m, rfl, upd_same, hs, hl, hm, fun e => ⟨rfl, q _ _ (same_put (same_new ha hx) ha) ⟨⟨dx, upd_same⟩, hin0, hd⟩⟩, fun z e => (by have e3 := hd.symm.trans e; cases e3)⟩
    | number l m =>
      obtain ⟨b, rfl, hn, hb⟩ := hP
      have hin0 := hin
      obtain ⟨hl, hm⟩ := hin
      refine ⟨_, rfl, b, _, _, _, rfl, rfl, SqT.of hb, atI_nat (j := 0) rfl, rfl, _, rfl, itN (by decide +kernel) ?_⟩
      refine ⟨_, rfl, b, _, _, _, rfl, rfl, SqT.of hb, atI_nat (j := 0) rfl, rfl, _, rfl, itY ?_⟩
      refine ⟨_, rfl, b, _, _, _, rfl, rfl, SqT.of hb, atI_nat (j := 1) rfl, _, rfl, b, _, _, _, rfl, rfl, SqT.of hb, atI_nat (j := 2) rfl, fun a dx ha hx ne => ?_⟩
      exact ⟨a, dx, l, m, rfl, upd_same, hl, hm, fun e => ⟨rfl, q _ _ (same_put (same_new ha hx) ha) ⟨⟨dx, upd_same⟩, hin0, hd⟩⟩, fun z e => (by have e3 := hd.symm.trans e; cases e3)⟩
    | fixed w =>
      obtain ⟨b, rfl, hn, hb⟩ := hP
      have hin0 := hin
      refine ⟨_, rfl, b, _, _, _, rfl, rfl, SqT.of hb, atI_nat (j := 0) rfl, rfl, _, rfl, itN (by decide +kernel) ?_⟩
      refine ⟨_, rfl, b, _, _, _, rfl, rfl, SqT.of hb, atI_nat (j := 0) rfl, rfl, _, rfl, itN (by decide +kernel) ?_⟩
      refine ⟨_, rfl, b, _, _, _, rfl, rfl, SqT.of hb, atI_nat (j := 0) rfl, rfl, _, rfl, itY ?_⟩
      refine ⟨_, rfl, b, _, _, _, rfl, rfl, SqT.of hb, atI_nat (j := 1) rfl, fun a dx ha hx ne => ?_⟩
      exact ⟨a, dx, w, rfl, upd_same, hin, fun e => ⟨rfl, q _ _ (same_put (same_new ha hx) ha) ⟨⟨dx, upd_same⟩, hin0, hd⟩⟩, fun z e => (by have e3 := hd.symm.trans e; cases e3)⟩
    | ended s e l m =>
      obtain ⟨b, rfl, hn, hb⟩ := hP
      have hin0 := hin
      obtain ⟨hs, he, hl, hm⟩ := hin
      refine ⟨_, rfl, b, _, _, _, rfl, rfl, SqT.of hb, atI_nat (j := 0) rfl, rfl, _, rfl, itN (by decide +kernel) ?_⟩
      refine ⟨_, rfl, b, _, _, _, rfl, rfl, SqT.of hb, atI_nat (j := 0) rfl, rfl, _, rfl, itN (by decide +kernel) ?_⟩
      refine ⟨_, rfl, b, _, _, _, rfl, rfl, SqT.of hb, atI_nat (j := 0) rfl, rfl, _, rfl, itN (by decide +kernel) ?_⟩
      refine ⟨_, rfl, b, _, _, _, rfl, rfl, SqT.of hb, atI_nat (j := 0) rfl, rfl, _, rfl, itN (by decide +kernel) ?_⟩
      refine ⟨_, rfl, b, _, _, _, rfl, rfl, SqT.of hb, atI_nat (j := 0) rfl, rfl, _, rfl, itY ?_⟩
      refine ⟨_, rfl, b, _, _, _, rfl, rfl, SqT.of hb, atI_nat (j := 1) rfl, _, rfl, b, _, _, _, rfl, rfl, SqT.of hb, atI_nat (j := 2) rfl, _, rfl, b, _, _, _, rfl, rfl, SqT.of hb, atI_nat (j := 3) rfl, _, rfl, b, _, _, _, rfl, rfl, SqT.of hb, atI_nat (j := 4) rfl, fun a dx ha hx ne => ?_⟩
      exact ⟨a, dx, s, e, l, m, rfl, upd_same, hs, he, hl, hm, fun e => ⟨rfl, q _ _ (same_put (same_new ha hx) ha) ⟨⟨dx, upd_same⟩, hin0, hd⟩⟩, fun z e => (by have e3 := hd.symm.trans e; cases e3)⟩
    | listed x =>
      obtain ⟨b, u, rfl, hn, hb, hL, _⟩ := hP
      refine ⟨_, rfl, b, _, _, _, rfl, rfl, SqT.of hb, atI_nat (j := 0) rfl, rfl, _, rfl, itN (by decide +kernel) ?_⟩
      refine ⟨_, rfl, b, _, _, _, rfl, rfl, SqT.of hb, atI_nat (j := 0) rfl, rfl, _, rfl, itN (by decide +kernel) ?_⟩
      refine ⟨_, rfl, b, _, _, _, rfl, rfl, SqT.of hb, atI_nat (j := 0) rfl, rfl, _, rfl, itN (by decide +kernel) ?_⟩
      refine ⟨_, rfl, b, _, _, _, rfl, rfl, SqT.of hb, atI_nat (j := 0) rfl, rfl, _, rfl, itY ?_⟩
      refine ⟨_, rfl, b, _, _, _, rfl, rfl, SqT.of hb, atI_nat (j := 1) rfl, fun a dx ha hx ne => ?_⟩
      refine ⟨a, dx, u, x, rfl, upd_same, hin, hL.same (same_new ha hx), fun e t H2 S2 e2 => ⟨rfl, ?_⟩, fun z e => (by have e3 := hd.symm.trans e; cases e3)⟩
      have SH : Same H H2 := (same_new ha hx).trans S2
      obtain ⟨ob, c1, c2, c3⟩ := e2
      have nt : t ≠ a := ne_of c3 (S2 _ _ upd_same) (fun z => by cases z)
      exact q _ _ (same_put SH ha) ⟨⟨dx, t, upd_same, ob, c1, c2, by rw [upd_ne nt]; exact c3⟩, hin, hd⟩


end
end L2.K80

set_option Elab.async false
set_option linter.all false
set_option maxRecDepth 100000
set_option maxHeartbeats 4000000
/-! The law: shuffled, small. -/
namespace L2.K80
open PySem PySem.W PySem.Spec PySem.Calls PyProof.Rows L2.Jk
def spShuf : Sp := fun vs H Q _ => ∃ (a p : Addr) (ts : List Str), vs = [.ref a, .ref p] ∧ StAt H a ∧ p ≠ a ∧ H p = some (.lst (ts.map V.str)) ∧ (∀ t ∈ ts, t ∈ allL) ∧ ts.length ≤ 12 ∧
  ∀ r (ys : List Str) H', H r = none → ys.Perm ts → But a H H' → StAt H' a → H' r = some (.lst (ys.map V.str)) → Q (.ref r) H'
theorem dp_strs {K : Frag} {H : Hp} {p : Addr} {ts : List Str} (h : H p = some (.lst (ts.map V.str))) : Dp K H (.ref p) (.list ((ts.map V.str).map dV)) := .lst (SqL.of h) (dpAll_flat (by rw [List.all_map]; exact List.all_eq_true.mpr fun _ _ => rfl))
theorem sh_strs {ts : List Str} (h : ∀ t ∈ ts, t ∈ allL) : SeqAt.shaped (.list ((ts.map V.str).map dV)) = true := by
  obtain ⟨l1, l2⟩ := lay_strs ts fun t ht => (menu_are t (h t ht)).2.2.1
  refine Bool.and_eq_true_iff.mpr ⟨l1, decide_eq_true ?_⟩
  show PyData.depthAll ((ts.map V.str).map dV) + 1 ≤ 64
  omega
theorem eqv_nil : ∀ ts : List Str, PyData.eqv (.list ((ts.map V.str).map dV)) (.list []) = decide (ts = [])
  | [] => rfl
  | _ :: _ => rfl
theorem StAt.put {H : Hp} {a p : Addr} {o : HO} (st : StAt H a) (n : p ≠ a) : StAt (upd H p o) a := by
  obtain ⟨x, y, z, e, r⟩ := st
  exact ⟨x, y, z, by rw [upd_ne (Ne.symm n)]; exact e, r⟩
theorem but_put {H H1 : Hp} {a p : Addr} {o : HO} (B : But a H H1) (n : H p = none) : But a H (upd H1 p o) := fun b u h e => by
  rw [upd_ne (ne_of_none e n)]
  exact B b u h e
section
variable {P : Program} {w : World} {K : Frag} {mg : Str → Option Value} {base : Heap} {f : Addr} {fd : FuncData}

abbrev s_law_shuffled : Stmt := top 50
theorem sc_law_shuffled : FnScope ["_law_source_here", "_law_items", "_law_left", "_law_found"] ["_law_source_here", "_law_items"] (defScope s_law_shuffled) := ⟨rfl, rfl, rfl, by decide +kernel, rfl, by decide +kernel, by decide +kernel⟩

theorem ok_law_shuffled (F : FunD K "_law_shuffled" "_law_shuffled" (defArgs s_law_shuffled) (defBody s_law_shuffled) (defScope s_law_shuffled) [] [] f fd) (G : G6 P w K mg base) : FnOk P w K mg base CX0 2 f fd ["_law_source_here", "_law_items"] spShuf := by
  refine F.ok (CX := CX0) sc_law_shuffled (fun vs H Q E h => ?_) (fun cdv A outer s H vs Q E hr h => ?_)
  · obtain ⟨a, p, ts, rfl, _⟩ := h
    rfl
  · refine ⟨_, PSs.nox (pss_cons (ps_par (i := 2) (j := 3) (by rfl) sc_law_shuffled.nd rfl rfl (by decide) rfl rfl (pa_cons (pe_callTy call_list_of (by rfl) G.list (by decide +kernel) (pa_cons (pv 1) pa_nil)) (pa_cons (pe_lstS pa_nil) pa_nil)) (by rfl))
    (pss_cons (ps_while PassesOwn.never (pt_cmpR (op_neD hr.units) (pv 2) (pe_lstS pa_nil) (nomark _))
      (pss_one (ps_expr (pe_bm PySem.F.plainAttrs_list PySem.F.slot_list_append PySem.F.type_list_append mt_append (pv 3) (pa_cons (pe_bm PySem.F.plainAttrs_list PySem.F.slot_list_pop PySem.F.type_list_pop mt_popAt (pv 2) (pa_cons (pe_fn G.law_draw hr pass0 (by rfl) (pa_cons (pv 0) (pa_cons (pe_callB call_len_seq (by rfl) G.len (by decide +kernel) (pa_cons (pv 2) pa_nil)) pa_nil))) pa_nil)) pa_nil)))))
    (pss_one (ps_ret (pv 3))))), ?_⟩
    obtain ⟨a, p, ts, rfl, st, hpa, hp, hn, hl, q⟩ := h
    refine ⟨_, rfl, p, _, rfl, .inl (SqL.of hp), fun pl hpl => ?_⟩
    refine ⟨by show 0 ≤ 1000; decide, fun pf H2 hpf S2 e2 => ⟨_, _, rfl, ?_⟩⟩
    have S1 : Same H (upd H pl (.lst (ts.map V.str))) := same_upd hpl
    have npl : pl ≠ a := st.ne hpl
    have st2 : StAt H2 a := (st.same S1).same S2
    have hpf0 : H pf = none := none_of S1 hpf
    have npf : pf ≠ a := st.ne hpf0
    have nlf : pf ≠ pl := fun e => by rw [e, upd_same] at hpf; cases hpf
    refine ⟨fun m σ' H' => ∃ left found : List Str, left.length = m ∧ σ' = [some (.ref a), some (.ref p), some (.ref pl), some (.ref pf)] ∧ H' pl = some (.lst (left.map V.str)) ∧ H' pf = some (.lst (found.map V.str)) ∧ (found ++ left).Perm ts ∧ But a H H' ∧ StAt H' a,
      ⟨ts.length, ts, [], rfl, rfl, S2 _ _ upd_same, e2, List.Perm.refl _, But.of_same (S1.trans S2), st2⟩, ?_⟩
    rintro m σ' H' ⟨left, found, hm, rfl, el, ef, perm, B, st'⟩
    have hsub : ∀ t ∈ left, t ∈ allL := fun t ht => hn t (perm.mem_iff.mp (List.mem_append_right _ ht))
    have hlen := perm.length_eq
    rw [List.length_append] at hlen
    refine ⟨_, rfl, by show 0 ≤ 1000; decide, fun pe H3 hpe S3 e3 => ⟨_, _, dp_strs (S3 _ _ el), .lst (SqL.of e3) .nil, sh_strs hsub, by decide +kernel, _, rfl, ?_⟩⟩
    rw [eqv_nil]
    refine ite2 (fun c => ?_) (fun c => ?_)
    · have hne : left ≠ [] := fun e => by rw [decide_eq_true e] at c; cases c
      have hpos := List.length_pos_iff.mpr hne
      have st3 := st'.same S3
      refine ⟨fun σ2 H2 => ∃ left found : List Str, left.length < m ∧ σ2 = [some (.ref a), some (.ref p), some (.ref pl), some (.ref pf)] ∧ H2 pl = some (.lst (left.map V.str)) ∧ H2 pf = some (.lst (found.map V.str)) ∧ (found ++ left).Perm ts ∧ But a H H2 ∧ StAt H2 a,
        fun σ2 H2 ⟨l2, f2, h⟩ => ⟨l2.length, h.1, l2, f2, rfl, h.2⟩, ?_⟩
      refine ⟨_, rfl, .inl ⟨rfl, _, SqL.of (S3 _ _ ef)⟩, _, rfl, .inl ⟨rfl, _, SqL.of (S3 _ _ el)⟩, _, rfl, _, rfl, pl, _, rfl, .inl (SqL.of (S3 _ _ el)), a, _, rfl, st3, ?_, ?_, fun d H4 h0 h1 B4 st4 => ?_⟩
      · rw [List.length_map]
        omega
      · rw [List.length_map]
        omega
      obtain ⟨k, rfl⟩ : ∃ k : Nat, d = (k : Int) := ⟨d.toNat, by omega⟩
      rw [List.length_map] at h1
      have hk : k < left.length := by omega
      obtain ⟨y, hy, my⟩ := pick hk
      have el4 := B4 _ _ npl (S3 _ _ el)
      have ef4 := B4 _ _ npf (S3 _ _ ef)
      refine ⟨pl, _, _, k, .str y, rfl, rfl, el4, by omega, by omega, ?_, by rw [List.getElem?_map, hy]; rfl, pf, _, _, rfl, rfl, by rw [upd_ne nlf]; exact ef4, by rw [List.length_map, sizeLine_eq]; omega, left.eraseIdx k, found ++ [y], ?_, rfl, ?_, ?_, ?_, ?_, ?_⟩
      · refine (ixN_seq ?_).1
        unfold ixN
        rw [List.length_map, if_pos (by omega), if_pos (by omega)]
        simp
      · rw [List.length_eraseIdx_of_lt hk]
        omega
      · rw [upd_ne (Ne.symm nlf), upd_same, map_eraseIdx']
      · rw [upd_same, List.map_append]
        rfl
      · have e1 := erase_perm left k hk
        have e2 : left[k] = y := by
          have z := List.getElem?_eq_getElem hk
          rw [hy] at z
          exact (Option.some.inj z).symm
        rw [e2] at e1
        rw [List.append_assoc]
        exact (List.Perm.append_left found e1).trans perm
      · exact but_put (but_put ((B.trans (But.of_same S3)).trans B4) hpl) hpf0
      · exact (st4.put npl).put npf
    · have he : left = [] := by
        cases left with
        | nil => rfl
        | cons x xs => exact absurd rfl c
      subst he
      rw [List.append_nil] at perm
      exact ⟨_, rfl, q pf found H3 hpf0 perm (B.trans (But.of_same S3)) (st'.same S3) (S3 _ _ ef)⟩

end
end L2.K80

set_option Elab.async false
set_option linter.all false
set_option maxRecDepth 100000
set_option maxHeartbeats 4000000
/-! The law: a drawn field. -/
namespace L2.K80
open PySem PySem.W PySem.Spec PySem.Calls PyProof.Rows L2.Jk
inductive FrF : FD → Prop
  | pl {d : PD} : DrP farW farL d → FrF (.pl d)
  | mk {n : Str} {d : PD} : n ∈ marks → DrP farW farL d → FrF (.mk (.str n) (.str "M") d)
theorem FrF.dr : ∀ {d : FD}, FrF d → DrF d
  | _, .pl h => .pl h.all
  | _, .mk a h => .mk a h
def spFar (n : Nat) : Sp := fun vs H Q _ => ∃ (a : Addr) (b : Bool), vs = [.ref a, .bl b] ∧ StAt H a ∧ (if b = true then 1 else 2) ≤ n ∧
  ∀ v d H', FrF d → (b = true → ∃ d', d = .pl d' ∧ DrP farW farL d') → FIn a H' v d → But a H H' → StAt H' a → Q v H'
structure GM (P : Program) (w : World) (K : Frag) (mg : Str → Option Value) (base : Heap) : Prop extends G6 P w K mg base where
  law_shuffled : FnAt P w K mg base CX0 2 "_law_shuffled" ["_law_source_here", "_law_items"] spShuf
theorem cut_take {ys : List Str} {j : Nat} (h : 1 ≤ ys.length) : ∃ zs : List Str, cutV (ys.map V.str) none (some (1 + (j : Int))) = zs.map V.str ∧ zs.Sublist ys ∧ zs ≠ [] := by
  refine ⟨ys.take (HT.sIx ys.length ys.length (some (1 + (j : Int)))), ?_, List.take_sublist _ _, fun e => ?_⟩
  · unfold cutV
    rw [List.length_map, List.map_take]
    show ((ys.map V.str).drop 0).take (_ - 0) = _
    rw [List.drop_zero, Nat.sub_zero]
  · have z := congrArg List.length e
    rw [List.length_take] at z
    have k : 1 ≤ HT.sIx ys.length ys.length (some (1 + (j : Int))) := by
      rw [show 1 + (j : Int) = ((1 + j : Nat) : Int) by omega, HT.sIx_nat]
      omega
    have z : min (HT.sIx ys.length ys.length (some (1 + (j : Int)))) ys.length = 0 := z
    omega
theorem ne_lit {d : Int} {k : Nat} (h : ¬ decide (V.int d = V.int (k : Nat)) = true) : d ≠ (k : Int) := fun e => h (decide_eq_true (by rw [e]))
theorem eq_lit {d : Int} {k : Nat} (h : decide (V.int d = V.int (k : Nat)) = true) : d = (k : Int) := by
  have z := of_decide_eq_true h
  injection z
/-- a listed field of some of the texts, in a drawn order -/
theorem lst_dr {wz lz ts ys zs : List Str} (hn : ts.Nodup) (hs : ∀ t ∈ ts, t ∈ lz) (hl : ts.length ≤ 12) (hp : ys.Perm ts) (hz : zs.Sublist ys) (h0 : zs ≠ []) : DrP wz lz (.listed (.lst (zs.map V.str))) :=
  .listed (hz.nodup (hp.symm.nodup hn)) (fun t ht => hs t (hp.mem_iff.mp (hz.mem ht))) h0 (Nat.le_trans hz.length_le (by rw [hp.length_eq]; exact hl))
section
variable {P : Program} {w : World} {K : Frag} {mg : Str → Option Value} {base : Heap} {f : Addr} {fd : FuncData}

abbrev s_law_far : Stmt := top 51
theorem sc_law_far : FnScope ["_law_source_here", "_law_is_inner", "_law_way", "_law_least", "_law_most", "_law_some_here"] ["_law_source_here", "_law_is_inner"] (defScope s_law_far) := ⟨rfl, rfl, rfl, by decide +kernel, rfl, by decide +kernel, by decide +kernel⟩

theorem ok_law_far (F : FunD K "_law_far" "_law_far" (defArgs s_law_far) (defBody s_law_far) (defScope s_law_far) [] [] f fd) {n : Nat} (G : GM P w K mg base) (AM : FnAt P w K mg base CX0 (n + 2) "_law_far" ["_law_source_here", "_law_is_inner"] (spFar n)) : FnOk P w K mg base CX0 (n + 2 + 1) f fd ["_law_source_here", "_law_is_inner"] (spFar (n + 1)) := by
  refine F.ok (CX := CX0) sc_law_far (fun vs H Q E h => ?_) (fun cdv A outer s H vs Q E hr h => ?_)
  · obtain ⟨_, _, rfl, _⟩ := h
    rfl
  · refine ⟨_, PSs.nox (C8.pss_cut (ps_par (i := 2) (j := 3) (by rfl) sc_law_far.nd rfl rfl (by decide) rfl rfl (pa_cons (pe_fn G.law_draw (hr.mono (by omega)) pass0 (by rfl) (pa_cons (pv 0) (pa_cons (pe_ifExp (pt_val (pv 1)) pe_int pe_int) pa_nil))) (pa_cons (pe_fn G.law_draw (hr.mono (by omega)) pass0 (by rfl) (pa_cons (pv 0) (pa_cons pe_int pa_nil))) pa_nil)) (by rfl))
    (C8.pss_cut (ps_set (i := 4) sc_law_far.nd rfl (Or.inl rfl) (pe_fn G.law_pick (hr.mono (by omega)) pass0 (by rfl) (pa_cons (pv 0) (pa_cons (pe_lstS (pa_cons pe_non (pa_cons pe_non (pa_cons (pv 3) (pa_cons (pe_op op_add (pv 3) pe_int) (pa_cons pe_int pa_nil)))))) pa_nil))))
    (pss_cons (ps_if (pt_cmpR op_eq (pv 2) pe_int (nomark _))
      (pss_one (ps_ret (pe_tupS (pa_cons pe_str (pa_cons (pe_fn G.law_pick (hr.mono (by omega)) pass0 (by rfl) (pa_cons (pv 0) (pa_cons (pe_lstS (pa_cons pe_str (pa_cons pe_str (pa_cons pe_str (pa_cons pe_str (pa_cons pe_str pa_nil)))))) pa_nil))) (pa_cons (pv 3) (pa_cons (pv 4) pa_nil)))))))
      pss_nil)
    (pss_cons (ps_if (pt_cmpR op_eq (pv 2) pe_int (nomark _))
      (pss_cons (ps_set (i := 3) sc_law_far.nd rfl (Or.inl rfl) (pe_fn G.law_pick (hr.mono (by omega)) pass0 (by rfl) (pa_cons (pv 0) (pa_cons (pe_lstS (pa_cons pe_int (pa_cons pe_int (pa_cons pe_int (pa_cons pe_int (pa_cons pe_int (pa_cons pe_int pa_nil))))))) pa_nil))))
      (pss_one (ps_ret (pe_tupS (pa_cons pe_str (pa_cons (pv 3) (pa_cons (pe_fn G.law_pick (hr.mono (by omega)) pass0 (by rfl) (pa_cons (pv 0) (pa_cons (pe_lstS (pa_cons pe_non (pa_cons pe_non (pa_cons (pv 3) (pa_cons (pe_op op_add (pv 3) pe_int) (pa_cons pe_int (pa_cons (pe_op op_pow pe_int pe_int) pa_nil))))))) pa_nil))) pa_nil)))))))
      pss_nil)
    (pss_cons (ps_if (pt_cmpR op_eq (pv 2) pe_int (nomark _))
      (pss_one (ps_ret (pe_tupS (pa_cons pe_str (pa_cons (pe_op op_add pe_int (pe_fn G.law_draw (hr.mono (by omega)) pass0 (by rfl) (pa_cons (pv 0) (pa_cons pe_int pa_nil)))) pa_nil)))))
      pss_nil)
    (pss_cons (ps_if (pt_cmpR op_eq (pv 2) pe_int (nomark _))
      (pss_cons (ps_set (i := 5) sc_law_far.nd rfl (Or.inl rfl) (pe_fn G.law_shuffled (hr.mono (by omega)) pass0 (by rfl) (pa_cons (pv 0) (pa_cons (pe_lstS (pa_cons pe_str (pa_cons pe_str (pa_cons pe_str (pa_cons pe_str (pa_cons pe_str (pa_cons pe_str (pa_cons pe_str (pa_cons pe_str (pa_cons pe_str (pa_cons pe_str (pa_cons pe_str (pa_cons pe_str pa_nil))))))))))))) pa_nil))))
      (pss_one (ps_ret (pe_tupS (pa_cons pe_str (pa_cons (pe_slice sl_listS (pv 5) po_none (po_some (pe_op op_add pe_int (pe_fn G.law_draw (hr.mono (by omega)) pass0 (by rfl) (pa_cons (pv 0) (pa_cons pe_int pa_nil)))))) pa_nil))))))
      pss_nil)
    (pss_cons (ps_if (pt_cmpR op_eq (pv 2) pe_int (nomark _))
      (pss_one (ps_ret (pe_tupS (pa_cons pe_str (pa_cons (pe_fn G.law_pick (hr.mono (by omega)) pass0 (by rfl) (pa_cons (pv 0) (pa_cons (pe_lstS (pa_cons pe_str (pa_cons pe_str (pa_cons pe_str pa_nil)))) pa_nil))) (pa_cons (pe_fn G.law_pick (hr.mono (by omega)) pass0 (by rfl) (pa_cons (pv 0) (pa_cons (pe_lstS (pa_cons pe_str (pa_cons pe_str pa_nil))) pa_nil))) (pa_cons (pv 3) (pa_cons (pv 4) pa_nil))))))))
      pss_nil)
    (pss_one (ps_ret (pe_tupS (pa_cons pe_str (pa_cons (pe_fn G.law_pick (hr.mono (by omega)) pass0 (by rfl) (pa_cons (pv 0) (pa_cons (pe_lstS (pa_cons pe_str (pa_cons pe_str pa_nil))) pa_nil))) (pa_cons pe_str (pa_cons (pe_fn AM hr pass0 (by rfl) (pa_cons (pv 0) (pa_cons pe_bl pa_nil))) pa_nil)))))))))))))), ?_⟩
    obtain ⟨a, b, rfl, st, hn, q⟩ := h
    refine ⟨fun σ J => ∃ (d0 : Int) (l : Nat) (v4 v5 : Option V), σ = [some (.ref a), some (.bl b), some (.int d0), some (.int (l : Nat)), v4, v5] ∧ 0 ≤ d0 ∧ d0 < 6 ∧ (b = true → d0 < 5) ∧ l < 3 ∧ But a H J ∧ StAt J a, ?_, ?_⟩
    · refine ⟨_, rfl, _, rfl, _, rfl, ?_⟩
      cases b with
      | true => exact iteT ⟨a, 5, rfl, st, by decide, by decide, fun d0 H0 h00 h10 B0 st0 => ⟨_, rfl, a, 3, rfl, st0, by decide, by decide, fun d1 H1 h01 h11 B1 st1 => ⟨_, _, rfl, d0, d1.toNat, _, _, by rw [Int.toNat_of_nonneg h01]; rfl, h00, by omega, fun _ => h10, by omega, B0.trans B1, st1⟩⟩⟩
      | false => exact iteF ⟨a, 6, rfl, st, by decide, by decide, fun d0 H0 h00 h10 B0 st0 => ⟨_, rfl, a, 3, rfl, st0, by decide, by decide, fun d1 H1 h01 h11 B1 st1 => ⟨_, _, rfl, d0, d1.toNat, _, _, by rw [Int.toNat_of_nonneg h01]; rfl, h00, by omega, (fun z => by cases z), by omega, B0.trans B1, st1⟩⟩⟩
    rintro σ J ⟨d0, l, v4, v5, rfl, h00, h10, hb5, hl, B, stJ⟩
    refine ⟨fun σ J => ∃ (m : V) (v5 : Option V), σ = [some (.ref a), some (.bl b), some (.int d0), some (.int (l : Nat)), some m, v5] ∧ MB l m ∧ But a H J ∧ StAt J a, ?_, ?_⟩
    · refine ⟨_, rfl, _, rfl, _, rfl, _, _, rfl, rfl, by show 5 ≤ 1000; decide, fun p2 H2 hp2 S2 e2 => ⟨a, p2, _, rfl, stJ.same S2, stJ.ne hp2, e2, by simp, by show 5 ≤ 1000; decide, fun v2 G2 hv2 B2 st2 => ⟨v2, _, rfl, ?_, (B.trans (But.of_same S2)).trans B2, st2⟩⟩⟩
      simp only [List.mem_cons, List.not_mem_nil, or_false] at hv2
      rcases hv2 with rfl | rfl | rfl | rfl | rfl
      · exact .inl rfl
      · exact .inl rfl
      · exact .inr ⟨l, rfl, Nat.le_refl _, by omega⟩
      · exact .inr ⟨l + 1, rfl, by omega, by omega⟩
      · exact .inr ⟨12, rfl, by omega, by decide⟩
    rintro σ J1 ⟨m, v5, rfl, hm, B1, st1⟩
    refine ⟨_, rfl, rfl, _, rfl, ?_⟩
    refine ite2 (fun c0 => ?_) (fun c0 => ?_)
    · -- a word
      refine ⟨_, rfl, by show 5 ≤ 1000; decide, fun p2 H2 hp2 S2 e2 => ⟨a, p2, farW.map V.str, rfl, st1.same S2, st1.ne hp2, e2, by decide, by decide, fun v2 G2 hv2 B2 st2 => ?_⟩⟩
      obtain ⟨z, hz, rfl⟩ := List.mem_map.mp hv2
      refine ⟨_, rfl, _, rfl, by show 4 ≤ 1000; decide, fun t H5 ht S5 e5 => ?_⟩
      exact q _ (.pl (.word (.str z) (.int (l : Nat)) m)) _ (.pl (.word hz (by omega) hm)) (fun _ => ⟨_, rfl, .word hz (by omega) hm⟩) ⟨t, rfl, st2.ne ht, e5⟩ (((B1.trans (But.of_same S2)).trans B2).trans (But.of_same S5)) (st2.same S5)
    refine ⟨_, rfl, rfl, _, rfl, ?_⟩
    refine ite2 (fun c1 => ?_) (fun c1 => ?_)
    · -- a number
      refine ⟨_, rfl, by show 6 ≤ 1000; decide, fun p2 H2 hp2 S2 e2 => ⟨a, p2, (([0, 1, 7, 10, 99, 100] : List Nat).map fun l : Nat => V.int (l : Int)), rfl, st1.same S2, st1.ne hp2, e2, by decide, by decide, fun v2 G2 hv2 B2 st2 => ?_⟩⟩
      obtain ⟨l2, hl2, rfl⟩ := List.mem_map.mp hv2
      have hl2' : l2 ≤ 100 := by
        have : ∀ k ∈ ([0, 1, 7, 10, 99, 100] : List Nat), k ≤ 100 := by decide
        exact this l2 hl2
      refine ⟨_, rfl, _, rfl, _, rfl, _, rfl, _, _, rfl, rfl, _, _, rfl, rfl, ⟨by decide, by decide, by decide⟩, by show 6 ≤ 1000; decide, fun p4 H4 hp4 S4 e4 => ⟨a, p4, _, rfl, st2.same S4, st2.ne hp4, e4, by simp, by show 6 ≤ 1000; decide, fun v4 G4 hv4 B4 st4 => ?_⟩⟩
      have hm4 : MB l2 v4 := by
        simp only [List.mem_cons, List.not_mem_nil, or_false] at hv4
        rcases hv4 with rfl | rfl | rfl | rfl | rfl | rfl
        · exact .inl rfl
        · exact .inl rfl
        · exact .inr ⟨l2, rfl, Nat.le_refl _, by omega⟩
        · exact .inr ⟨l2 + 1, rfl, by omega, by omega⟩
        · exact .inr ⟨999, rfl, by omega, by decide⟩
        · exact .inr ⟨100000000, congrArg V.int (by decide +kernel), by omega, by decide⟩
      refine ⟨by show 3 ≤ 1000; decide, fun t H5 ht S5 e5 => ?_⟩
      exact q _ (.pl (.number (.int (l2 : Nat)) v4)) _ (.pl (.number (by omega) hm4)) (fun _ => ⟨_, rfl, .number (by omega) hm4⟩) ⟨t, rfl, st4.ne ht, e5⟩ (((((B1.trans (But.of_same S2)).trans B2).trans (But.of_same S4)).trans B4).trans (But.of_same S5)) (st4.same S5)
    refine ⟨_, rfl, rfl, _, rfl, ?_⟩
    refine ite2 (fun c2 => ?_) (fun c2 => ?_)
    · -- a fixed one
      refine ⟨_, rfl, a, 4, rfl, st1, by decide, by decide, fun d1 H2 h01 h11 B2 st2 => ?_⟩
      obtain ⟨k, rfl⟩ : ∃ k : Nat, d1 = (k : Int) := ⟨d1.toNat, by omega⟩
      refine ⟨1, (k : Int), rfl, rfl, by show 2 ≤ 1000; decide, fun t H5 ht S5 e5 => ?_⟩
      dsimp only at e5
      rw [show 1 + (k : Int) = ((1 + k : Nat) : Int) by omega] at e5
      exact q _ (.pl (.fixed (.int ((1 + k : Nat) : Int)))) _ (.pl (.fixed (by omega) (by omega))) (fun _ => ⟨_, rfl, .fixed (by omega) (by omega)⟩) ⟨t, rfl, st2.ne ht, e5⟩ ((B1.trans B2).trans (But.of_same S5)) (st2.same S5)
    refine ⟨_, rfl, rfl, _, rfl, ?_⟩
    refine ite2 (fun c3 => ?_) (fun c3 => ?_)
    · -- a listed one
      refine ⟨_, rfl, by show 12 ≤ 1000; decide, fun p2 H2 hp2 S2 e2 => ⟨a, p2, farL, rfl, st1.same S2, st1.ne hp2, e2, fun t ht => List.mem_append_right _ ht, by decide, fun r ys G2 hr0 perm B2 st2 er => ?_⟩⟩
      have nr : r ≠ a := st1.ne (none_of S2 hr0)
      have hyl : 1 ≤ ys.length := by rw [perm.length_eq]; decide
      refine ⟨_, rfl, _, rfl, a, 12, rfl, st2, by decide, by decide, fun d1 G3 h01 h11 B3 st3 => ?_⟩
      obtain ⟨k, rfl⟩ : ∃ k : Nat, d1 = (k : Int) := ⟨d1.toNat, by omega⟩
      obtain ⟨zs, ez, sub, hz0⟩ := cut_take (j := k) hyl
      refine ⟨_, _, rfl, rfl, 1 + (k : Int), rfl, r, _, rfl, SqL.of (B3 _ _ nr er), fun p5 G4 hp5 S4 e5 => ?_⟩
      rw [ez] at e5
      have np5 := st3.ne hp5
      refine ⟨by show 2 ≤ 1000; decide, fun t G5 ht S5 e6 => ?_⟩
      have hD : ∀ {wz : List Str}, DrP wz farL (.listed (.lst (zs.map V.str))) := lst_dr (by decide) (fun _ h => h) (by decide) perm sub hz0
      exact q _ (.pl (.listed (.lst (zs.map V.str)))) _ (.pl hD) (fun _ => ⟨_, rfl, hD⟩) ⟨t, .ref p5, rfl, (st3.same S4).ne ht, e6, ⟨p5, rfl, S5 _ _ e5⟩, fun c ec => by cases ec; exact np5⟩ (((((B1.trans (But.of_same S2)).trans B2).trans B3).trans (But.of_same S4)).trans (But.of_same S5)) ((st3.same S4).same S5)
    refine ⟨_, rfl, rfl, _, rfl, ?_⟩
    refine ite2 (fun c4 => ?_) (fun c4 => ?_)
    · -- an ended one
      refine ⟨_, rfl, by show 3 ≤ 1000; decide, fun p2 H2 hp2 S2 e2 => ⟨a, p2, endZ.map V.str, rfl, st1.same S2, st1.ne hp2, e2, by decide, by decide, fun v2 G2 hv2 B2 st2 => ?_⟩⟩
      obtain ⟨z, hz, rfl⟩ := List.mem_map.mp hv2
      refine ⟨_, rfl, by show 2 ≤ 1000; decide, fun p3 H3 hp3 S3 e3 => ⟨a, p3, endE.map V.str, rfl, st2.same S3, st2.ne hp3, e3, by decide, by decide, fun v3 G3 hv3 B3 st3 => ?_⟩⟩
      obtain ⟨e, he, rfl⟩ := List.mem_map.mp hv3
      refine ⟨_, rfl, _, rfl, by show 5 ≤ 1000; decide, fun t H5 ht S5 e5 => ?_⟩
      exact q _ (.pl (.ended (.str z) (.str e) (.int (l : Nat)) m)) _ (.pl (.ended hz he (by omega) hm)) (fun _ => ⟨_, rfl, .ended hz he (by omega) hm⟩) ⟨t, rfl, st3.ne ht, e5⟩ (((((B1.trans (But.of_same S2)).trans B2).trans (But.of_same S3)).trans B3).trans (But.of_same S5)) (st3.same S5)
    -- a marked one
    have hbf : b = false := by
      cases b with
      | false => rfl
      | true =>
        have hb := hb5 rfl
        have k0 : d0 ≠ 0 := ne_lit (k := 0) c0
        have k1 : d0 ≠ 1 := ne_lit (k := 1) c1
        have k2 : d0 ≠ 2 := ne_lit (k := 2) c2
        have k3 : d0 ≠ 3 := ne_lit (k := 3) c3
        have k4 : d0 ≠ 4 := ne_lit (k := 4) c4
        omega
    subst hbf
    refine ⟨_, rfl, by show 2 ≤ 1000; decide, fun p2 H2 hp2 S2 e2 => ⟨a, p2, marks.map V.str, rfl, st1.same S2, st1.ne hp2, e2, by decide, by decide, fun v2 G2 hv2 B2 st2 => ?_⟩⟩
    obtain ⟨nn, hnn, rfl⟩ := List.mem_map.mp hv2
    have hn2 : 1 ≤ n := by
      have z : (if (false : Bool) = true then 1 else 2) ≤ n + 1 := hn
      simp at z
      omega
    refine ⟨_, rfl, a, true, rfl, st2, hn2, fun v3 d3 G3 hd3 hb3 hF B3 st3 => ?_⟩
    obtain ⟨d', rfl, hD⟩ := hb3 rfl
    refine ⟨by show 4 ≤ 1000; decide, fun t H5 ht S5 e5 => ?_⟩
    exact q _ (.mk (.str nn) (.str "M") d') _ (.mk hnn hD) (fun z => by cases z) ⟨t, v3, rfl, st3.ne ht, e5, hF.same S5⟩ ((((B1.trans (But.of_same S2)).trans B2).trans B3).trans (But.of_same S5)) (st3.same S5)

end
end L2.K80

set_option Elab.async false
set_option linter.all false
set_option maxRecDepth 100000
set_option maxHeartbeats 4000000
/-! The law: drawn layouts, and values. -/
namespace L2.K80
open PySem PySem.W PySem.Spec PySem.Calls PyProof.Rows L2.Jk
def SpsAt (s0 : Addr) (H : Hp) (vs : List V) (ds : List FD) : Prop := vs.length = ds.length ∧ ∀ (i : Nat) (v : V) (d : FD), vs[i]? = some v → ds[i]? = some d → FIn s0 H v d
theorem SpsAt.same {s0 : Addr} {H H' : Hp} {vs : List V} {ds : List FD} (S : Same H H') (h : SpsAt s0 H vs ds) : SpsAt s0 H' vs ds := ⟨h.1, fun i v d a b => (h.2 i v d a b).same S⟩
theorem SpsAt.but {s0 : Addr} {H H' : Hp} {vs : List V} {ds : List FD} (B : But s0 H H') (h : SpsAt s0 H vs ds) : SpsAt s0 H' vs ds := ⟨h.1, fun i v d a b => (h.2 i v d a b).but B⟩
theorem SpsAt.get {s0 : Addr} {H : Hp} {vs : List V} {ds : List FD} (h : SpsAt s0 H vs ds) {i : Nat} {v : V} (e : vs[i]? = some v) : ∃ d, ds[i]? = some d ∧ FIn s0 H v d := by
  have hi := (List.getElem?_eq_some_iff.mp e).1
  have e2 := List.getElem?_eq_getElem (show i < ds.length by rw [← h.1]; exact hi)
  exact ⟨_, e2, h.2 i v _ e e2⟩

theorem FIn.ref {s : Addr} {H : Hp} {v : V} : ∀ {d : FD}, FIn s H v d → ∃ b, v = .ref b
  | .pl (.word ..), ⟨b, e, _⟩ => ⟨b, e⟩
  | .pl (.number ..), ⟨b, e, _⟩ => ⟨b, e⟩
  | .pl (.fixed _), ⟨b, e, _⟩ => ⟨b, e⟩
  | .pl (.listed _), ⟨b, _, e, _⟩ => ⟨b, e⟩
  | .pl (.ended ..), ⟨b, e, _⟩ => ⟨b, e⟩
  | .mk .., ⟨b, _, e, _⟩ => ⟨b, e⟩
theorem upd_but {H : Hp} {p c : Addr} {o u : HO} {vsp : List V} (hp : H p = some (.lst vsp)) (hc : H c = some u) (n : u ≠ .lst vsp) : upd H p o c = some u := by
  rw [upd_ne (fun e => ?_)]
  · exact hc
  · rw [e, hp] at hc
    exact n (Option.some.inj hc).symm
theorem PDAt.put {s p : Addr} {H : Hp} {o : HO} {vsp : List V} {v : V} (hp : H p = some (.lst vsp)) (hr : ∀ x ∈ vsp, ∃ b, x = .ref b) : ∀ {d : PD}, WkP d → PDAt s H v d → PDAt s (upd H p o) v d
  | _, .word .., ⟨b, e, n, h⟩ => ⟨b, e, n, upd_but hp h (by intro z; cases z)⟩
  | _, .number .., ⟨b, e, n, h⟩ => ⟨b, e, n, upd_but hp h (by intro z; cases z)⟩
  | _, .fixed _, ⟨b, e, n, h⟩ => ⟨b, e, n, upd_but hp h (by intro z; cases z)⟩
  | _, .listed (ts := ts) hne _ _, ⟨b, u, e, n, h, ⟨b2, e2, l⟩, k⟩ => ⟨b, u, e, n, upd_but hp h (by intro z; cases z), ⟨b2, e2, upd_but hp l (fun z => by
      injection z with z
      cases ts with
      | nil => exact hne rfl
      | cons t ts =>
        obtain ⟨c, hc⟩ := hr (.str t) (z ▸ List.mem_cons_self ..)
        cases hc)⟩, k⟩
  | _, .ended .., ⟨b, e, n, h⟩ => ⟨b, e, n, upd_but hp h (by intro z; cases z)⟩
theorem FIn.put2 {s p : Addr} {H H6 : Hp} {o : HO} {vsp : List V} {v : V} {d : FD} (h : FIn s H v d) (S : Same H H6) (hp : H6 p = some (.lst vsp)) (hr : ∀ x ∈ vsp, ∃ b, x = .ref b) (hd : WkF d) : FIn s (upd H6 p o) v d := by
  cases hd with
  | pl hd => exact PDAt.put hp hr hd (PDAt.same S h)
  | mk _ _ _ _ hd =>
    obtain ⟨b, u, e, n, h, k⟩ := h
    exact ⟨b, u, e, n, upd_but hp (S _ _ h) (by intro z; cases z), PDAt.put hp hr hd (PDAt.same S k)⟩
theorem SpsAt.put2 {s p : Addr} {H H6 : Hp} {o : HO} {vsp : List V} {vs : List V} {ds : List FD} (h : SpsAt s H vs ds) (S : Same H H6) (hp : H6 p = some (.lst vsp)) (hr : ∀ x ∈ vsp, ∃ b, x = .ref b) (hd : ∀ d ∈ ds, WkF d) : SpsAt s (upd H6 p o) vs ds :=
  ⟨h.1, fun i v d a b => (h.2 i v d a b).put2 S hp hr (hd d (List.mem_of_getElem? b))⟩
theorem SpsAt.snoc {s : Addr} {H : Hp} {vs : List V} {ds : List FD} {v : V} {d : FD} (h : SpsAt s H vs ds) (k : FIn s H v d) : SpsAt s H (vs ++ [v]) (ds ++ [d]) := by
  refine ⟨by rw [List.length_append, List.length_append, h.1]; rfl, fun i x y hx hy => ?_⟩
  have hl := h.1
  by_cases hi : i < vs.length
  · rw [List.getElem?_append_left hi] at hx
    rw [List.getElem?_append_left (by omega)] at hy
    exact h.2 i x y hx hy
  · rw [List.getElem?_append_right (by omega)] at hx
    rw [List.getElem?_append_right (by omega)] at hy
    have e : i - vs.length = 0 := by
      have := (List.getElem?_eq_some_iff.mp hx).1
      have : i - vs.length < 1 := this
      omega
    rw [← hl, e] at hy
    rw [e] at hx
    cases hx
    cases hy
    exact k
theorem cut_tail (vs : List V) : (cutV vs (some 1) none).length = vs.length - 1 := by
  unfold cutV
  have e : HT.sIx vs.length 0 (some 1) = min 1 vs.length := HT.sIx_nat vs.length 0 1
  rw [e, HT.sIx_none, List.length_take, List.length_drop]
  omega

theorem FrF.wk {d : FD} (h : FrF d) : WkF d ∧ d.good := h.dr.good
structure GN (P : Program) (w : World) (K : Frag) (mg : Str → Option Value) (base : Heap) : Prop extends GM P w K mg base where
  law_far : FnAt P w K mg base CX0 4 "_law_far" ["_law_source_here", "_law_is_inner"] (spFar 2)
/-- drawn fields and joints -/
structure FlAt (a : Addr) (H : Hp) (ps pj : Addr) (vsp : List V) (ds : List FD) (js : List Str) : Prop where
  eps : H ps = some (.lst vsp)
  sps : SpsAt a H vsp ds
  dr : ∀ d ∈ ds, FrF d
  few : ds.length ≤ 8
  ne : ds ≠ []
  nps : ps ≠ a
  epj : H pj = some (.lst (js.map V.str))
  len : js.length + 1 = ds.length
  jn : ∀ j ∈ js, j ∈ JN
  npj : pj ≠ a
theorem FlAt.same {a : Addr} {H H' : Hp} {ps pj : Addr} {vsp : List V} {ds : List FD} {js : List Str} (S : Same H H') (h : FlAt a H ps pj vsp ds js) : FlAt a H' ps pj vsp ds js := ⟨S _ _ h.eps, h.sps.same S, h.dr, h.few, h.ne, h.nps, S _ _ h.epj, h.len, h.jn, h.npj⟩
theorem FlAt.but {a : Addr} {H H' : Hp} {ps pj : Addr} {vsp : List V} {ds : List FD} {js : List Str} (B : But a H H') (h : FlAt a H ps pj vsp ds js) : FlAt a H' ps pj vsp ds js := ⟨B _ _ h.nps h.eps, h.sps.but B, h.dr, h.few, h.ne, h.nps, B _ _ h.npj h.epj, h.len, h.jn, h.npj⟩
def spFl : Sp := fun vs H Q _ => ∃ a : Addr, vs = [.ref a, .int 8] ∧ StAt H a ∧ ∀ T ps pj vsp ds js H', T ≠ a → H' T = some (.tup [.ref ps, .ref pj]) → FlAt a H' ps pj vsp ds js → But a H H' → StAt H' a → Q (.ref T) H'
section
variable {P : Program} {w : World} {K : Frag} {mg : Str → Option Value} {base : Heap} {f : Addr} {fd : FuncData}

abbrev s_law_far_layout : Stmt := top 52
theorem sc_law_far_layout : FnScope ["_law_source_here", "_law_most", "_law_specs", "_law_turn", "_law_spec"] ["_law_source_here", "_law_most"] (defScope s_law_far_layout) := ⟨rfl, rfl, rfl, by decide +kernel, rfl, by decide +kernel, by decide +kernel⟩

theorem ok_law_far_layout (F : FunD K "_law_far_layout" "_law_far_layout" (defArgs s_law_far_layout) (defBody s_law_far_layout) (defScope s_law_far_layout) [] [] f fd) (G : GN P w K mg base) : FnOk P w K mg base CX0 5 f fd ["_law_source_here", "_law_most"] spFl := by
  refine F.ok (CX := CX0) sc_law_far_layout (fun vs H Q E h => ?_) (fun cdv A outer s H vs Q E hr h => ?_)
  · obtain ⟨_, rfl, _⟩ := h
    rfl
  · refine ⟨_, PSs.nox (C8.pss_cut (ps_setLc (i := 2) (own := [("_law_turn", 3)]) (g := gName 3) (tt := tYes) (by rfl) sc_law_far_layout.nd rfl rfl (sw_true rfl rfl rfl (by decide +kernel)) (pi_range1 (by rfl) G.range (pa_cons (pe_op op_add pe_int (pe_fn G.law_draw (hr.mono (by decide)) pass0 (by rfl) (pa_cons (pv 0) (pa_cons (pv 1) pa_nil)))) pa_nil)) (blkOk_by (N := ["_law_source_here", "_law_most", "_law_specs", "_law_turn", "_law_spec"]) (sc := defScope s_law_far_layout) (by decide +kernel)) (fun _ _ _ _ _ => pg_name (i := 3) sc_law_far_layout.nd rfl (Or.inl rfl)) (fun _ _ _ _ _ => pts_nil) (fun _ _ _ _ _ => (pe_fn G.law_far (hr.mono (by decide)) pass0 (by rfl) (pa_cons (pv 0) (pa_cons pe_bl pa_nil)))))
    (pss_one (ps_ret (pe_tupS (pa_cons (pv 2) (pa_cons (pe_lc (own := [("_law_spec", 4)]) (g := gName 4) (tt := tYes) rfl sc_law_far_layout.nd (pi_list (pe_slice sl_listS (pv 2) (po_some pe_int) po_none)) (blkOk_by (N := ["_law_source_here", "_law_most", "_law_specs", "_law_turn", "_law_spec"]) (sc := defScope s_law_far_layout) (by decide +kernel)) (fun _ _ _ _ _ => pg_name (i := 4) sc_law_far_layout.nd rfl (Or.inl rfl)) (fun _ _ _ _ _ => pts_nil) (fun _ _ _ _ _ => (pe_fn G.law_pick (hr.mono (by decide)) pass0 (by rfl) (pa_cons (pv 0) (pa_cons (pe_lstS (pa_cons pe_str (pa_cons pe_str (pa_cons pe_str (pa_cons pe_str (pa_cons pe_str pa_nil)))))) pa_nil))))) pa_nil)))))), ?_⟩
    obtain ⟨sa, rfl, st, q⟩ := h
    refine ⟨fun σ J => ∃ (ps : Addr) (vsp : List V) (ds : List FD) (v3 v4 : Option V), σ = [some (.ref sa), some (.int 8), some (.ref ps), v3, v4] ∧ J ps = some (.lst vsp) ∧ SpsAt sa J vsp ds ∧ (∀ d ∈ ds, FrF d) ∧ ds.length ≤ 8 ∧ ds ≠ [] ∧ ps ≠ sa ∧ StAt J sa ∧ But sa H J, ?_, ?_⟩
    · refine ⟨_, rfl, _, rfl, sa, 8, rfl, st, by decide, by decide, fun d1 J1 h01 h11 B1 st1 => ?_⟩
      refine ⟨_, _, rfl, rfl, 1 + d1, rfl, by omega, by omega, fun D hD => ?_⟩
      have nD : D ≠ sa := st1.ne hD
      have hD0 : H D = none := by
        cases e : H D with
        | none => rfl
        | some o => rw [B1 D o nD e] at hD; cases hD
      refine lc_range (lo := 0) (n := (1 + d1).toNat) (fun n J2 => ∃ vsp ds, J2 D = some (.lst vsp) ∧ SpsAt sa J2 vsp ds ∧ ds.length = n ∧ (∀ d ∈ ds, FrF d) ∧ StAt J2 sa ∧ But sa H J2) ⟨[], [], upd_same, ⟨rfl, fun i v d a => by cases a⟩, rfl, (fun d h => by cases h), st1.put nD, but_put B1 hD0⟩ ?_ ?_
      · rintro m J2 hm ⟨vsp, ds, eD, hS2, hdl, hdr, st2, S2⟩
        refine ⟨rfl, _, rfl, sa, false, rfl, st2, by decide, fun v d J3 hd _ hF B3 st3 => ?_⟩
        have eD3 := B3 _ _ nD eD
        have hS3 := hS2.but B3
        have href : ∀ x ∈ vsp, ∃ b, x = .ref b := fun x hx => by
          obtain ⟨q, hq⟩ := List.mem_iff_getElem?.mp hx
          obtain ⟨e, _, hF2⟩ := hS2.get hq
          exact hF2.ref
        have hvl := hS2.1
        refine ⟨vsp, eD3, by rw [sizeLine_eq]; omega, vsp ++ [v], ds ++ [d], upd_same, ?_, by rw [List.length_append, hdl]; rfl, fun e he => ?_, st3.put nD, but_put (S2.trans B3) hD0⟩
        · exact (hS3.put2 (Same.refl _) eD3 href fun e he => (hdr e he).wk.1).snoc (hF.put2 (Same.refl _) eD3 href hd.wk.1)
        · rcases List.mem_append.mp he with he | he
          · exact hdr e he
          · rw [List.mem_singleton.mp he]; exact hd
      · rintro J2 ⟨vsp, ds, eD, hS2, hdl, hdr, st2, S2⟩
        exact ⟨D, vsp, ds, _, _, rfl, eD, hS2, hdr, by omega, fun z => by rw [z] at hdl; simp only [List.length_nil] at hdl; omega, nD, st2, S2⟩
    rintro σ J1 ⟨ps, vsp, ds, v3, v4, rfl, eps, hS, hdr, hn, h0, nps, stJ1, BJ1⟩
    have hvl := hS.1
    refine ⟨_, rfl, _, rfl, 1, rfl, ps, _, rfl, SqL.of eps, fun p2 J2 hp2 S2 e2 => ?_⟩
    have np2 := stJ1.ne hp2
    have st2 := stJ1.same S2
    refine ⟨p2, rfl, ⟨_, SqL.of e2⟩, fun D hD => ?_⟩
    have nD : D ≠ sa := st2.ne hD
    refine lc_list (K := K) (a := p2) (xs := cutV vsp (some 1) none) (fun n J3 => ∃ js : List Str, J3 D = some (.lst (js.map V.str)) ∧ js.length = n ∧ (∀ j ∈ js, j ∈ JN) ∧ But sa J2 J3 ∧ StAt J3 sa) ⟨[], upd_same, rfl, (fun j h => by cases h), but_put (But.refl _ _) hD, st2.put nD⟩ (fun m J3 hi ⟨_, _, _, _, B3, _⟩ => SqL.of (B3 _ _ np2 e2)) ?_ ?_
    · rintro m v J3 hv ⟨js, eD, hjl, hjn, B3, st3⟩
      have hm := (List.getElem?_eq_some_iff.mp hv).1
      rw [cut_tail] at hm
      refine ⟨rfl, _, rfl, by show 5 ≤ 1000; decide, fun p4 J5 hp4 S5 e5 => ⟨sa, p4, _, rfl, st3.same S5, st3.ne hp4, e5, by simp, by show 5 ≤ 1000; decide, fun v J6 hv B6 st6 => ?_⟩⟩
      obtain ⟨jj, rfl, hjj⟩ : ∃ jj : Str, v = .str jj ∧ jj ∈ JN := by
        simp only [List.mem_cons, List.not_mem_nil, or_false] at hv
        rcases hv with rfl | rfl | rfl | rfl | rfl
        · exact ⟨_, rfl, by decide⟩
        · exact ⟨_, rfl, by decide⟩
        · exact ⟨_, rfl, by decide⟩
        · exact ⟨_, rfl, by decide⟩
        · exact ⟨_, rfl, by decide⟩
      have eD6 := B6 _ _ nD (S5 _ _ eD)
      refine ⟨_, eD6, by rw [List.length_map, sizeLine_eq]; omega, js ++ [jj], by rw [upd_same, List.map_append]; rfl, by rw [List.length_append, hjl]; rfl, fun e he => ?_, but_put ((B3.trans (But.of_same S5)).trans B6) hD, st6.put nD⟩
      rcases List.mem_append.mp he with he | he
      · exact hjn e he
      · rw [List.mem_singleton.mp he]; exact hjj
    · rintro J3 ⟨js, eD, hjl, hjn, B3, st3⟩
      rw [cut_tail] at hjl
      have hpos := List.length_pos_iff.mpr h0
      refine ⟨by show 2 ≤ 1000; decide, fun T J4 hT S4 eT => ?_⟩
      have B13 : But sa J1 J3 := (But.of_same S2).trans B3
      exact q T ps D vsp ds js J4 (st3.ne hT) eT ⟨S4 _ _ (B13 _ _ nps eps), (hS.but B13).same S4, hdr, hn, h0, nps, S4 _ _ eD, by omega, hjn, nD⟩ ((BJ1.trans B13).trans (But.of_same S4)) (st3.same S4)

end
end L2.K80

set_option Elab.async false
set_option linter.all false
set_option maxRecDepth 100000
set_option maxHeartbeats 4000000
/-! The law: a drawn value. -/
namespace L2.K80
open PySem PySem.W PySem.Spec PySem.Calls PyProof.Rows L2.Jk
structure GP (P : Program) (w : World) (K : Frag) (mg : Str → Option Value) (base : Heap) : Prop extends GN P w K mg base where
  law_far_layout : FnAt P w K mg base CX0 5 "_law_far_layout" ["_law_source_here", "_law_most"] spFl
  min : mg "min" = none
def InM (l : Nat) (m : V) (k : Nat) : Prop := l ≤ k ∧ (m = .non ∨ ∃ j : Nat, m = .int (j : Nat) ∧ k ≤ j)
inductive VvP : PD → V → Prop
  | word {z : Str} {l : Nat} {m : V} {t : Str} : (∀ c ∈ t.cps.toList, c ∈ z.cps.toList) → InM l m t.length → t.length ≤ 20 → VvP (.word (.str z) (.int (l : Nat)) m) (.str t)
  | ended {z : Str} {e : V} {l : Nat} {m : V} {t : Str} : (∀ c ∈ t.cps.toList, c ∈ z.cps.toList) → InM l m t.length → t.length ≤ 20 → VvP (.ended (.str z) e (.int (l : Nat)) m) (.str t)
  | number {l : Nat} {m : V} {n : Nat} : InM l m n → n < 1000010000 → VvP (.number (.int (l : Nat)) m) (.int (n : Nat))
  | fixed {u n : Nat} : n < 10 ^ u → VvP (.fixed (.int (u : Nat))) (.int (n : Nat))
  | listed {ts : List Str} {t : Str} : t ∈ ts → VvP (.listed (.lst (ts.map V.str))) (.str t)
inductive VvF : FD → V → Prop
  | pl {d : PD} {v : V} : VvP d v → VvF (.pl d) v
  | non {n m : V} {d : PD} : VvF (.mk n m d) .non
  | mk {n m : V} {d : PD} {v : V} : VvP d v → VvF (.mk n m d) v
abbrev WE : List V := [V.str "word", V.str "ended"]
theorem in_we : inV (V.str "word") WE = true ∧ inV (V.str "number") WE = false ∧ inV (V.str "fixed") WE = false ∧ inV (V.str "listed") WE = false ∧ inV (V.str "marked") WE = false ∧ inV (V.str "ended") WE = true := by decide +kernel
theorem FrF.pl_in {d : PD} (h : FrF (.pl d)) : DrP farW farL d := by cases h; assumption
theorem glue_signs {z : Str} : ∀ {ts : List Str}, (∀ t ∈ ts, ∃ c ∈ z.cps.toList, t = ⟨#[c]⟩) → (∀ c ∈ (Txt.join "" ts).cps.toList, c ∈ z.cps.toList) ∧ (Txt.join "" ts).length = ts.length ∧ (ts.map (·.length)).sum = ts.length := by
  have main : ∀ {ts : List Str}, (∀ t ∈ ts, ∃ c ∈ z.cps.toList, t = ⟨#[c]⟩) → ∃ cs : List Nat, (Txt.join "" ts).cps.toList = cs ∧ cs.length = ts.length ∧ (∀ c ∈ cs, c ∈ z.cps.toList) ∧ (ts.map (·.length)).sum = ts.length := by
    intro ts
    induction ts with
    | nil => exact fun _ => ⟨[], by rw [Jk.join_nil]; rfl, rfl, fun c h => (by cases h), rfl⟩
    | cons x r ih =>
      intro h
      obtain ⟨cs, e, hl, hc, hs⟩ := ih fun t ht => h t (List.mem_cons_of_mem _ ht)
      obtain ⟨c, c1, rfl⟩ := h x (List.mem_cons_self ..)
      refine ⟨c :: cs, ?_, by rw [List.length_cons, List.length_cons, hl], fun y hy => ?_, by rw [List.map_cons, List.sum_cons, hs, List.length_cons]; exact Nat.add_comm _ _⟩
      · cases r with
        | nil =>
          rw [Jk.join_nil] at e
          rw [Jk.join_one, ← e]
          rfl
        | cons y r => rw [Jk.join_cons, cat_list, cat_list, e]; rfl
      · rcases List.mem_cons.mp hy with rfl | hy
        · exact c1
        · exact hc y hy
  intro ts h
  obtain ⟨cs, e, hl, hc, hs⟩ := main h
  refine ⟨by rw [e]; exact hc, ?_, hs⟩
  show (Txt.join "" ts).cps.size = _
  rw [← Array.length_toList, e, hl]
theorem signs_mem {z : Str} {v : V} (h : v ∈ signsV z) : ∃ c ∈ z.cps.toList, v = .str ⟨#[c]⟩ := by
  obtain ⟨i, hi, rfl⟩ := List.mem_map.mp h
  have hi := List.mem_range.mp hi
  refine ⟨z.cps.getD i 0, ?_, rfl⟩
  rw [Array.getD_eq_getD_getElem?, Array.getElem?_eq_getElem hi]
  exact Array.mem_toList_iff.mpr (Array.getElem_mem hi)
theorem signs_ne {z : Str} (h : z.cps.toList ≠ []) : signsV z ≠ [] := by
  intro e
  have k := congrArg List.length e
  unfold signsV at k
  rw [List.length_map, List.length_range] at k
  exact h (List.eq_nil_of_length_eq_zero (by rw [Array.length_toList]; exact k))
theorem signs_len {z : Str} (h : z.length ≤ 3) : (signsV z).length ≤ 1000 := by
  unfold signsV
  rw [List.length_map, List.length_range]
  exact Nat.le_trans h (by decide)
def PD.isWd : PD → Bool
  | .word .. => true
  | .ended .. => true
  | _ => false
theorem zs_ok : ∀ z ∈ farW ++ endZ, z.cps.toList ≠ [] ∧ z.length ≤ 3 := by decide +kernel
theorem w_in {a : Addr} {H : Hp} {v : V} {d : PD} (hI : PDAt a H v d) (hD : DrP farW farL d) : (∃ (b : Addr) (nm : Str) (vs : List V) (z : Str) (l : Nat) (m : V), v = .ref b ∧ b ≠ a ∧ H b = some (.tup vs) ∧ inV (.str nm) WE = true ∧ atI vs 0 = some (.str nm) ∧ atI vs (2 + (if decide (V.str nm = V.str "ended") = true then 1 else 0)) = some (.int (l : Nat)) ∧ atI vs 1 = some (.str z) ∧ atI vs (-1) = some m ∧ l ≤ 12 ∧ MB l m ∧ z.cps.toList ≠ [] ∧ z.length ≤ 3 ∧ (∀ t : Str, (∀ c ∈ t.cps.toList, c ∈ z.cps.toList) → InM l m t.length → t.length ≤ 20 → VvP d (.str t)) ∧ decide (V.str nm = V.str "marked") = false ∧ decide (V.str nm = V.str "listed") = false ∧ atI vs (-2) = some (.int (l : Nat)) ∧ (∀ t : Str, d.isW t = wordB (.str z) (.int (l : Nat)) m (.str t)) ∧ ∀ t : Str, d.valW t = .str t) ∨ d.isWd = false := by
  cases d with
  | word _ _ m =>
    obtain ⟨b, rfl, hn, hb⟩ := hI
    cases hD with
    | @word z l _ hz hl hm =>
      obtain ⟨z1, z2⟩ := zs_ok z (List.mem_append_left _ hz)
      exact .inl ⟨b, "word", _, z, l, m, rfl, hn, hb, in_we.1, atI_nat (j := 0) rfl, by rw [show (if decide (V.str "word" = V.str "ended") = true then (1 : Int) else 0) = 0 from by decide +kernel]; exact atI_nat (j := 2) rfl, atI_nat (j := 1) rfl, rfl, hl, hm, z1, z2, fun t => .word, by decide +kernel, by decide +kernel, rfl, fun _ => rfl, fun _ => rfl⟩
  | ended _ _ _ m =>
    obtain ⟨b, rfl, hn, hb⟩ := hI
    cases hD with
    | @ended z e l _ hz he hl hm =>
      obtain ⟨z1, z2⟩ := zs_ok z (List.mem_append_right _ hz)
      exact .inl ⟨b, "ended", _, z, l, m, rfl, hn, hb, in_we.2.2.2.2.2, atI_nat (j := 0) rfl, by rw [show (if decide (V.str "ended" = V.str "ended") = true then (1 : Int) else 0) = 1 from by decide +kernel]; exact atI_nat (j := 3) rfl, atI_nat (j := 1) rfl, rfl, hl, hm, z1, z2, fun t => .ended, by decide +kernel, by decide +kernel, rfl, fun _ => rfl, fun _ => rfl⟩
  | number => exact .inr rfl
  | fixed => exact .inr rfl
  | listed => exact .inr rfl
def spSome (n : Nat) : Sp := fun vs H Q _ => ∃ (a : Addr) (v : V) (d : FD), vs = [.ref a, v] ∧ StAt H a ∧ FIn a H v d ∧ FrF d ∧ d.dep < n ∧ ∀ x H', VvF d x → But a H H' → StAt H' a → Q x H'
theorem tens_tx : ∀ w ∈ [1, 2, 3, 4], PySem.intText? (("1" : Str) ++ repS "0" (w : Nat)) = some ((10 ^ w : Nat) : Int) ∧ (("1" : Str) ++ repS "0" (w : Nat)).length ≤ 640 ∧ repOk "0" (w : Nat) = true ∧ ("1" : Str).length + (repS "0" (w : Nat)).length ≤ 640 := by decide +kernel
section
variable {X : Cx} {K : Frag}
theorem pg_tupK {es : List Expr} {k : Nat} {t : TGs} {n : Nat} {pos : Pos} (hK : X.K = K) (hc : X.calm = true) (h : PGs X es t)
    (hn : (assignEach es X.env).length = n := by rfl) (hst : (assignEach es X.env).findIdx? (·.1) = none := by rfl) : PG X (.Tuple es k pos) (gTup K n t) := by
  subst hK
  exact pg_tup hc h hn hst
theorem ix_tupK (h : X.K = K) : IxR X (rIxT K) := by
  subst h
  exact ix_tup
end
section
variable {P : Program} {w : World} {K : Frag} {mg : Str → Option Value} {base : Heap} {f : Addr} {fd : FuncData}

abbrev s_law_some : Stmt := top 53
theorem sc_law_some : FnScope ["_law_source_here", "_law_spec", "_law_many", "_law_more", "_law_turn"] ["_law_source_here", "_law_spec"] (defScope s_law_some) := ⟨rfl, rfl, rfl, by decide +kernel, rfl, by decide +kernel, by decide +kernel⟩

theorem ok_law_some (F : FunD K "_law_some" "_law_some" (defArgs s_law_some) (defBody s_law_some) (defScope s_law_some) [] [] f fd) {n : Nat} (G : GP P w K mg base) (AM : FnAt P w K mg base CX0 (n + 2) "_law_some" ["_law_source_here", "_law_spec"] (spSome n)) : FnOk P w K mg base CX0 (n + 2 + 1) f fd ["_law_source_here", "_law_spec"] (spSome (n + 1)) := by
  refine F.ok (CX := CX0) sc_law_some (fun vs H Q E h => ?_) (fun cdv A outer s H vs Q E hr h => ?_)
  · obtain ⟨_, _, _, rfl, _⟩ := h
    rfl
  · refine ⟨_, PSs.nox (pss_cons (ps_if (pt_cmpR op_in_seq (pe_ix ix_tup (pv 1) pe_int (fun _ _ => rfl)) (pe_tupS (pa_cons pe_str (pa_cons pe_str pa_nil))) (by rfl))
      (C8.pss_cut (ps_set (i := 2) sc_law_some.nd rfl (Or.inl rfl) (pe_ix ix_tup (pv 1) (pe_op op_add pe_int (pe_callTy call_int1 (by rfl) G.int (by decide +kernel) (pa_cons (pe_cmpR op_eq (pe_ix ix_tup (pv 1) pe_int (fun _ _ => rfl)) pe_str (nomark _)) pa_nil))) (fun _ _ => rfl)))
      (C8.pss_cut (ps_set (i := 3) sc_law_some.nd rfl (Or.inl rfl) (pe_fn G.law_draw (hr.mono (by omega)) pass0 (by rfl) (pa_cons (pv 0) (pa_cons pe_int pa_nil))))
      (C8.pss_cut (ps_set (i := 2) sc_law_some.nd rfl (Or.inl rfl) (pe_op op_add (pv 2) (pe_ifExp (pt_cmpR op_isN (pe_ix ix_tup (pv 1) (pe_un un_neg pe_int) (fun _ _ => rfl)) pe_non (nomark _)) (pv 3) (pe_callB (call_min2 rfl) (by rfl) G.min (by decide +kernel) (pa_cons (pv 3) (pa_cons (pe_op op_sub (pe_ix ix_tup (pv 1) (pe_un un_neg pe_int) (fun _ _ => rfl)) (pv 2)) pa_nil))))))
      (pss_one (ps_ret (pe_join pe_str (pe_lc (own := [("_law_turn", 4)]) (g := gName 4) (tt := tYes) rfl sc_law_some.nd (pi_range1 (by rfl) G.range (pa_cons (pv 2) pa_nil)) (blkOk_by (N := ["_law_source_here", "_law_spec", "_law_many", "_law_more", "_law_turn"]) (sc := defScope s_law_some) (by decide +kernel)) (fun _ _ _ _ _ => pg_name (i := 4) sc_law_some.nd rfl (Or.inl rfl)) (fun _ _ _ _ _ => pts_nil) (fun _ _ _ _ _ => (pe_fn G.law_pick (hr.mono (by omega)) pass0 (by rfl) (pa_cons (pv 0) (pa_cons (pe_callTy (call_listStr rfl) (by rfl) G.list (by decide +kernel) (pa_cons (pe_ix (ix_tupK (K := K) rfl) (pv 1) pe_int (fun _ _ => rfl)) pa_nil)) pa_nil)))))))))))
      pss_nil)
    (pss_cons (ps_if (pt_cmpR op_eq (pe_ix ix_tup (pv 1) pe_int (fun _ _ => rfl)) pe_str (nomark _))
      (pss_cons (ps_set (i := 3) sc_law_some.nd rfl (Or.inl rfl) (pe_fn G.law_pick (hr.mono (by omega)) pass0 (by rfl) (pa_cons (pv 0) (pa_cons (pe_lstS (pa_cons pe_int (pa_cons pe_int (pa_cons pe_int (pa_cons (pe_fn G.law_draw (hr.mono (by omega)) pass0 (by rfl) (pa_cons (pv 0) (pa_cons pe_int pa_nil))) pa_nil))))) pa_nil))))
      (pss_one (ps_ret (pe_op op_add (pe_ix ix_tup (pv 1) pe_int (fun _ _ => rfl)) (pe_ifExp (pt_cmpR op_isN (pe_ix ix_tup (pv 1) pe_int (fun _ _ => rfl)) pe_non (nomark _)) (pv 3) (pe_callB (call_min2 rfl) (by rfl) G.min (by decide +kernel) (pa_cons (pv 3) (pa_cons (pe_op op_sub (pe_ix ix_tup (pv 1) pe_int (fun _ _ => rfl)) (pe_ix ix_tup (pv 1) pe_int (fun _ _ => rfl))) pa_nil))))))))
      pss_nil)
    (pss_cons (ps_if (pt_cmpR op_eq (pe_ix ix_tup (pv 1) pe_int (fun _ _ => rfl)) pe_str (nomark _))
      (pss_one (ps_ret (pe_fn G.law_draw (hr.mono (by omega)) pass0 (by rfl) (pa_cons (pv 0) (pa_cons (pe_callTy call_int_str (by rfl) G.int (by decide +kernel) (pa_cons (pe_op op_add_str pe_str (pe_op op_mulStr pe_str (pe_ix ix_tup (pv 1) pe_int (fun _ _ => rfl)))) pa_nil)) pa_nil)))))
      pss_nil)
    (pss_cons (ps_if (pt_cmpR op_eq (pe_ix ix_tup (pv 1) pe_int (fun _ _ => rfl)) pe_str (nomark _))
      (pss_one (ps_ret (pe_fn G.law_pick (hr.mono (by omega)) pass0 (by rfl) (pa_cons (pv 0) (pa_cons (pe_ix ix_tup (pv 1) pe_int (fun _ _ => rfl)) pa_nil)))))
      pss_nil)
    (pss_one (ps_ret (pe_ifExp (pt_cmpR op_eq (pe_fn G.law_draw (hr.mono (by omega)) pass0 (by rfl) (pa_cons (pv 0) (pa_cons pe_int pa_nil))) pe_int (nomark _)) pe_non (pe_fn AM hr pass0 (by rfl) (pa_cons (pv 0) (pa_cons (pe_ix ix_tup (pv 1) pe_int (fun _ _ => rfl)) pa_nil)))))))))), ?_⟩
    obtain ⟨a, v, d, rfl, st, hI, hD, hdep, q⟩ := h
    have inw : ∀ {x : V} {A B : Prop}, inV x WE = true → A → if (if false = true then !inV x WE else inV x WE) = true then A else B := fun e k => by rw [show ∀ b : Bool, (if false = true then !b else b) = b from fun _ => rfl, e]; exact iteT k
    have inn : ∀ {x : V} {A B : Prop}, inV x WE = false → B → if (if false = true then !inV x WE else inV x WE) = true then A else B := fun e k => by rw [show ∀ b : Bool, (if false = true then !b else b) = b from fun _ => rfl, e]; exact iteF k
    obtain ⟨i1, i2, i3, i4, i5, i6⟩ := in_we
    cases d with
    | mk n m d =>
      obtain ⟨b, u, rfl, hne, hb, hI⟩ := hI
      refine ⟨_, rfl, b, _, _, _, rfl, rfl, SqT.of hb, atI_nat (j := 0) rfl, by show 2 ≤ 1000; decide, fun p2 H2 hp2 S2 e2 => ⟨p2, _, rfl, .inr (SqT.of e2), rfl, rfl, _, rfl, inn i5 ?_⟩⟩
      have hb2 := S2 _ _ hb
      refine ⟨_, rfl, b, _, _, _, rfl, rfl, SqT.of hb2, atI_nat (j := 0) rfl, rfl, _, rfl, itN (by decide +kernel) ?_⟩
      refine ⟨_, rfl, b, _, _, _, rfl, rfl, SqT.of hb2, atI_nat (j := 0) rfl, rfl, _, rfl, itN (by decide +kernel) ?_⟩
      refine ⟨_, rfl, b, _, _, _, rfl, rfl, SqT.of hb2, atI_nat (j := 0) rfl, rfl, _, rfl, itN (by decide +kernel) ?_⟩
      refine ⟨_, rfl, a, 4, rfl, st.same S2, by decide, by decide, fun k H3 _ _ B3 st3 => ⟨rfl, _, rfl, ?_⟩⟩
      by_cases hk : decide (V.int k = V.int 0) = true
      · rw [hk]
        exact iteT (q _ _ .non ((But.of_same S2).trans B3) st3)
      · rw [Bool.eq_false_iff.mpr hk]
        refine iteF ⟨_, rfl, _, rfl, b, _, _, _, rfl, rfl, SqT.of (B3 _ _ hne hb2), atI_nat (j := 3) rfl, a, u, .pl d, rfl, st3, (PDAt.same S2 hI).but B3, ?_, Nat.lt_of_succ_lt_succ hdep, fun x H4 hx B4 st4 => ?_⟩
        · cases hD with
          | mk _ h => exact .pl h
        · cases hx with
          | pl hx => exact q _ _ (.mk hx) (((But.of_same S2).trans B3).trans B4) st4
    | pl d =>
    have hD := hD.pl_in
    rcases w_in hI hD with ⟨b, nm, vs, z, l, m, rfl, hne, hb, hw, a0, a2, a1, am, hl, hm, hz0, hz1, hq, hWW⟩ | hno
    · have q := fun t H' h1 h2 h3 => q (.str t) H' (.pl (hq t h1 h2 h3))
      refine ⟨_, rfl, b, _, _, _, rfl, rfl, SqT.of hb, a0, by show 2 ≤ 1000; decide, fun p2 H2 hp2 S2 e2 => ⟨p2, _, rfl, .inr (SqT.of e2), rfl, by decide +kernel, _, rfl, inw hw ?_⟩⟩
      have hb2 := S2 _ _ hb
      have st2 := st.same S2
      refine ⟨fun σ J => σ = [some (.ref a), some (.ref b), some (.int l), none, none] ∧ J = H2, ⟨_, rfl, _, rfl, b, _, _, _, rfl, rfl, SqT.of hb2, a0, rfl, .inr ⟨_, rfl, _, _, rfl, rfl, b, _, _, _, rfl, rfl, SqT.of hb2, a2, rfl, rfl⟩⟩, ?_⟩
      rintro σ J ⟨rfl, rfl⟩
      refine ⟨fun σ J' => ∃ k : Nat, k < 3 ∧ σ = [some (.ref a), some (.ref b), some (.int l), some (.int (k : Nat)), none] ∧ But a J J' ∧ StAt J' a, ⟨_, rfl, a, 3, rfl, st2, by decide, by decide, fun k H3 k0 k1 B3 st3 => ⟨k.toNat, by omega, by rw [Int.toNat_of_nonneg k0]; rfl, B3, st3⟩⟩, ?_⟩
      rintro σ J3 ⟨k, hk, rfl, B3, st3⟩
      have hb3 := B3 _ _ hne hb2
      refine ⟨fun σ J' => ∃ (n : Nat) (y : Option V), InM l m n ∧ n ≤ 20 ∧ σ = [some (.ref a), some (.ref b), some (.int (n : Nat)), y, none] ∧ J' = J3, ⟨_, rfl, _, rfl, _, rfl, b, _, _, _, rfl, rfl, SqT.of hb3, am, rfl, _, rfl, ?_⟩, ?_⟩
      · rcases hm with rfl | ⟨m, rfl, h1, h2⟩
        · exact iteT ⟨_, rfl, _, _, rfl, rfl, l + k, _, ⟨by omega, .inl rfl⟩, by omega, rfl, rfl⟩
        · refine iteF ⟨_, rfl, _, rfl, _, rfl, b, _, _, _, rfl, rfl, SqT.of hb3, am, _, rfl, _, _, rfl, rfl, _, _, rfl, _, _, rfl, rfl, l + min k (m - l), some (.int (k : Nat)), ⟨by omega, .inr ⟨_, rfl, by omega⟩⟩, by omega, ?_, rfl⟩
          have e : (l : Int) + (if (m : Int) - (l : Int) < (k : Int) then (m : Int) - (l : Int) else (k : Int)) = ((l + min k (m - l) : Nat) : Int) := by split <;> omega
          show [some (V.ref a), some (.ref b), some (.int ((l : Int) + (if (m : Int) - (l : Int) < (k : Int) then (m : Int) - (l : Int) else (k : Int)))), some (.int (k : Nat)), none] = _
          rw [e]
      rintro σ J4 ⟨n, y, hn, hn20, rfl, rfl⟩
      refine ⟨⟨_, rfl⟩, _, rfl, n, rfl, by omega, by omega, fun D hD => ?_⟩
      have nD : D ≠ a := st3.ne hD
      refine lc_range (lo := 0) (n := n) (fun i J => ∃ ts : List Str, J D = some (.lst (ts.map V.str)) ∧ ts.length = i ∧ (∀ t ∈ ts, ∃ c ∈ z.cps.toList, t = ⟨#[c]⟩) ∧ StAt J a ∧ But a J4 J) ⟨[], upd_same, rfl, (fun d h => by cases h), st3.put nD, but_put (But.refl _ _) hD⟩ ?_ ?_
      · rintro i J5 hi ⟨ts, eD, htl, hts, st5, B5⟩
        refine ⟨rfl, _, rfl, _, rfl, b, _, _, _, rfl, rfl, SqT.of (B5 _ _ hne hb3), a1, z, rfl, Nat.le_trans hz1 (by decide), fun p6 J6 hp6 S6 e6 => ⟨a, p6, _, rfl, st5.same S6, st5.ne hp6, e6, signs_ne hz0, signs_len hz1, fun v J7 hv B7 st7 => ?_⟩⟩
        obtain ⟨c, hc, rfl⟩ := signs_mem hv
        have eD7 := B7 _ _ nD (S6 _ _ eD)
        refine ⟨_, eD7, by rw [List.length_map, sizeLine_eq]; omega, ts ++ [⟨#[c]⟩], by rw [upd_same, List.map_append]; rfl, by rw [List.length_append, htl]; rfl, fun t ht => ?_, st7.put nD, but_put ((B5.trans (But.of_same S6)).trans B7) hD⟩
        rcases List.mem_append.mp ht with ht | ht
        · exact hts t ht
        · exact ⟨c, hc, List.mem_singleton.mp ht⟩
      · rintro J5 ⟨ts, eD, htl, hts, st5, B5⟩
        obtain ⟨g1, g2, g3⟩ := glue_signs hts
        refine ⟨"", D, ts, rfl, rfl, .inl (SqL.of eD), ?_, q _ _ g1 (by rw [g2, htl]; exact hn) (by rw [g2, htl]; exact hn20) (((But.of_same S2).trans B3).trans B5) st5⟩
        rw [g3, htl]
        show n + n * 0 ≤ _
        omega
    cases d with
    | word z l m => cases hno
    | ended z e l m => cases hno
    | number l m =>
      obtain ⟨b, rfl, hne, hb⟩ := hI
      refine ⟨_, rfl, b, _, _, _, rfl, rfl, SqT.of hb, atI_nat (j := 0) rfl, by show 2 ≤ 1000; decide, fun p2 H2 hp2 S2 e2 => ⟨p2, _, rfl, .inr (SqT.of e2), rfl, rfl, _, rfl, inn i2 ?_⟩⟩
      have hb2 := S2 _ _ hb
      have st2 := st.same S2
      cases hD with
      | @number l m hl hm =>
      refine ⟨_, rfl, b, _, _, _, rfl, rfl, SqT.of hb2, atI_nat (j := 0) rfl, rfl, _, rfl, itY ?_⟩
      refine ⟨_, rfl, _, rfl, a, 2000, rfl, st2, by decide, by decide, fun k H3 k0 k1 B3 st3 => ?_⟩
      refine ⟨by show 4 ≤ 1000; decide, fun p4 H4 hp4 S4 e4 => ⟨a, p4, _, rfl, st3.same S4, st3.ne hp4, e4, by simp, by show 4 ≤ 1000; decide, fun v H5 hv B5 st5 => ?_⟩⟩
      obtain ⟨j, rfl, hj⟩ : ∃ j : Nat, v = .int (j : Nat) ∧ j < 2000 := by
        simp only [List.mem_cons, List.not_mem_nil, or_false] at hv
        rcases hv with rfl | rfl | rfl | rfl
        · exact ⟨0, rfl, by omega⟩
        · exact ⟨1, rfl, by omega⟩
        · exact ⟨2, rfl, by omega⟩
        · exact ⟨k.toNat, by rw [Int.toNat_of_nonneg k0], by omega⟩
      have B05 := (((But.of_same S2).trans B3).trans (But.of_same S4)).trans B5
      have hb5 := B05 _ _ hne hb
      refine ⟨_, rfl, b, _, _, _, rfl, rfl, SqT.of hb5, atI_nat (j := 1) rfl, _, rfl, b, _, _, _, rfl, rfl, SqT.of hb5, atI_nat (j := 2) rfl, rfl, _, rfl, ?_⟩
      rcases hm with rfl | ⟨m, rfl, h1, h2⟩
      · exact iteT ⟨_, rfl, (l : Int), (j : Int), rfl, rfl, q _ _ (.pl (.number (n := l + j) ⟨by omega, .inl rfl⟩ (by omega))) B05 st5⟩
      · refine iteF ⟨_, rfl, _, rfl, b, _, _, _, rfl, rfl, SqT.of hb5, atI_nat (j := 2) rfl, _, rfl, b, _, _, _, rfl, rfl, SqT.of hb5, atI_nat (j := 1) rfl, _, _, rfl, rfl, _, _, rfl, _, _, rfl, rfl, ?_⟩
        have e : (l : Int) + (if (m : Int) - (l : Int) < (j : Int) then (m : Int) - (l : Int) else (j : Int)) = ((l + min j (m - l) : Nat) : Int) := by split <;> omega
        show Q (.int ((l : Int) + (if (m : Int) - (l : Int) < (j : Int) then (m : Int) - (l : Int) else (j : Int)))) _
        rw [e]
        exact q _ _ (.pl (.number ⟨by omega, .inr ⟨_, rfl, by omega⟩⟩ (by omega))) B05 st5
    | fixed u =>
      obtain ⟨b, rfl, hne, hb⟩ := hI
      refine ⟨_, rfl, b, _, _, _, rfl, rfl, SqT.of hb, atI_nat (j := 0) rfl, by show 2 ≤ 1000; decide, fun p2 H2 hp2 S2 e2 => ⟨p2, _, rfl, .inr (SqT.of e2), rfl, rfl, _, rfl, inn i3 ?_⟩⟩
      have hb2 := S2 _ _ hb
      have st2 := st.same S2
      cases hD with
      | @fixed u h1 h4 =>
      refine ⟨_, rfl, b, _, _, _, rfl, rfl, SqT.of hb2, atI_nat (j := 0) rfl, rfl, _, rfl, itN (by decide +kernel) ?_⟩
      refine ⟨_, rfl, b, _, _, _, rfl, rfl, SqT.of hb2, atI_nat (j := 0) rfl, rfl, _, rfl, itY ?_⟩
      have hu : u ∈ [1, 2, 3, 4] := by
        simp only [List.mem_cons, List.not_mem_nil, or_false]; omega
      obtain ⟨t1, t2, t3, t4⟩ := tens_tx u hu
      have p0 : 0 < 10 ^ u := Nat.pow_pos (by decide)
      have p1 : 10 ^ u ≤ 10 ^ 4 := Nat.pow_le_pow_right (by decide) h4
      refine ⟨_, rfl, _, rfl, b, _, _, _, rfl, rfl, SqT.of hb2, atI_nat (j := 1) rfl, _, _, rfl, rfl, t3, _, _, rfl, rfl, Nat.le_trans t4 (by rw [sizeLine_eq]; decide), _, _, rfl, t1, t2, a, _, rfl, st2, by omega, by omega, fun k H3 k0 k1 B3 st3 => ?_⟩
      have e : V.int k = V.int (k.toNat : Nat) := by rw [Int.toNat_of_nonneg k0]
      rw [e]
      exact q _ _ (.pl (.fixed (by omega))) ((But.of_same S2).trans B3) st3
    | listed x =>
      obtain ⟨b, u, rfl, hne, hb, hu, hun⟩ := hI
      refine ⟨_, rfl, b, _, _, _, rfl, rfl, SqT.of hb, atI_nat (j := 0) rfl, by show 2 ≤ 1000; decide, fun p2 H2 hp2 S2 e2 => ⟨p2, _, rfl, .inr (SqT.of e2), rfl, rfl, _, rfl, inn i4 ?_⟩⟩
      have hb2 := S2 _ _ hb
      have st2 := st.same S2
      cases hD with
      | @listed ts hn hs h0 hl =>
      obtain ⟨c, rfl, hc⟩ := hu
      refine ⟨_, rfl, b, _, _, _, rfl, rfl, SqT.of hb2, atI_nat (j := 0) rfl, rfl, _, rfl, itN (by decide +kernel) ?_⟩
      refine ⟨_, rfl, b, _, _, _, rfl, rfl, SqT.of hb2, atI_nat (j := 0) rfl, rfl, _, rfl, itN (by decide +kernel) ?_⟩
      refine ⟨_, rfl, b, _, _, _, rfl, rfl, SqT.of hb2, atI_nat (j := 0) rfl, rfl, _, rfl, itY ?_⟩
      refine ⟨_, rfl, _, rfl, b, _, _, _, rfl, rfl, SqT.of hb2, atI_nat (j := 1) rfl, a, c, _, rfl, st2, hun _ rfl, S2 _ _ hc, by simpa using h0, by rw [List.length_map]; omega, fun v H5 hv B5 st5 => ?_⟩
      obtain ⟨t, ht, rfl⟩ := List.mem_map.mp hv
      exact q _ _ (.pl (.listed ht)) ((But.of_same S2).trans B5) st5

end
end L2.K80

set_option Elab.async false
set_option linter.all false
set_option maxRecDepth 100000
set_option maxHeartbeats 4000000
/-! The law: words of rows, read by hand. -/
namespace L2.K80
open PySem PySem.W PySem.Spec PySem.Calls PyProof.Rows L2.Jk
theorem strOk_of {t : Str} (h : ∀ c ∈ t.cps.toList, c < 200) : (PyData.str t).canLay0 = true := by
  show PySem.PyData.canLay0 (.str t) = true
  unfold PyData.canLay0
  show (t.cps.all (· < 0x110000)) = true
  rw [Array.all_eq_true]
  intro i hi
  have z := h t.cps[i] (by simp)
  exact decide_eq_true (by omega)
/-- all signs below 200 -/
def A8 (t : Str) : Prop := ∀ c ∈ t.cps.toList, c < 200
def lwB (z : Str) (l : Int) (m : V) (t : Str) : Bool := t.cps.toList.all (fun c => decide (c ∈ z.cps.toList)) && withinB (.int l) m t.length
def spIsw : Sp := fun vs H Q _ => ∃ (z : Str) (l : Int) (m : V) (t : Str), vs = [.str z, .int l, m, .str t] ∧ (m = .non ∨ ∃ j : Int, m = .int j) ∧ t.length ≤ 1000 ∧ A8 t ∧ ∀ H', Same H H' → Q (.bl (lwB z l m t)) H'
def oddS (z t : Str) (n : Nat) : List Str := ((t.cps.toList.take n).filter fun c => !decide (c ∈ z.cps.toList)).map fun c => ⟨#[c]⟩
theorem odd_nil {z t : Str} : decide (oddS z t t.length = []) = t.cps.toList.all (fun c => decide (c ∈ z.cps.toList)) := by
  have e : t.cps.toList.take t.length = t.cps.toList := List.take_of_length_le (by rw [Array.length_toList]; exact Nat.le_refl _)
  rw [Bool.eq_iff_iff]
  constructor
  · intro h
    have h := of_decide_eq_true h
    unfold oddS at h
    rw [e] at h
    refine List.all_eq_true.mpr fun c hc => ?_
    cases q : decide (c ∈ z.cps.toList) with
    | true => rfl
    | false =>
      have m : c ∈ t.cps.toList.filter fun c => !decide (c ∈ z.cps.toList) := List.mem_filter.mpr ⟨hc, by rw [q]; rfl⟩
      rw [List.map_eq_nil_iff.mp h] at m
      cases m
  · intro h
    refine decide_eq_true ?_
    unfold oddS
    rw [e, List.map_eq_nil_iff, List.filter_eq_nil_iff]
    intro c hc
    rw [List.all_eq_true.mp h c hc]
    simp
theorem lay_sgs : ∀ (ts : List Str), (∀ t ∈ ts, A8 t) → PyData.canLayAll0 ((ts.map V.str).map dV) = true ∧ PyData.depthAll ((ts.map V.str).map dV) = 0
  | [], _ => ⟨rfl, rfl⟩
  | t :: ts, h => by
    obtain ⟨a, b⟩ := lay_sgs ts fun y hy => h y (List.mem_cons_of_mem _ hy)
    refine ⟨Bool.and_eq_true_iff.mpr ⟨strOk_of (h t (List.mem_cons_self ..)), a⟩, ?_⟩
    show max 0 _ = 0
    rw [b]
    rfl
theorem sh_sgs {ts : List Str} (h : ∀ t ∈ ts, A8 t) : SeqAt.shaped (.list ((ts.map V.str).map dV)) = true := by
  obtain ⟨l1, l2⟩ := lay_sgs ts h
  refine Bool.and_eq_true_iff.mpr ⟨l1, decide_eq_true ?_⟩
  show PyData.depthAll ((ts.map V.str).map dV) + 1 ≤ 64
  omega
def spRwd : Sp := fun vs H Q _ => ∃ (p : Addr) (xs : List V), vs = [.ref p] ∧ H p = some (.tup xs) ∧ (∀ x ∈ xs, VwOk x) ∧ xs.length ≤ 100 ∧ ∀ H', Same H H' → Q (.str (rowT xs)) H'
section
variable {P : Program} {w : World} {K : Frag} {mg : Str → Option Value} {base : Heap} {f : Addr} {fd : FuncData}

abbrev s_law_is_word : Stmt := top 54
theorem sc_law_is_word : FnScope ["_law_signs", "_law_least", "_law_most", "_law_text", "_law_sign"] ["_law_signs", "_law_least", "_law_most", "_law_text"] (defScope s_law_is_word) := ⟨rfl, rfl, rfl, by decide +kernel, rfl, by decide +kernel, by decide +kernel⟩

theorem ok_law_is_word (F : FunD K "_law_is_word" "_law_is_word" (defArgs s_law_is_word) (defBody s_law_is_word) (defScope s_law_is_word) [] [] f fd) (G : GP P w K mg base) : FnOk P w K mg base CX0 2 f fd ["_law_signs", "_law_least", "_law_most", "_law_text"] spIsw := by
  refine F.ok (CX := CX0) sc_law_is_word (fun vs H Q E h => ?_) (fun cdv A outer s H vs Q E hr h => ?_)
  · obtain ⟨_, _, _, _, rfl, _⟩ := h
    rfl
  · refine ⟨_, PSs.nox (pss_cons (ps_if (pt_cmpR (op_neD hr.units) (pe_lc (own := [("_law_sign", 4)]) (g := gName 4) (tt := _) rfl sc_law_is_word.nd (pi_str (pv 3)) (blkOk_by (N := ["_law_signs", "_law_least", "_law_most", "_law_text", "_law_sign"]) (sc := defScope s_law_is_word) (by decide +kernel)) (fun _ _ _ _ _ => pg_name (i := 4) sc_law_is_word.nd rfl (Or.inl rfl)) (fun _ _ _ _ _ => pts_one (pt_cmpR op_notIn_sign (pv 4) (pv 0) (by rfl))) (fun _ _ _ _ _ => (pv 4))) (pe_lstS pa_nil) (nomark _))
      (pss_one (ps_ret pe_bl))
      pss_nil)
    (pss_one (ps_ret (pe_and (pe_cmpR op_le (pv 1) (pe_callB call_len_str (by rfl) G.len (by decide +kernel) (pa_cons (pv 3) pa_nil)) (nomark _)) (pe_one (pe_or (pe_cmpR op_isN (pv 2) pe_non (nomark _)) (pe_one (pe_cmpR op_le (pe_callB call_len_str (by rfl) G.len (by decide +kernel) (pa_cons (pv 3) pa_nil)) (pv 2) (nomark _))))))))), ?_⟩
    obtain ⟨z, l, m, t, rfl, hm, hl, h8, q⟩ := h
    refine ⟨_, rfl, t, rfl, fun D hD => ?_⟩
    refine lc_str (x := t) (fun i J => Same H J ∧ J D = some (.lst ((oddS z t i).map V.str))) ⟨same_upd hD, upd_same⟩ ?_ ?_
    · rintro i c J hc ⟨SJ, eD⟩
      have hc' : t.cps.toList[i]? = some c := by rw [Array.getElem?_toList]; exact hc
      have hi := (List.getElem?_eq_some_iff.mp hc').1
      rw [Array.length_toList] at hi
      have hi : i < t.length := hi
      refine ⟨rfl, _, rfl, _, rfl, c, z, rfl, rfl, _, rfl, ?_⟩
      have e : oddS z t (i + 1) = oddS z t i ++ (if decide (c ∈ z.cps.toList) = true then [] else [⟨#[c]⟩]) := by
        unfold oddS
        rw [List.take_add_one, hc', List.filter_append, List.map_append]
        congr 1
        show List.map _ (List.filter _ [c]) = _
        by_cases q : c ∈ z.cps.toList
        · rw [List.filter_cons_of_neg (by simp [q]), if_pos (decide_eq_true q)]; rfl
        · rw [List.filter_cons_of_pos (by simp [q]), if_neg (by simp [q])]; rfl
      have ol : (oddS z t i).length ≤ i := by
        unfold oddS
        rw [List.length_map]
        exact Nat.le_trans (List.length_filter_le _ _) (by rw [List.length_take]; exact Nat.min_le_left _ _)
      by_cases q : decide (c ∈ z.cps.toList) = true
      · rw [q]
        refine iteF ⟨SJ, ?_⟩
        rw [e, if_pos q, List.append_nil]
        exact eD
      · rw [Bool.eq_false_iff.mpr q]
        refine iteT ⟨_, rfl, _, eD, by rw [List.length_map, sizeLine_eq]; omega, same_put SJ hD, ?_⟩
        rw [upd_same, e, if_neg q, List.map_append]
        rfl
    rintro J ⟨SJ, eD⟩
    refine ⟨by show 0 ≤ 1000; decide, fun pe H3 hpe S3 e3 => ⟨_, _, dp_strs (S3 _ _ eD), .lst (SqL.of e3) .nil, sh_sgs (fun x hx => ?_), by decide +kernel, _, rfl, ?_⟩⟩
    · obtain ⟨c, hc, rfl⟩ := List.mem_map.mp hx
      intro c' hc'
      obtain rfl := List.mem_singleton.mp hc'
      exact h8 _ (List.mem_of_mem_take (List.mem_filter.mp hc).1)
    have SH := SJ.trans S3
    rw [eqv_nil, show t.cps.size = t.length from rfl, odd_nil]
    have fin : ∀ b : Bool, t.cps.toList.all (fun c => decide (c ∈ z.cps.toList)) = b → lwB z l m t = (b && withinB (.int l) m t.length) := fun b e => by unfold lwB; rw [e]
    cases q0 : t.cps.toList.all (fun c => decide (c ∈ z.cps.toList)) with
    | false =>
      have z0 := q _ SH
      rw [fin _ q0] at z0
      exact iteT z0
    | true =>
      refine iteF ?_
      have z0 := q _ SH
      rw [fin _ q0] at z0
      rw [Bool.true_and] at z0
      unfold withinB at z0
      have tl : t.length ≤ sizeLine := by rw [sizeLine_eq]; omega
      refine ⟨_, rfl, _, rfl, t, rfl, tl, _, _, rfl, rfl, _, rfl, ?_⟩
      by_cases c1 : l ≤ (t.length : Int)
      · rw [show decide (intV (.int l) ≤ (t.length : Int)) = true from decide_eq_true c1, Bool.true_and] at z0
        rw [decide_eq_true c1]
        refine iteT ⟨_, rfl, rfl, _, rfl, ?_⟩
        rcases hm with rfl | ⟨j, rfl⟩
        · exact iteT z0
        · refine iteF ⟨_, rfl, t, rfl, tl, _, rfl, _, _, rfl, rfl, ?_⟩
          exact z0
      · rw [show decide (intV (.int l) ≤ (t.length : Int)) = false from decide_eq_false c1, Bool.false_and] at z0
        rw [decide_eq_false c1]
        exact iteF z0

abbrev s_law_row_word : Stmt := top 55
theorem sc_law_row_word : FnScope ["_law_row", "_law_value"] ["_law_row"] (defScope s_law_row_word) := ⟨rfl, rfl, rfl, by decide +kernel, rfl, by decide +kernel, by decide +kernel⟩

theorem ok_law_row_word (F : FunD K "_law_row_word" "_law_row_word" (defArgs s_law_row_word) (defBody s_law_row_word) (defScope s_law_row_word) [] [] f fd) (G : GP P w K mg base) : FnOk P w K mg base CX0 2 f fd ["_law_row"] spRwd := by
  refine F.ok (CX := CX0) sc_law_row_word (fun vs H Q E h => ?_) (fun cdv A outer s H vs Q E hr h => ?_)
  · obtain ⟨_, _, rfl, _⟩ := h
    rfl
  · refine ⟨_, PSs.nox (pss_one (ps_ret (pe_join pe_str (pe_lc (own := [("_law_value", 1)]) (g := gName 1) (tt := tYes) rfl sc_law_row_word.nd (pi_tup (pv 0)) (blkOk_by (N := ["_law_row", "_law_value"]) (sc := defScope s_law_row_word) (by decide +kernel)) (fun _ _ _ _ _ => pg_name (i := 1) sc_law_row_word.nd rfl (Or.inl rfl)) (fun _ _ _ _ _ => pts_nil) (fun _ _ _ _ _ => (pe_ifExp (pt_cmpR op_isN (pv 1) pe_non (nomark _)) pe_str (pe_callTy call_str_both (by rfl) G.str (by decide +kernel) (pa_cons (pv 1) pa_nil)))))))), ?_⟩
    obtain ⟨p, xs, rfl, hp, hv, hxl, q⟩ := h
    have turn : ∀ (D i : Nat) (x : V) (J : Hp), xs[i]? = some x → LcP H D (fun n => ((xs.take n).map vw).map V.str) i J → ∀ J4, Same J J4 → ∃ acc, J4 D = some (.lst acc) ∧ acc.length < sizeLine ∧ LcP H D (fun n => ((xs.take n).map vw).map V.str) (i + 1) (upd J4 D (.lst (acc ++ [.str (vw x)]))) := fun D i x J hx pJ J4 S4 => by
      have hi := (List.getElem?_eq_some_iff.mp hx).1
      exact pJ.put S4 (by rw [List.take_add_one, hx, List.map_append, List.map_append]; rfl) (by omega)
    have sum : ((xs.map vw).map (·.length)).sum + (xs.map vw).length * ("," : Str).length ≤ 16777216 := by
      have k : ∀ us : List V, (∀ x ∈ us, VwOk x) → ((us.map vw).map (·.length)).sum ≤ us.length * 900 := fun us => by
        induction us with
        | nil => intro _; exact Nat.le_refl _
        | cons u us ih =>
          intro h
          have a := ih fun t ht => h t (List.mem_cons_of_mem _ ht)
          have b := vw_len (h u (List.mem_cons_self ..))
          rw [List.map_cons, List.map_cons, List.sum_cons, List.length_cons, Nat.succ_mul]
          omega
      have a := k xs hv
      have e1 : ("," : Str).length = 1 := rfl
      rw [List.length_map, e1]
      omega
    refine ⟨⟨_, rfl⟩, _, rfl, p, rfl, ⟨_, SqT.of hp⟩, fun D hD => ?_⟩
    refine lc_tup (K := K) (a := p) (xs := xs) (LcP H D fun n => ((xs.take n).map vw).map V.str) (LcP.start hD rfl) (fun i J hi pJ => Z3.seqT_same pJ.1 (SqT.of hp)) ?_ ?_
    · intro i x J hx pJ
      refine ⟨rfl, _, rfl, rfl, _, rfl, ?_⟩
      rcases hv x (List.mem_of_getElem? hx) with rfl | ⟨n, rfl, hn⟩ | ⟨z, rfl, hz⟩
      · exact iteT (turn D i .non J hx pJ J (Same.refl _))
      · refine iteF ⟨_, rfl, .inl ⟨_, rfl, dg_log hn, turn D i (.int n) J hx pJ J (Same.refl _)⟩⟩
      · exact iteF ⟨_, rfl, .inr ⟨_, rfl, turn D i (.str z) J hx pJ J (Same.refl _)⟩⟩
    · rintro J ⟨S1, _, eJ, _⟩
      dsimp only at eJ
      rw [List.take_length] at eJ
      exact ⟨",", D, xs.map vw, rfl, rfl, .inl (SqL.of eJ), sum, q J S1⟩

end
end L2.K80

set_option Elab.async false
set_option linter.all false
set_option maxRecDepth 100000
set_option maxHeartbeats 4000000
/-! The law: a part, read by hand. -/
namespace L2.K80
open PySem PySem.W PySem.Spec PySem.Calls PyProof.Rows L2.Jk
structure GQ (P : Program) (w : World) (K : Frag) (mg : Str → Option Value) (base : Heap) : Prop extends GP P w K mg base where
  law_is_word : FnAt P w K mg base CX0 2 "_law_is_word" ["_law_signs", "_law_least", "_law_most", "_law_text"] spIsw
/-- the value that a part tells, in a list -/
def FD.part (t : Str) (d : FD) : List V := if d.isW t = true then [d.valW t] else []
def spPart (n : Nat) : Sp := fun vs H Q _ => ∃ (s0 : Addr) (v : V) (t : Str) (d : FD), vs = [v, .str t] ∧ FIn s0 H v d ∧ FrF d ∧ t.length ≤ 60 ∧ A8 t ∧ d.dep < n ∧ ∀ r H', H r = none → Same H H' → H' r = some (.lst (d.part t)) → Q (.ref r) H'
theorem allB_made {z t : Str} : t.cps.toList.all (fun c => decide (c ∈ z.cps.toList)) = madeB t z := by
  rw [Bool.eq_iff_iff, made_iff, List.all_eq_true]
  exact ⟨fun h c hc => of_decide_eq_true (h c hc), fun h c hc => decide_eq_true (h c hc)⟩
theorem lwB_is {z t : Str} {l : Int} {m : V} : lwB z l m t = wordB (.str z) (.int l) m (.str t) := by
  unfold lwB wordB
  rw [allB_made]
  rfl
theorem intText_T {n : Nat} (h : (T n).length ≤ 4000) : PySem.intText? (T n) = some (n : Int) := by
  rw [intText_digits (T_dg n) (T_ne n) (by omega), T_val]
theorem great_is : ∀ u ∈ [1, 2, 3, 4], great (.int (u : Nat)) = ((10 ^ u : Nat) : Int) - 1 := by decide +kernel
theorem dg_eq : DG = ("0123456789" : Str) := by decide +kernel
theorem nb1 {t : Str} (h : decide (V.str t = V.str "") = true) : numeralB t = false := by unfold numeralB; rw [h]; rfl
theorem lw_dg {t : Str} (h1 : ¬ decide (V.str t = V.str "") = true) : lwB DG 1 .non t = madeB t DG := by
  unfold lwB
  rw [allB_made]
  have k : withinB (.int 1) .non t.length = true := by
    refine Bool.and_eq_true_iff.mpr ⟨decide_eq_true ?_, rfl⟩
    show (1 : Int) ≤ (t.length : Int)
    have z : t.length ≠ 0 := fun z => h1 (decide_eq_true (congrArg V.str (str_ext (List.eq_nil_of_length_eq_zero (by rw [Array.length_toList]; exact z)))))
    omega
  rw [k, Bool.and_true]
theorem nb2 {t : Str} (h : (!lwB DG 1 .non t) = true) : numeralB t = false := by
  by_cases h1 : decide (V.str t = V.str "") = true
  · exact nb1 h1
  · rw [lw_dg h1] at h
    unfold numeralB
    rw [h, Bool.or_true]
    rfl
theorem nb_is {t : Str} (h1 : ¬ decide (V.str t = V.str "") = true) (h2 : ¬ (!lwB DG 1 .non t) = true) : numeralB t = (decide (V.str t = .str "0") || !decide (V.str ⟨#[t.cps.getD 0 0]⟩ = .str "0")) := by
  rw [lw_dg h1] at h2
  unfold numeralB
  rw [if_neg (by rw [Bool.eq_false_iff.mpr h1, Bool.eq_false_iff.mpr h2]; exact Bool.false_ne_true)]
theorem num_off {t : Str} {l m : V} (h : numeralB t = false) : (FD.pl (.number l m)).isW t = false := by
  show (numeralB t && _) = false
  rw [h]
  rfl
theorem fix_off {t : Str} {u : V} (h : numeralB t = false) : (FD.pl (.fixed u)).isW t = false := by
  show (numeralB t && _) = false
  rw [h]
  rfl
theorem head_at {t : Str} (h1 : ¬ decide (V.str t = V.str "") = true) : t.cps.toList[0]? = some (t.cps.getD 0 0) := by
  cases e : t.cps.toList with
  | nil => exact absurd (decide_eq_true (congrArg V.str (str_ext e))) h1
  | cons x xs =>
    show some x = some (t.cps.getD 0 0)
    have e2 : t.cps = (x :: xs).toArray := by rw [← Array.toArray_toList (xs := t.cps), e]
    rw [e2]
    rfl
theorem not_t {b : Bool} (h : (!b) = true) : b = false := by cases b; rfl; cases h
theorem if_dup {a n : Bool} {A B : Prop} (hA : a = true → (n = true → B) → A) (hn : a = false → n = true) (hB : n = true → B) : if a = true then A else B := by
  cases a with
  | true => exact iteT (hA rfl hB)
  | false => exact iteF (hB (hn rfl))
section
variable {P : Program} {w : World} {K : Frag} {mg : Str → Option Value} {base : Heap} {f : Addr} {fd : FuncData}

abbrev s_law_part : Stmt := top 56
theorem sc_law_part : FnScope ["_law_spec", "_law_part_here"] ["_law_spec", "_law_part_here"] (defScope s_law_part) := ⟨rfl, rfl, rfl, by decide +kernel, rfl, by decide +kernel, by decide +kernel⟩

theorem ok_law_part (F : FunD K "_law_part" "_law_part" (defArgs s_law_part) (defBody s_law_part) (defScope s_law_part) [] [] f fd) {n : Nat} (G : GQ P w K mg base) (AM : FnAt P w K mg base CX0 (n + 2) "_law_part" ["_law_spec", "_law_part_here"] (spPart n)) : FnOk P w K mg base CX0 (n + 2 + 1) f fd ["_law_spec", "_law_part_here"] (spPart (n + 1)) := by
  refine F.ok (CX := CX0) sc_law_part (fun vs H Q E h => ?_) (fun cdv A outer s H vs Q E hr h => ?_)
  · obtain ⟨_, _, _, _, rfl, _⟩ := h
    rfl
  · refine ⟨_, PSs.nox (pss_cons (ps_if (pt_cmpR op_eq (pe_ix ix_tup (pv 0) pe_int (fun _ _ => rfl)) pe_str (nomark _))
      (pss_one (ps_ret (pe_ifExp (pt_cmpR op_eq (pv 1) pe_str (nomark _)) (pe_lstS (pa_cons pe_non pa_nil)) (pe_fn AM hr pass0 (by rfl) (pa_cons (pe_ix ix_tup (pv 0) pe_int (fun _ _ => rfl)) (pa_cons (pv 1) pa_nil))))))
      pss_nil)
    (pss_cons (ps_if (pt_cmpR op_eq (pe_ix ix_tup (pv 0) pe_int (fun _ _ => rfl)) pe_str (nomark _))
      (pss_one (ps_ret (pe_ifExp (pt_cmpR op_in_seq (pv 1) (pe_ix ix_tup (pv 0) pe_int (fun _ _ => rfl)) (by rfl)) (pe_lstS (pa_cons (pv 1) pa_nil)) (pe_lstS pa_nil))))
      pss_nil)
    (pss_cons (ps_if (pt_cmpR op_in_seq (pe_ix ix_tup (pv 0) pe_int (fun _ _ => rfl)) (pe_tupS (pa_cons pe_str (pa_cons pe_str pa_nil))) (by rfl))
      (pss_one (ps_ret (pe_ifExp (pt_val (pe_fn G.law_is_word (hr.mono (by omega)) pass0 (by rfl) (pa_cons (pe_ix ix_tup (pv 0) pe_int (fun _ _ => rfl)) (pa_cons (pe_ix ix_tup (pv 0) (pe_un un_neg pe_int) (fun _ _ => rfl)) (pa_cons (pe_ix ix_tup (pv 0) (pe_un un_neg pe_int) (fun _ _ => rfl)) (pa_cons (pv 1) pa_nil)))))) (pe_lstS (pa_cons (pv 1) pa_nil)) (pe_lstS pa_nil))))
      pss_nil)
    (pss_cons (ps_if (PW.pt (pw_or (pt_cmpR op_eq (pv 1) pe_str (nomark _)) (pw_or (pt_not (pt_val (pe_fn G.law_is_word (hr.mono (by omega)) pass0 (by rfl) (pa_cons pe_str (pa_cons pe_int (pa_cons pe_non (pa_cons (pv 1) pa_nil))))))) (pw_or1 (PW.pt (pw_and (pt_cmpR op_eq (pe_ix ix_str (pv 1) pe_int (fun _ _ => rfl)) pe_str (nomark _)) (pw_and1 (pt_cmpR op_ne (pv 1) pe_str (nomark _)))))))))
      (pss_one (ps_ret (pe_lstS pa_nil)))
      pss_nil)
    (pss_cons (ps_if (pt_cmpR op_eq (pe_ix ix_tup (pv 0) pe_int (fun _ _ => rfl)) pe_str (nomark _))
      (pss_one (ps_ret (pe_ifExp (pt_cmpR op_le (pe_callB call_len_str (by rfl) G.len (by decide +kernel) (pa_cons (pv 1) pa_nil)) (pe_ix ix_tup (pv 0) pe_int (fun _ _ => rfl)) (nomark _)) (pe_lstS (pa_cons (pe_callTy call_int_str (by rfl) G.int (by decide +kernel) (pa_cons (pv 1) pa_nil)) pa_nil)) (pe_lstS pa_nil))))
      pss_nil)
    (pss_one (ps_ret (pe_ifExp (PW.pt (pw_and (pt_cmpR op_le (pe_ix ix_tup (pv 0) pe_int (fun _ _ => rfl)) (pe_callTy call_int_str (by rfl) G.int (by decide +kernel) (pa_cons (pv 1) pa_nil)) (nomark _)) (pw_and1 (PW.pt (pw_or (pt_cmpR op_isN (pe_ix ix_tup (pv 0) pe_int (fun _ _ => rfl)) pe_non (nomark _)) (pw_or1 (pt_cmpR op_le (pe_callTy call_int_str (by rfl) G.int (by decide +kernel) (pa_cons (pv 1) pa_nil)) (pe_ix ix_tup (pv 0) pe_int (fun _ _ => rfl)) (nomark _)))))))) (pe_lstS (pa_cons (pe_callTy call_int_str (by rfl) G.int (by decide +kernel) (pa_cons (pv 1) pa_nil)) pa_nil)) (pe_lstS pa_nil))))))))), ?_⟩
    obtain ⟨s0, v, t, d, rfl, hI, hD, htl, h8, hdep, q⟩ := h
    have no : ∀ r H', H r = none → Same H H' → H' r = some (.lst []) → d.isW t = false → Q (.ref r) H' := fun r H' a b c e => q r H' a b (by unfold FD.part; rw [e]; exact c)
    have ye : ∀ r H', H r = none → Same H H' → H' r = some (.lst [d.valW t]) → d.isW t = true → Q (.ref r) H' := fun r H' a b c e => q r H' a b (by unfold FD.part; rw [e]; exact c)
    have inw : ∀ {x : V} {A B : Prop}, inV x WE = true → A → if (if false = true then !inV x WE else inV x WE) = true then A else B := fun e k => by rw [show ∀ b : Bool, (if false = true then !b else b) = b from fun _ => rfl, e]; exact iteT k
    have inn : ∀ {x : V} {A B : Prop}, inV x WE = false → B → if (if false = true then !inV x WE else inV x WE) = true then A else B := fun e k => by rw [show ∀ b : Bool, (if false = true then !b else b) = b from fun _ => rfl, e]; exact iteF k
    obtain ⟨i1, i2, i3, i4, i5, i6⟩ := in_we
    cases d with
    | mk n m d =>
      obtain ⟨b, u, rfl, hne, hb, hI⟩ := hI
      refine ⟨_, rfl, b, _, _, _, rfl, rfl, SqT.of hb, atI_nat (j := 0) rfl, rfl, _, rfl, itY ?_⟩
      refine ⟨_, rfl, rfl, _, rfl, ite2 (fun c => ?_) (fun c => ?_)⟩
      · refine ⟨by show 1 ≤ 1000; decide, fun r H' hr0 S e => ye r H' hr0 S ?_ ?_⟩
        · show H' r = some (.lst [if decide (V.str t = V.str "=") = true then .non else d.valW t])
          rw [if_pos c]
          exact e
        · show (decide (V.str t = V.str "=") || d.isW t) = true
          rw [c]
          rfl
      · have hD' : FrF (.pl d) := by
          cases hD with
          | mk _ h => exact .pl h
        refine ⟨_, rfl, b, _, _, _, rfl, rfl, SqT.of hb, atI_nat (j := 3) rfl, _, rfl, s0, u, t, .pl d, rfl, hI, hD', htl, h8, Nat.lt_of_succ_lt_succ hdep, fun r H' hr0 S e => q r H' hr0 S ?_⟩
        unfold FD.part
        have e1 : (FD.mk n m d).isW t = (FD.pl d).isW t := by
          show (decide (V.str t = V.str "=") || d.isW t) = d.isW t
          rw [Bool.eq_false_iff.mpr c, Bool.false_or]
        have e2 : (FD.mk n m d).valW t = (FD.pl d).valW t := by
          show (if decide (V.str t = V.str "=") = true then V.non else d.valW t) = d.valW t
          rw [if_neg c]
        rw [e1, e2]
        exact e
    | pl d =>
    have hD0 := hD.pl_in
    have hI0 := hI
    rcases w_in hI hD0 with ⟨b, nm, vs, z, l, m, rfl, hne, hb, hw, a0, a2, a1, am, hl, hm, hz0, hz1, hq, n5, n3, v2, hW, hV⟩ | hno
    · have hW : ∀ t : Str, (FD.pl d).isW t = wordB (.str z) (.int (l : Nat)) m (.str t) := hW
      have hV : ∀ t : Str, (FD.pl d).valW t = .str t := hV
      refine ⟨_, rfl, b, _, _, _, rfl, rfl, SqT.of hb, a0, rfl, _, rfl, itN n5 ?_⟩
      refine ⟨_, rfl, b, _, _, _, rfl, rfl, SqT.of hb, a0, rfl, _, rfl, itN n3 ?_⟩
      refine ⟨_, rfl, b, _, _, _, rfl, rfl, SqT.of hb, a0, by show 2 ≤ 1000; decide, fun p2 H2 hp2 S2 e2 => ⟨p2, _, rfl, .inr (SqT.of e2), rfl, by decide +kernel, _, rfl, inw hw ?_⟩⟩
      have hb2 := S2 _ _ hb
      refine ⟨_, rfl, b, _, _, _, rfl, rfl, SqT.of hb2, a1, _, rfl, _, rfl, b, _, _, _, rfl, rfl, SqT.of hb2, v2, _, rfl, _, rfl, b, _, _, _, rfl, rfl, SqT.of hb2, am, _, rfl, z, l, m, t, rfl, hm.imp id (fun ⟨k, e, _⟩ => ⟨_, e⟩), by omega, h8, fun H3 S3 => ⟨_, rfl, ?_⟩⟩
      have S23 := S2.trans S3
      rw [lwB_is, ← hW t]
      refine ite2 (fun c => ?_) (fun c => ?_)
      · exact ⟨_, rfl, by show 1 ≤ 1000; decide, fun r H' hr0 S e => ye r H' (none_of S23 hr0) (S23.trans S) (by rw [hV t]; exact e) c⟩
      · exact ⟨by show 0 ≤ 1000; decide, fun r H' hr0 S e => no r H' (none_of S23 hr0) (S23.trans S) e (Bool.eq_false_iff.mpr c)⟩
    cases d with
    | word z l m => cases hno
    | ended z e l m => cases hno
    | listed x =>
      obtain ⟨b, u, rfl, hne, hb, hu, hun⟩ := hI
      cases hD0 with
      | @listed ts hn hs h0 hl =>
      obtain ⟨c, rfl, hc⟩ := hu
      refine ⟨_, rfl, b, _, _, _, rfl, rfl, SqT.of hb, atI_nat (j := 0) rfl, rfl, _, rfl, itN (by decide +kernel) ?_⟩
      refine ⟨_, rfl, b, _, _, _, rfl, rfl, SqT.of hb, atI_nat (j := 0) rfl, rfl, _, rfl, itY ?_⟩
      refine ⟨_, rfl, _, rfl, b, _, _, _, rfl, rfl, SqT.of hb, atI_nat (j := 1) rfl, c, _, rfl, .inl (SqL.of hc), rfl, by rw [List.all_map]; exact List.all_eq_true.mpr fun _ _ => rfl, _, rfl, ?_⟩
      rw [show ∀ b : Bool, (if false = true then !b else b) = b from fun _ => rfl]
      refine ite2 (fun c => ?_) (fun c => ?_)
      · exact ⟨_, rfl, by show 1 ≤ 1000; decide, fun r H' hr0 S e => ye r H' hr0 S e c⟩
      · exact ⟨by show 0 ≤ 1000; decide, fun r H' hr0 S e => no r H' hr0 S e (Bool.eq_false_iff.mpr c)⟩
    | number l m =>
      obtain ⟨b, rfl, hne, hb⟩ := hI
      cases hD0 with
      | @number l m hl hm =>
      have nb1 := fun (h1 : decide (V.str t = V.str "") = true) => num_off (l := .int (l : Nat)) (m := m) (nb1 h1)
      have nb2 := fun (h2 : (!lwB DG 1 .non t) = true) => num_off (l := .int (l : Nat)) (m := m) (nb2 h2)
      refine ⟨_, rfl, b, _, _, _, rfl, rfl, SqT.of hb, atI_nat (j := 0) rfl, rfl, _, rfl, itN (by decide +kernel) ?_⟩
      refine ⟨_, rfl, b, _, _, _, rfl, rfl, SqT.of hb, atI_nat (j := 0) rfl, rfl, _, rfl, itN (by decide +kernel) ?_⟩
      refine ⟨_, rfl, b, _, _, _, rfl, rfl, SqT.of hb, atI_nat (j := 0) rfl, by show 2 ≤ 1000; decide, fun p2 H2 hp2 S2 e2 => ⟨p2, _, rfl, .inr (SqT.of e2), rfl, rfl, _, rfl, inn i2 ?_⟩⟩
      refine ⟨_, rfl, rfl, _, rfl, ?_⟩
      refine ite2 (fun h1 => iteT ⟨by show 0 ≤ 1000; decide, fun r H' hr0 S e => no r H' (none_of S2 hr0) (S2.trans S) e (nb1 h1)⟩) (fun h1 => ?_)
      refine ⟨_, rfl, DG, 1, .non, t, congrArg (fun x => [V.str x, .int 1, .non, .str t]) dg_eq.symm, .inl rfl, by omega, h8, fun H3 S3 => ⟨_, rfl, ?_⟩⟩
      have S23 := S2.trans S3
      have hb3 := S23 _ _ hb
      have hI3 := hI0.same S23
      show if (!lwB DG 1 .non t) = true then _ else _
      refine ite2 (fun h2 => iteT ⟨by show 0 ≤ 1000; decide, fun r H' hr0 S e => no r H' (none_of S23 hr0) (S23.trans S) e (nb2 h2)⟩) (fun h2 => ?_)
      have hN := nb_is h1 h2
      refine ⟨_, rfl, t, 0, t.cps.getD 0 0, rfl, rfl, small_line t (Nat.le_trans htl (by decide)), atI_nat (j := 0) (head_at h1), rfl, _, rfl, ?_⟩
      refine if_dup (n := numeralB t) (fun h3 hB => ⟨_, rfl, rfl, _, rfl, ite2 (fun h4 => ⟨by show 0 ≤ 1000; decide, fun r H' hr0 S e => no r H' (none_of S23 hr0) (S23.trans S) e (num_off (by rw [hN, h3, not_t h4]; rfl))⟩) (fun h4 => hB (by rw [hN]; cases z : decide (V.str t = V.str "0") with | true => rfl | false => rw [z] at h4; exact absurd rfl h4))⟩) (fun h3 => by rw [hN, h3, Bool.not_false, Bool.or_true]) (fun nb => ?_)
      obtain ⟨n0, et⟩ := numeral_is nb
      have en : numOf t = (n0 : Int) := by rw [et]; exact numOf_T (by rw [← et]; omega)
      have ei : PySem.intText? t = some (n0 : Int) := by rw [et]; exact intText_T (by rw [← et]; omega)
      have el : t.length ≤ 640 := by omega
      have tl : t.length ≤ sizeLine := by rw [sizeLine_eq]; omega
      refine ⟨_, rfl, b, _, _, _, rfl, rfl, SqT.of hb3, atI_nat (j := 0) rfl, rfl, _, rfl, itN (by decide +kernel) ?_⟩
      have hW : (FD.pl (.number (.int (l : Nat)) m)).isW t = withinB (.int (l : Nat)) m n0 := by
        show (numeralB t && (numB (.int (numOf t)) && withinB (.int (l : Nat)) m (numOf t))) = _
        rw [nb, en]
        rfl
      have yes : withinB (.int (l : Nat)) m n0 = true → ∀ r H', H r = none → Same H H' → H' r = some (.lst [.int (n0 : Nat)]) → Q (.ref r) H' := fun w r H' a b c => ye r H' a b (by
        show H' r = some (.lst [.int (numOf t)])
        rw [en]; exact c) (by rw [hW]; exact w)
      have nay : withinB (.int (l : Nat)) m n0 = false → ∀ r H', H r = none → Same H H' → H' r = some (.lst []) → Q (.ref r) H' := fun w r H' a b c => no r H' a b c (by rw [hW]; exact w)
      unfold withinB at yes nay
      refine ⟨_, rfl, b, _, _, _, rfl, rfl, SqT.of hb3, atI_nat (j := 1) rfl, _, rfl, _, _, rfl, ei, el, _, _, rfl, rfl, _, rfl, ?_⟩
      refine ite2 (fun c1 => ?_) (fun c1 => ?_)
      · rw [show decide (intV (.int (l : Nat)) ≤ (n0 : Int)) = true from c1, Bool.true_and] at yes nay
        refine ⟨_, rfl, b, _, _, _, rfl, rfl, SqT.of hb3, atI_nat (j := 2) rfl, rfl, _, rfl, ?_⟩
        rcases hm with rfl | ⟨m, rfl, h1, h2⟩
        · exact iteT ⟨_, rfl, _, _, rfl, ei, el, by show 1 ≤ 1000; decide, fun r H' hr0 S e => yes rfl r H' (none_of S23 hr0) (S23.trans S) e⟩
        · refine iteF ⟨_, rfl, _, _, rfl, ei, el, _, rfl, b, _, _, _, rfl, rfl, SqT.of hb3, atI_nat (j := 2) rfl, _, _, rfl, rfl, _, rfl, ?_⟩
          refine ite2 (fun c2 => ?_) (fun c2 => ?_)
          · exact ⟨_, rfl, _, _, rfl, ei, el, by show 1 ≤ 1000; decide, fun r H' hr0 S e => yes c2 r H' (none_of S23 hr0) (S23.trans S) e⟩
          · exact ⟨by show 0 ≤ 1000; decide, fun r H' hr0 S e => nay (Bool.eq_false_iff.mpr c2) r H' (none_of S23 hr0) (S23.trans S) e⟩
      · rw [show decide (intV (.int (l : Nat)) ≤ (n0 : Int)) = false from Bool.eq_false_iff.mpr c1, Bool.false_and] at nay
        exact ⟨by show 0 ≤ 1000; decide, fun r H' hr0 S e => nay rfl r H' (none_of S23 hr0) (S23.trans S) e⟩
    | fixed u =>
      obtain ⟨b, rfl, hne, hb⟩ := hI
      cases hD0 with
      | @fixed u hu1 hu4 =>
      have nb1 := fun (h1 : decide (V.str t = V.str "") = true) => fix_off (u := .int (u : Nat)) (nb1 h1)
      have nb2 := fun (h2 : (!lwB DG 1 .non t) = true) => fix_off (u := .int (u : Nat)) (nb2 h2)
      refine ⟨_, rfl, b, _, _, _, rfl, rfl, SqT.of hb, atI_nat (j := 0) rfl, rfl, _, rfl, itN (by decide +kernel) ?_⟩
      refine ⟨_, rfl, b, _, _, _, rfl, rfl, SqT.of hb, atI_nat (j := 0) rfl, rfl, _, rfl, itN (by decide +kernel) ?_⟩
      refine ⟨_, rfl, b, _, _, _, rfl, rfl, SqT.of hb, atI_nat (j := 0) rfl, by show 2 ≤ 1000; decide, fun p2 H2 hp2 S2 e2 => ⟨p2, _, rfl, .inr (SqT.of e2), rfl, rfl, _, rfl, inn i3 ?_⟩⟩
      refine ⟨_, rfl, rfl, _, rfl, ?_⟩
      refine ite2 (fun h1 => iteT ⟨by show 0 ≤ 1000; decide, fun r H' hr0 S e => no r H' (none_of S2 hr0) (S2.trans S) e (nb1 h1)⟩) (fun h1 => ?_)
      refine ⟨_, rfl, DG, 1, .non, t, congrArg (fun x => [V.str x, .int 1, .non, .str t]) dg_eq.symm, .inl rfl, by omega, h8, fun H3 S3 => ⟨_, rfl, ?_⟩⟩
      have S23 := S2.trans S3
      have hb3 := S23 _ _ hb
      have hI3 := hI0.same S23
      show if (!lwB DG 1 .non t) = true then _ else _
      refine ite2 (fun h2 => iteT ⟨by show 0 ≤ 1000; decide, fun r H' hr0 S e => no r H' (none_of S23 hr0) (S23.trans S) e (nb2 h2)⟩) (fun h2 => ?_)
      have hN := nb_is h1 h2
      refine ⟨_, rfl, t, 0, t.cps.getD 0 0, rfl, rfl, small_line t (Nat.le_trans htl (by decide)), atI_nat (j := 0) (head_at h1), rfl, _, rfl, ?_⟩
      refine if_dup (n := numeralB t) (fun h3 hB => ⟨_, rfl, rfl, _, rfl, ite2 (fun h4 => ⟨by show 0 ≤ 1000; decide, fun r H' hr0 S e => no r H' (none_of S23 hr0) (S23.trans S) e (fix_off (by rw [hN, h3, not_t h4]; rfl))⟩) (fun h4 => hB (by rw [hN]; cases z : decide (V.str t = V.str "0") with | true => rfl | false => rw [z] at h4; exact absurd rfl h4))⟩) (fun h3 => by rw [hN, h3, Bool.not_false, Bool.or_true]) (fun nb => ?_)
      obtain ⟨n0, et⟩ := numeral_is nb
      have en : numOf t = (n0 : Int) := by rw [et]; exact numOf_T (by rw [← et]; omega)
      have ei : PySem.intText? t = some (n0 : Int) := by rw [et]; exact intText_T (by rw [← et]; omega)
      have el : t.length ≤ 640 := by omega
      have tl : t.length ≤ sizeLine := by rw [sizeLine_eq]; omega
      refine ⟨_, rfl, b, _, _, _, rfl, rfl, SqT.of hb3, atI_nat (j := 0) rfl, rfl, _, rfl, itY ?_⟩
      have hu : u ∈ [1, 2, 3, 4] := by
        simp only [List.mem_cons, List.not_mem_nil, or_false]; omega
      have hW : (FD.pl (.fixed (.int (u : Nat)))).isW t = decide ((t.length : Int) ≤ (u : Int)) := by
        show (numeralB t && (numB (.int (numOf t)) && (decide (0 ≤ intV (.int (numOf t))) && decide (intV (.int (numOf t)) ≤ great (.int (u : Nat)))))) = _
        rw [nb, en, great_is u hu]
        show (decide ((0 : Int) ≤ (n0 : Int)) && decide ((n0 : Int) ≤ ((10 ^ u : Nat) : Int) - 1)) = _
        rw [decide_eq_true (Int.natCast_nonneg n0), Bool.true_and, Bool.eq_iff_iff, decide_eq_true_iff, decide_eq_true_iff, et]
        have k := T_lt (n := n0) (k := u) (by omega)
        omega
      refine ⟨_, rfl, t, rfl, tl, _, rfl, b, _, _, _, rfl, rfl, SqT.of hb3, atI_nat (j := 1) rfl, _, _, rfl, rfl, _, rfl, ?_⟩
      refine ite2 (fun c1 => ?_) (fun c1 => ?_)
      · refine ⟨_, rfl, _, _, rfl, ei, el, by show 1 ≤ 1000; decide, fun r H' hr0 S e => ye r H' (none_of S23 hr0) (S23.trans S) ?_ (by rw [hW]; exact c1)⟩
        show H' r = some (.lst [.int (numOf t)])
        rw [en]
        exact e
      · exact ⟨by show 0 ≤ 1000; decide, fun r H' hr0 S e => no r H' (none_of S23 hr0) (S23.trans S) e (by rw [hW]; exact Bool.eq_false_iff.mpr c1)⟩

end
end L2.K80

set_option Elab.async false
set_option linter.all false
set_option maxRecDepth 100000
set_option maxHeartbeats 4000000
/-! The law: what a word tells, read by hand. -/
namespace L2.K80
open PySem PySem.W PySem.Spec PySem.Calls PyProof.Rows L2.Jk
structure GU (P : Program) (w : World) (K : Frag) (mg : Str → Option Value) (base : Heap) : Prop extends GQ P w K mg base where
  law_part : FnAt P w K mg base CX0 4 "_law_part" ["_law_spec", "_law_part_here"] (spPart 2)
def spDue : Sp := fun vs H Q _ => ∃ (s0 p : Addr) (vsp : List V) (ds : List FD) (t : Str) (ps : List Str), vs = [.ref p, .str t] ∧ H p = some (.lst vsp) ∧ SpsAt s0 H vsp ds ∧ (∀ d ∈ ds, FrF d) ∧ ds.length ≤ 8 ∧ PsOk t ps ∧ (∀ u ∈ ps, A8 u) ∧
  (∀ i : Nat, rdDue ds ps = some i → ∀ H', Same H H' → Q (.int (i : Nat)) H') ∧ (rdDue ds ps = none → ∀ r H', Same H H' → H r = none → H' r = some (.tup (rvVals ds ps)) → Q (.ref r) H')
theorem PD.valW_is {t : Str} (d : PD) : (∃ i, d.valW t = .int i) ∨ d.valW t = .str t := by
  cases d with
  | number => exact .inl ⟨_, rfl⟩
  | fixed => exact .inl ⟨_, rfl⟩
  | _ => exact .inr rfl
theorem FD.valW_is {t : Str} (d : FD) : d.valW t = .non ∨ (∃ i, d.valW t = .int i) ∨ d.valW t = .str t := by
  cases d with
  | pl d => exact .inr d.valW_is
  | mk n m d =>
    have e : (FD.mk n m d).valW t = if decide (V.str t = V.str "=") = true then V.non else d.valW t := rfl
    rw [e]
    by_cases c : decide (V.str t = V.str "=") = true
    · rw [if_pos c]; exact .inl rfl
    · rw [if_neg c]; exact .inr d.valW_is
theorem valW_lay {t : Str} (d : FD) (h : A8 t) : flatV (d.valW t) = true ∧ (dV (d.valW t)).canLay0 = true ∧ (dV (d.valW t)).depth = 0 := by
  rcases d.valW_is (t := t) with e | ⟨i, e⟩ | e
  · rw [e]; exact ⟨rfl, rfl, rfl⟩
  · rw [e]; exact ⟨rfl, rfl, rfl⟩
  · rw [e]; exact ⟨rfl, strOk_of h, rfl⟩
theorem part_ok {d : FD} {t : Str} (h : A8 t) : (d.part t).all flatV = true ∧ SeqAt.shaped (.list ((d.part t).map dV)) = true := by
  unfold FD.part
  split
  · obtain ⟨a, b, c⟩ := valW_lay d h
    refine ⟨by show (flatV (d.valW t) && true) = true; rw [a]; rfl, Bool.and_eq_true_iff.mpr ⟨Bool.and_eq_true_iff.mpr ⟨b, rfl⟩, decide_eq_true ?_⟩⟩
    show max (dV (d.valW t)).depth 0 + 1 ≤ 64
    rw [c]
    decide
  · exact ⟨rfl, by decide +kernel⟩
theorem part_nil {d : FD} {t : Str} : PyData.eqv (.list ((d.part t).map dV)) (.list []) = !d.isW t := by
  unfold FD.part
  cases d.isW t <;> rfl
theorem zip_take (as : List FD) (bs : List Str) (h : bs.length ≤ as.length) : rvVals (as.take bs.length) bs = rvVals as bs := by
  unfold rvVals
  induction as generalizing bs with
  | nil => simp
  | cons a as ih =>
    cases bs with
    | nil => rfl
    | cons b bs =>
      show _ :: List.zipWith _ (as.take bs.length) bs = _ :: List.zipWith _ as bs
      rw [ih bs (Nat.le_of_succ_le_succ h)]
section
variable {P : Program} {w : World} {K : Frag} {mg : Str → Option Value} {base : Heap} {f : Addr} {fd : FuncData}

abbrev s_law_due : Stmt := top 57
theorem sc_law_due : FnScope ["_law_specs", "_law_word", "_law_found", "_law_k", "_law_part_here"] ["_law_specs", "_law_word"] (defScope s_law_due) := ⟨rfl, rfl, rfl, by decide +kernel, rfl, by decide +kernel, by decide +kernel⟩

theorem ok_law_due (F : FunD K "_law_due" "_law_due" (defArgs s_law_due) (defBody s_law_due) (defScope s_law_due) [] [] f fd) (G : GU P w K mg base) : FnOk P w K mg base CX0 5 f fd ["_law_specs", "_law_word"] spDue := by
  refine F.ok (CX := CX0) sc_law_due (fun vs H Q E h => ?_) (fun cdv A outer s H vs Q E hr h => ?_)
  · obtain ⟨_, _, _, _, _, _, rfl, _⟩ := h
    rfl
  · refine ⟨_, PSs.nox (pss_cons (ps_set (i := 2) sc_law_due.nd rfl (Or.inl rfl) (pe_lstS pa_nil))
    (pss_cons (ps_for PassesOwn.never rfl (pi_enum (by rfl) G.enumerate (pa_cons (pe_split (pv 1) pe_str) pa_nil)) (pg_tup rfl (pgs_cons (pg_name (i := 3) sc_law_due.nd rfl (Or.inl rfl)) (pgs_cons (pg_name (i := 4) sc_law_due.nd rfl (Or.inl rfl)) pgs_nil)))
      (pss_cons (ps_if (PW.pt (pw_or (pt_cmpR op_eq (pv 3) (pe_callB call_len_seq (by rfl) G.len (by decide +kernel) (pa_cons (pv 0) pa_nil)) (nomark _)) (pw_or1 (pt_cmpR (op_eqD hr.units) (pe_fn G.law_part hr pass0 (by rfl) (pa_cons (pe_ix ix_list (pv 0) (pv 3) (fun _ _ => rfl)) (pa_cons (pv 4) pa_nil))) (pe_lstS pa_nil) (nomark _)))))
        (pss_one (ps_ret (pv 3)))
        pss_nil)
      (pss_one (ps_expr (pe_bm PySem.F.plainAttrs_list PySem.F.slot_list_append PySem.F.type_list_append mt_append (pv 2) (pa_cons (pe_ix ix_list (pe_fn G.law_part hr pass0 (by rfl) (pa_cons (pe_ix ix_list (pv 0) (pv 3) (fun _ _ => rfl)) (pa_cons (pv 4) pa_nil))) pe_int (fun _ _ => rfl)) pa_nil))))))
    (pss_one (ps_ret (pe_ifExp (pt_cmpR op_eq (pe_callB call_len_seq (by rfl) G.len (by decide +kernel) (pa_cons (pv 2) pa_nil)) (pe_callB call_len_seq (by rfl) G.len (by decide +kernel) (pa_cons (pv 0) pa_nil)) (nomark _)) (pe_callTy call_tuple_of (by rfl) G.tuple (by decide +kernel) (pa_cons (pv 2) pa_nil)) (pe_callB call_len_seq (by rfl) G.len (by decide +kernel) (pa_cons (pv 2) pa_nil))))))), ?_⟩
    obtain ⟨s0, p, vsp, ds, t, ps, rfl, hp, hS, hdr, h8, ok, ha, q1, q2⟩ := h
    have hvl : vsp.length = ds.length := hS.1
    refine ⟨by show 0 ≤ 1000; decide, fun D H1 hD S1 eD => ?_⟩
    refine ⟨_, rfl, ⟨_, rfl⟩, t, ",", rfl, rfl, rfl, by have := ok.tl; rw [sizeLine_eq]; omega, fun pl hpl => ?_⟩
    rw [ok.is]
    have S2 : Same H1 (upd H1 pl (.lst (ps.map V.str))) := same_upd hpl
    have e2 : upd H1 pl (.lst (ps.map V.str)) pl = some (.lst (ps.map V.str)) := upd_same
    generalize upd H1 pl (.lst (ps.map V.str)) = H2 at S2 e2 ⊢
    have nlD : pl ≠ D := fun z => by
      have := S2 _ _ eD
      rw [← z, e2] at this
      rw [z] at hpl
      rw [eD] at hpl
      cases hpl
    refine ⟨pl, _, rfl, SqL.of e2, for_it (walk_enum (xs := ps.map V.str)) (fun i σ J => (∃ v3 v4, σ = [some (.ref p), some (.str t), some (.ref D), v3, v4]) ∧ Same H J ∧ J pl = some (.lst (ps.map V.str)) ∧ J D = some (.lst (rvVals (ds.take i) (ps.take i))) ∧ ∀ j, j < i → rvBad ds ps j = false) ⟨⟨_, _, rfl⟩, S1.trans S2, e2, S2 _ _ eD, fun j hj => absurd hj (Nat.not_lt_zero _)⟩ (fun i σ J _ ⟨_, _, e, _⟩ => SqL.of e) ?_ ?_⟩
    · rintro i z σ J J2 hi ⟨⟨v3, v4, rfl⟩, S, eP, eV, hb⟩ ⟨T0, pp, x, rfl, hT0, rfl, ep, ex⟩
      obtain rfl := Option.some.inj ep
      replace ex : (ps.map V.str)[i]? = some x := ex
      rw [List.getElem?_map] at ex
      obtain ⟨u, hu, rfl⟩ := Option.map_eq_some_iff.mp ex
      have hiP : i < ps.length := (List.getElem?_eq_some_iff.mp hu).1
      have hul := ok.len u (List.mem_of_getElem? hu)
      have hua := ha u (List.mem_of_getElem? hu)
      have S3 : Same J (upd J T0 (.tup [.int (i : Nat), .str u])) := same_upd hT0
      have e3 : upd J T0 (.tup [.int (i : Nat), .str u]) T0 = some (.tup [.int (i : Nat), .str u]) := upd_same
      generalize upd J T0 (.tup [.int (i : Nat), .str u]) = J3 at S3 e3 ⊢
      have T3 := S.trans S3
      have bad : rvBad ds ps i = true → ∀ J4, Same J3 J4 → Q (.int (i : Nat)) J4 := fun hbd J4 S4 => q1 i (by unfold rdDue; rw [show rvDue ds ps = some i from find_at hiP hbd hb]) J4 (T3.trans S4)
      refine ⟨T0, _, rfl, SqT.of e3, rfl, _, _, rfl, _, _, rfl, rfl, ?_⟩
      refine ⟨_, rfl, _, rfl, p, vsp, rfl, .inl (SqL.of (T3 _ _ hp)), rfl, _, rfl, ?_⟩
      refine ite2 (fun c1 => ?_) (fun c1 => ?_)
      · have c1' : i = ds.length := by
          have z := of_decide_eq_true c1
          injection z with z
          omega
        refine iteT ⟨_, rfl, bad ?_ _ (Same.refl _)⟩
        unfold rvBad
        rw [hu, List.getElem?_eq_none (show ds.length ≤ i by omega)]
      · have hle : i ≤ ds.length := by
          refine Decidable.byContradiction fun z => ?_
          have := hb ds.length (by omega)
          unfold rvBad at this
          rw [List.getElem?_eq_getElem (show ds.length < ps.length by omega), List.getElem?_eq_none (Nat.le_refl _)] at this
          cases this
        have c1' : i < ds.length := by
          refine Decidable.byContradiction fun z => c1 (decide_eq_true ?_)
          rw [show i = vsp.length by omega]
        have hd := List.getElem?_eq_getElem c1'
        have hv0 := List.getElem?_eq_getElem (show i < vsp.length by omega)
        obtain ⟨d, hd2, hF⟩ := hS.get hv0
        obtain rfl := Option.some.inj (hd.symm.trans hd2)
        have hdd := hdr _ (List.mem_of_getElem? hd)
        have aty : atI vsp ((i : Nat) : Int) = some vsp[i] := atI_nat hv0
        refine ⟨_, rfl, _, rfl, p, _, _, _, rfl, rfl, SqL.of (T3 _ _ hp), aty, _, rfl, s0, _, u, ds[i], rfl, hF.same T3, hdd, hul, hua, FD.dep_lt _, fun r J4 hr4 S4 e4 => ?_⟩
        refine ⟨by show 0 ≤ 1000; decide, fun pe J5 hpe S5 e5 => ⟨_, _, .lst (SqL.of (S5 _ _ e4)) (dpAll_flat (part_ok hua).1), .lst (SqL.of e5) .nil, (part_ok hua).2, by decide +kernel, _, rfl, ?_⟩⟩
        have eb : rvBad ds ps i = !(ds[i]).isW u := by unfold rvBad; rw [hu, hd]
        have nx : rvVals (ds.take (i + 1)) (ps.take (i + 1)) = rvVals (ds.take i) (ps.take i) ++ [FD.valW u ds[i]] := by
          unfold rvVals
          rw [List.take_add_one, List.take_add_one, hu, hd]
          exact List.zipWith_append (by rw [List.length_take, List.length_take]; omega)
        have S45 := S4.trans S5
        rw [part_nil]
        cases hw : (ds[i]).isW u with
        | false => exact iteT ⟨_, rfl, bad (by rw [eb, hw]; rfl) _ S45⟩
        | true =>
        refine iteF ?_
        have vl : (rvVals (ds.take i) (ps.take i)).length ≤ 200 := by
          have := ok.few
          unfold rvVals
          rw [List.length_zipWith, List.length_take, List.length_take]
          omega
        have T5 := T3.trans S45
        refine ⟨_, rfl, .inl ⟨rfl, _, SqL.of (S45 _ _ (S3 _ _ eV))⟩, _, rfl, _, rfl, p, _, _, _, rfl, rfl, SqL.of (T5 _ _ hp), aty, _, rfl, s0, _, u, ds[i], rfl, hF.same T5, hdd, hul, hua, FD.dep_lt _, fun r6 J6 hr6 S6 e6 => ?_⟩
        have e6' : J6 r6 = some (.lst [FD.valW u ds[i]]) := by rw [e6]; unfold FD.part; rw [if_pos hw]
        have S46 := S45.trans S6
        refine ⟨r6, _, _, _, rfl, rfl, SqL.of e6', atI_nat (j := 0) rfl, D, _, _, rfl, rfl, S46 _ _ (S3 _ _ eV), by rw [sizeLine_eq]; omega, ⟨_, _, rfl⟩, same_put (T3.trans S46) hD, by rw [upd_ne nlD]; exact S46 _ _ (S3 _ _ eP), by rw [upd_same, nx], fun j hj => ?_⟩
        rcases Nat.lt_or_ge j i with h | h
        · exact hb j h
        · rw [show j = i by omega, eb, hw]
          rfl
    · rintro σ J ⟨⟨v3, v4, rfl⟩, S, eP, eV, hb⟩
      rw [List.length_map] at hb eV
      have hd : rvDue ds ps = none := List.find?_eq_none.mpr fun j hj => by rw [hb j (List.mem_range.mp hj)]; decide
      have hle := rv_none hd
      have e : rvVals (ds.take ps.length) ps = rvVals ds ps := zip_take _ _ hle
      rw [List.take_length, e] at eV
      have vl : (rvVals ds ps).length = ps.length := by
        unfold rvVals
        rw [List.length_zipWith]
        omega
      refine ⟨_, rfl, D, _, rfl, .inl (SqL.of eV), _, rfl, p, vsp, rfl, .inl (SqL.of (S _ _ hp)), rfl, _, rfl, ?_⟩
      refine ite2 (fun c => ?_) (fun c => ?_)
      · have z := of_decide_eq_true c
        injection z with z
        refine ⟨_, rfl, D, _, rfl, .inl ⟨SqL.of eV, fun l hl => q2 (by unfold rdDue; rw [hd]; exact if_neg (by omega)) l _ (S.trans (same_upd hl)) (none_of S hl) upd_same⟩⟩
      · have z : ps.length < ds.length := by
          refine Decidable.byContradiction fun y => c (decide_eq_true ?_)
          rw [show (rvVals ds ps).length = vsp.length by omega]
        refine ⟨_, rfl, D, _, rfl, .inl (SqL.of eV), ?_⟩
        rw [vl]
        exact q1 _ (by unfold rdDue; rw [hd]; exact if_pos z) J S

end
end L2.K80

set_option Elab.async false
set_option linter.all false
set_option maxRecDepth 100000
set_option maxHeartbeats 2000000
/-! A lambda whose parameters all have defaults, handed to a def that calls it with nothing. -/
namespace L2.Jk
open PySem PySem.W PySem.Spec PySem.Calls PyProof.Rows
/-- its parameters are none of the maker's names, all else is captured or global -/
structure LamD (N : List Str) (sc scope : Scope) : Prop where
  kd : scope.kind = .function
  co : scope.isCoroutine = false
  ge : scope.isGenerator = false
  cl : ∀ y ∈ scope.names, y.2 ≠ .cell
  nw : ∀ y ∈ scope.names, y.2 = .local → y.1 ∉ N
  fr : ∀ y ∈ scope.names, y.2 = .free → sc.names.lookup y.1 = some .cell ∨ sc.names.lookup y.1 = some .free
def lamDB (N : List Str) (sc scope : Scope) : Bool :=
  decide (scope.kind = .function) && (!scope.isCoroutine && (!scope.isGenerator && (scope.names.all fun y => !decide (y.2 = .cell) && ((!decide (y.2 = .local) || !N.contains y.1) && (!decide (y.2 = .free) || (decide (sc.names.lookup y.1 = some .cell) || decide (sc.names.lookup y.1 = some .free)))))))
theorem lamD_by {N : List Str} {sc scope : Scope} (h : lamDB N sc scope = true) : LamD N sc scope := by
  unfold lamDB at h
  obtain ⟨h1, h⟩ := Bool.and_eq_true_iff.mp h
  obtain ⟨h2, h⟩ := Bool.and_eq_true_iff.mp h
  obtain ⟨h3, h⟩ := Bool.and_eq_true_iff.mp h
  have each : ∀ y ∈ scope.names, _ := fun y hy => List.all_eq_true.mp h y hy
  refine ⟨of_decide_eq_true h1, by simpa using h2, by simpa using h3, fun y hy => ?_, fun y hy e => ?_, fun y hy e => ?_⟩
  · obtain ⟨a, _⟩ := Bool.and_eq_true_iff.mp (each y hy)
    simpa using a
  · obtain ⟨_, a⟩ := Bool.and_eq_true_iff.mp (each y hy)
    obtain ⟨a, _⟩ := Bool.and_eq_true_iff.mp a
    rw [decide_eq_true e] at a
    simpa using a
  · obtain ⟨_, a⟩ := Bool.and_eq_true_iff.mp (each y hy)
    obtain ⟨_, a⟩ := Bool.and_eq_true_iff.mp a
    rw [decide_eq_true e] at a
    simpa using a
theorem LamD.has {X : Cx} {scope : Scope} (L : LamD X.N X.env.scope scope) (ok : X.Ok) : ∀ y ∈ scope.names, y.2 = .free → ∃ c, X.env.cells.lookup y.1 = some c := fun y hy e =>
  (L.fr y hy e).elim (fun k => ok.has _ (.inl k)) fun k => ok.has _ (.inr k)
section
variable {X : Cx} {pins : List (Addr × Obj)} {σ : L2.St} {H HZ : Hp} {s s1 : Shared}
/-- it is entered: its frame stands, the maker's names are read through its cells -/
theorem lamD_in {A : Around} {outer : List Env} {E : XK} {scope : Scope} {f c' : Addr} {h1 : Heap} {tk : Nat} {m : Str → Option Value}
    (I : Inv X pins σ H s) (L : LamD X.N X.env.scope scope) (en : Env0 X.prog X.w X.K X.mg X.base A outer s1 HZ)
    (hd : A.handled = none) (un : Un (frs X.stack) [] H HZ s.heap s1.heap)
    (hns : h1.Ns s1.heap.objs.size m) (kp : ∀ b o, s1.heap.get? b = some o → h1.get? b = some o) :
    Inv (LamX.lamCx X A outer s1 HZ E scope f c') [] σ HZ { s1 with heap := h1, toks := tk } := by
  have wide := L.has I.ok
  have got : ∀ {y c}, (cloFrom X.env.cells scope.names []).lookup y = some c → X.env.cells.lookup y = some c := fun {y c} e => by
    rcases cloFrom_mem (PySem.mem_of_lookup e) with z | ⟨z1, z2⟩
    · cases z
    · obtain ⟨c1, e1⟩ := wide _ z1 rfl
      have e1 : X.env.cells.lookup y = some c1 := e1
      have e2 : c = c1 := by rw [z2, e1] <;> rfl
      rw [e2, e1]
  have finds : ∀ {y}, scope.names.lookup y = some .free → ∃ c, (cloFrom X.env.cells scope.names []).lookup y = some c := fun {y} e =>
    mem_lookup (cloFrom_has (cells := X.env.cells) (acc := []) (PySem.mem_of_lookup e))
  have stays : ∀ {c : Addr} {v : Option Value}, H c = none → s.heap.IsCell c v → h1.IsCell c v := fun {c v} n ⟨o, ho, k⟩ => by
    obtain ⟨sl, q⟩ := un.any ho n (by simp)
    exact ⟨_, kp _ _ q, k⟩
  have none_ex : ∀ b : Addr, b ∉ (LamX.lamCx X A outer s1 HZ E scope f c').ex := fun b z => absurd (show b ∈ ([] : List Addr) from z) (by simp)
  have okC : (LamX.lamCx X A outer s1 HZ E scope f c').Ok := by
    refine ⟨en.mod, L.kd, rfl, rfl, Nat.le_refl _, fun y z c e1 e2 => I.ok.inj y z c (got e1) (got e2), fun y hy => ?_, fun y c z _ => ?_, fun _ => hd,
      Around.frames_deeper en.frames, .inr ⟨rfl, rfl⟩, fun b z => absurd z (none_ex b), en.bs, en.bsz, fun b _ _ => none_ex b, fun b z => absurd z (none_ex b), en.funs, en.frf⟩
    · have hy : scope.names.lookup y = some .cell ∨ scope.names.lookup y = some .free := hy
      exact hy.elim (fun k => absurd rfl (L.cl _ (PySem.mem_of_lookup k))) finds
    · have z : false = true := z
      cases z
  refine ⟨okC, rfl, en.bare, Un.kept kp, ⟨_, hns, fun i y v e1 e2 e3 => ?_⟩, fun y c e => ?_, en.hok.fresh (Nat.le_refl _), fun y c e => ?_,
    fun q hq => absurd (show q ∈ ([] : List (Addr × Obj)) ++ [] from hq) (by simp), en.hok.kept kp, I.len⟩
  · have e1 : X.N[i]? = some y := e1
    have e3 : Vis scope y := e3
    rcases e3 with k | k | k
    · exact absurd (List.mem_of_getElem? e1) (L.nw _ (PySem.mem_of_lookup k) rfl)
    · exact absurd rfl (L.cl _ (PySem.mem_of_lookup k))
    · obtain ⟨m0, _, hl⟩ := I.loc
      have vis : Vis X.env.scope y := (L.fr _ (PySem.mem_of_lookup k) rfl).elim (fun k => .inr (.inl k)) (fun k => .inr (.inr k))
      obtain ⟨w1, r, q⟩ := hl i y v e1 e2 vis
      obtain ⟨c2, h2⟩ := finds k
      refine ⟨w1, r, .inr ⟨.inr k, c2, h2, ?_⟩⟩
      have c1 := got h2
      rcases q with ⟨k1, _⟩ | ⟨_, c3, e4, z⟩
      · have k1 : X.env.scope.names.lookup y = some .local := k1
        rcases L.fr _ (PySem.mem_of_lookup k) rfl with k2 | k2
        · rw [show X.env.scope.names.lookup y = _ from k2] at k1
          cases k1
        · rw [show X.env.scope.names.lookup y = _ from k2] at k1
          cases k1
      · rw [c1] at e4
        cases e4
        exact stays (I.freeC y _ c1) z
  · obtain ⟨w1, z⟩ := I.cell y c (got e)
    exact ⟨w1, stays (I.freeC y c (got e)) z⟩
  · obtain ⟨v, o, ho, k⟩ := I.cell y c (got e)
    exact un.free c o ho (I.freeC y c (got e)) (by simp)
/-- it is made: a tuple of the defaults stands at t, the function at f, its code object at c' -/
theorem lamD_make {T : List (Addr × Str)} {c P : Addr} {params : Arguments} {body : Expr} {scope : Scope} {pos : Pos} {nd : Nat}
    {E : Value → Shared → Prop} {Q : Value → Shared → Prop} (I : Inv X pins σ H s) (TB : LamX.TabB X.base X.mg c P) (hcode : X.env.code = .ref c)
    (hm : (P, X.env.qual ++ "<lambda>") ∈ T) (hu : ∀ p ∈ T, p.1 = P → p.2 = X.env.qual ++ "<lambda>") (hT : LamX.Tabs T H)
    (d0 : params.defaults.isEmpty = false) (k0 : params.kw_defaults = []) (n0 : 0 < nd)
    (hdv : ∀ (M : Model) (A : Around) (Q : List Value → Shared → Prop) (s : Shared), (∀ dv tk, dv.length = nd → Q dv { s with toks := tk }) → wpAny M A (evalAll (evalEach params.defaults X.env)) Q E s)
    (hfree : ∀ y ∈ scope.names, y.2 = .free → ∃ c, X.env.cells.lookup y.1 = some c)
    (h : ∀ (f t c' : Addr) (doc pm ctv : Value) (H1 : Hp) (s' : Shared) (dv : List Value), dv.length = nd → Inv X pins σ H1 s' → LamX.ExtN H H1 → LamX.Tabs T H1 →
      s'.heap.get? f = some (kdv_obj "<lambda>" (X.env.qual ++ "<lambda>") params (.expr body) scope (cloFrom X.env.cells scope.names []) (.ref t) doc pm c' ctv) →
      s'.heap.get? t = some (kdv_tup dv) → H1 f = none → H1 t = none → f ∉ frs X.stack → t ∉ frs X.stack → H1 c' = some (LamX.CodeO c' (X.env.qual ++ "<lambda>")) → Q (.ref f) s') :
    wpAny (model X.prog X.w) X.A (eval (.Lambda params body scope pos) X.env) Q E s := by
  obtain ⟨ps, hP, ht, ha⟩ := hT _ hm
  refine kdv_lam d0 k0 (hdv _ _ _ _ fun dv tk0 hl => ?_)
  have dne : dv.isEmpty = false := by
    cases dv with
    | nil => rw [← hl] at n0; exact absurd n0 (Nat.lt_irrefl _)
    | cons _ _ => rfl
  have I := I.tok tk0
  rw [makeFunction_eq]
  simp only [List.zip_nil_right, List.filterMap_nil, List.isEmpty_nil, if_true, pure_bind, dne, Bool.false_eq_true, if_false]
  refine wpAny_bind (wpAny_newTextTuple ?_)
  have ht0 : H s.heap.objs.size = none := I.hok.fresh (Nat.le_refl _)
  have away : ∀ b, s.heap.objs.size ≤ b → b ∉ frs X.stack := fun b hb z => by
    rcases List.mem_cons.mp (I.stkSub _ z) with e | e
    · have h1 := I.lt
      rw [← e] at h1
      exact Nat.lt_irrefl _ (Nat.lt_of_lt_of_le h1 hb)
    · exact I.nofs hb e
  have It : Inv X pins σ H { s with heap := s.heap.push (kdv_tup dv), toks := tk0 } := I.kept fun b o e => Heap.get?_push_of_some _ e
  have hat : (s.heap.push (kdv_tup dv)).get? s.heap.objs.size = some (kdv_tup dv) := Heap.get?_push_size _ rfl
  have big : s.heap.objs.size < (s.heap.push (kdv_tup dv)).objs.size := by rw [Heap.size_push]; omega
  have bP : (s.heap.push (kdv_tup dv)).BuiltinsAt X.mg P := TB.bm.keeps It.bk
  have hP1 : (s.heap.push (kdv_tup dv)).get? P = some { cls := .none, data := .fields ps } := It.hok P _ hP
  cases hc : codeAmong pos ps.toList with
  | none =>
    refine kdv_makeTail (s := { s with heap := s.heap.push (kdv_tup dv), toks := tk0 }) (mg := X.mg) (c := c) (P := P) (ps := ps) (closure_ok hfree) I.ok.glob (It.mod.glob.keeps It.bk) hcode (TB.code.keeps It.bk) hP1 ht hc TB.gP bP fun c' ctv doc h' tk hx hge hlt hrec htb => ?_
    obtain ⟨c2, oc, vs, tt, e2, hoc, k1, k2⟩ := hrec
    cases e2
    have hsz : s.heap.objs.size < h'.objs.size := Nat.lt_of_lt_of_le big (Nat.le_trans hge (Nat.le_of_lt hlt))
    have nC : H c' = none := It.hok.fresh hge
    have nPt : s.heap.objs.size ≠ P := fun z => by rw [z, hP] at ht0; cases ht0
    have I1 := LamX.inv_table (t' := tk) (more := #[rawInt pos.line, rawInt pos.col, .ref c']) (h' := h'.push (kdv_obj "<lambda>" (X.env.qual ++ "<lambda>") params (.expr body) scope (cloFrom X.env.cells scope.names []) (.ref s.heap.objs.size) doc ((X.mg "__name__").getD .none) c' ctv)) It hP
      (fun b o hb e => Heap.get?_push_of_some _ (hx b o hb e)) (Heap.get?_push_of_some _ htb) hge ⟨oc, vs, tt, Heap.get?_push_of_some _ hoc, k1, k2⟩
    generalize hH1 : upd (upd H P (.tbl (ps ++ #[rawInt pos.line, rawInt pos.col, .ref c']))) c' (LamX.CodeO c' (X.env.qual ++ "<lambda>")) = H1 at I1
    have at1 : ∀ b, b ≠ P → b ≠ c' → H1 b = H b := fun b n1 n2 => by rw [← hH1, upd_ne n2, upd_ne n1]
    have hE : LamX.ExtN H H1 := fun b o e n => by
      rw [at1 b (fun z => n ps (Option.some.inj (e.symm.trans (by rw [z]; exact hP)))) (ne_of_none e nC)]
      exact e
    have eT : (ps ++ #[rawInt pos.line, rawInt pos.col, .ref c']).toList = ps.toList ++ [rawInt pos.line, rawInt pos.col, .ref c'] := by simp
    have atC : H1 c' = some (LamX.CodeO c' (X.env.qual ++ "<lambda>")) := by rw [← hH1]; exact upd_same
    refine h h'.objs.size s.heap.objs.size c' doc ((X.mg "__name__").getD .none) ctv H1 _ dv hl I1 hE (fun p hp => ?_) (Heap.get?_push_size _ rfl) (Heap.get?_push_of_some _ (hx _ _ nPt hat)) ?_ ?_ (away _ (Nat.le_of_lt hsz)) (away _ (Nat.le_refl _)) atC
    · by_cases hb : p.1 = P
      · rw [hu p hp hb, hb]
        refine ⟨_, by rw [← hH1, upd_ne (ne_of_none hP nC), upd_same], by rw [eT]; exact PySem.TriplesOk_snoc _ _ _ _ ht, fun p' cv z => ?_⟩
        rw [eT] at z
        rcases LamX.among_app _ ht z with z | z
        · obtain ⟨c0, e1, e2⟩ := ha p' cv z
          exact ⟨c0, e1, hE _ _ e2 LamX.codeO_ne⟩
        · exact ⟨c', z, atC⟩
      · obtain ⟨ps', a1, a2, a3⟩ := hT p hp
        refine ⟨ps', by rw [at1 _ hb (ne_of_none a1 nC)]; exact a1, a2, fun p' cv z => ?_⟩
        obtain ⟨c0, e1, e2⟩ := a3 p' cv z
        exact ⟨c0, e1, hE _ _ e2 LamX.codeO_ne⟩
    · rw [at1 _ (Nat.ne_of_gt (Nat.lt_of_lt_of_le (Heap.lt_size (I.hok P _ hP)) (Nat.le_of_lt hsz))) (Nat.ne_of_gt hlt)]
      exact I.hok.fresh (Nat.le_of_lt hsz)
    · rw [at1 _ nPt (fun z => by rw [← z] at hge; exact Nat.lt_irrefl _ (Nat.lt_of_lt_of_le big hge))]
      exact ht0
  | some cv =>
    obtain ⟨c', e, hco⟩ := ha pos cv hc
    subst e
    refine kdv_makeTailHit (s := { s with heap := s.heap.push (kdv_tup dv), toks := tk0 }) (mg := X.mg) (c := c) (P := P) (ps := ps) (closure_ok hfree) I.ok.glob (It.mod.glob.keeps It.bk) hcode (TB.code.keeps It.bk) hP1 ht hc bP fun ctv doc h' tk hx hsz => ?_
    have I1 : Inv X pins σ H { s with heap := h'.push (kdv_obj "<lambda>" (X.env.qual ++ "<lambda>") params (.expr body) scope (cloFrom X.env.cells scope.names []) (.ref s.heap.objs.size) doc ((X.mg "__name__").getD .none) c' ctv), toks := tk } :=
      It.kept fun b o e => Heap.get?_push_of_some _ (hx b o e)
    have hle : s.heap.objs.size ≤ h'.objs.size := Nat.le_trans (Nat.le_of_lt big) hsz
    exact h h'.objs.size s.heap.objs.size c' doc ((X.mg "__name__").getD .none) ctv H _ dv hl I1 (LamX.ExtN.refl H) hT (Heap.get?_push_size _ rfl) (Heap.get?_push_of_some _ (hx _ _ hat)) (I.hok.fresh hle) ht0 (away _ hle) (away _ (Nat.le_refl _)) hco
/-- it is called by the def that got it -/
theorem lamD_act {CXg : CXT} {Eg : XK} {Ng : List Str} {qg : Str} {sg : Scope} {g f t c' : Addr} {cdg doc pm ctv : Value} {params : Arguments} {body : Expr} {scope : Scope} {k i : Nat} {a : Str}
    {pn : List (Addr × Obj)} {xe : Value → Shared → Prop} {W : WX} {E : XK} {tb : TE} {p1 p2 : Pos} {dv : List Value} {bs : List (Str × Value)} {kk : Option (Array Value) → Sem (List (Str × Value))}
    (I : Inv X pins σ H s) (L : LamD X.N X.env.scope scope)
    (hf : s.heap.get? f = some (kdv_obj "<lambda>" (X.env.qual ++ "<lambda>") params (.expr body) scope (cloFrom X.env.cells scope.names []) (.ref t) doc pm c' ctv))
    (hft : s.heap.get? t = some (kdv_tup dv)) (hfn : H f = none) (htn : H t = none) (hfr : f ∉ frs X.stack) (htr : t ∉ frs X.stack)
    (b1 : bindArgs (kdv_fn "<lambda>" (X.env.qual ++ "<lambda>") params (.expr body) scope (cloFrom X.env.cells scope.names []) (.ref t) doc pm (.ref c') ctv) ⟨[], []⟩ = seqItems? (.ref t) >>= kk)
    (b2 : kk (some dv.toArray) = pure bs) (b3 : ∀ y ∈ bs, scope.names.lookup y.1 = some .local)
    (tk : Takes ((cxOf CXg X.prog X.w X.K X.mg X.base Ng qg sg g cdg X.A X.stack s H Eg).tr pn xe) W) (hW : ∀ cls d σ' H', E cls d H' → W cls d σ' H')
    (hr : Room (k + 1) (X.A.deeper (envOfC qg sg s.heap.objs.size g cdg)))
    (hbody : ∀ (A : Around) (outer : List Env) (s : Shared) (H : Hp), Room k (A.deeper (LamX.lamEnv X scope s.heap.objs.size f c')) → PE (LamX.lamCx X A outer s H E scope f c') body tb)
    (hN : Ng[i]? = some a) (hv : Vis sg a) (hd : (a == ("__debug__" : Str)) = false := by decide) (hcd : (a == ("__classdict__" : Str)) = false := by decide) :
    PE ((cxOf CXg X.prog X.w X.K X.mg X.base Ng qg sg g cdg X.A X.stack s H Eg).tr pn xe) (.Call (.Name a p1) [] [] p2)
      (fun τ HZ Q => τ[i]? = some (some (.ref f)) ∧ HZ c' = some (LamX.CodeO c' (X.env.qual ++ "<lambda>")) ∧ tb σ HZ Q) := by
  refine ⟨fun pinsZ sZ τ HZ Q IZ ⟨hs, hc, ht⟩ => ?_⟩
  refine wpAny_Call_Name_kw (thn ((pe_var (pos := p1) (i := i) hN hv hd hcd).run pinsZ sZ τ HZ (fun v H1 => v = .ref f ∧ H1 = HZ) IZ ⟨.ref f, hs, rfl, rfl⟩) fun u s1 ⟨v, H1, I1, r1, ev, eH⟩ => ?_)
  subst ev
  rw [eH] at I1
  obtain rfl : u = Value.ref f := r1
  have nx : ∀ b : Addr, b ∉ ([] : List Addr) := fun b z => nomatch z
  have of1 := I1.base.keep f _ hf hfn hfr (nx f)
  have ot1 := I1.base.keep t _ hft htn htr (nx t)
  refine PySem.W.callWith_F0 ⟨_, _, _, _, of1⟩ ?_
  have un : Un (frs X.stack) [] H HZ s.heap s1.heap := I1.base
  obtain ⟨⟨oc, vs, tt, hoc, hdc, hvc⟩, _, _⟩ := I1.hok c' _ hc
  have rc : codeAny (model X.prog X.w) (X.A.deeper (envOfC qg sg s.heap.objs.size g cdg)) (.call (.ref f) ⟨[], []⟩) (CR (L2.CX X.prog X.w) (envOfC qg sg s.heap.objs.size g cdg :: X.stack) X.prog X.w HZ s1 Q E) s1 := by
    refine PySem.W.kla_callFunE hr.depth of1 rfl L.co L.ge rfl ⟨c', oc, vs, tt, rfl, hoc, hdc, hvc⟩ ?_
    refine (BindsTo.of_defaults rfl ot1 rfl b1 b2 : BindsTo s1 _ _ bs) _ _ _ _ ?_
    refine wpAny_newFunctionEnv (fun y hy => L.cl y hy) b3 (fun h1 hns hsb => ⟨I1.nolimit.fresh _ hsb, ?_⟩) L.kd
    show codeAny _ _ (.expr body (LamX.lamEnv X scope s1.heap.objs.size f c')) _ _
    have kp : ∀ b o, s1.heap.get? b = some o → h1.get? b = some o := fun b o e => hsb.extBut b o (Nat.ne_of_lt (Heap.lt_size e)) (Heap.get?_push_of_some _ e)
    have J := lamD_in (E := E) (f := f) (c' := c') (tk := s1.toks + bs.length) I L I1.env0 hr.hd un hns kp
    refine PySem.W.kla_codeExpr (wpAny_mono ((hbody _ _ s1 HZ (hr.deeper _)).run [] _ _ HZ Q J ht) (fun v s' hq => ?_) fun e s' hq => hq)
    obtain ⟨w', H', J', rv, q⟩ := hq
    exact ⟨w', H', J'.os, J'.bare, J'.base, J'.hok, rv, q⟩
  have hx : Passes (L2.CX X.prog X.w) ((cxOf CXg X.prog X.w X.K X.mg X.base Ng qg sg g cdg X.A X.stack s H Eg).tr pn xe) E := passes_call tk hW
  refine wpAny_call (codeAny_mono rc fun r s' hq => ?_)
  cases r with
  | error e => exact hx pinsZ τ HZ s1 e s' I1 hq
  | ok fl =>
    cases fl with
    | ret u => exact I1.after hq
    | next => exact False.elim hq
    | brk => exact False.elim hq
    | cont => exact False.elim hq
end
section
variable {X : Cx}
/-- x(lambda a=0, ..: body) -/
theorem pe_lamcallD {T : List (Addr × Str)} {TT : (XK → Hp → VK → Prop) → Hp → VK → Prop} {x a : Str} {g c P : Addr} {k : Nat} {pg : Arguments} {bg : List Stmt} {sg : Scope} {dV kV doc pm cdv ct oc : Value} {an od : Option Addr}
    {osl : Array (Option Value)} {Ng : List Str} {params : Arguments} {body : Expr} {scope : Scope} {t : XK → TE} {p lpos pos : Pos} {nd : Nat} (hg : Gl X x)
    (hm : X.mg x = some (.ref g)) (hk : keepIn X.K (.ref g) = true) (lk : X.K.lookup g = some ⟨oc, od, .func (fnOf x x pg bg sg dV kV doc pm an cdv ct), osl⟩) (hcg : codeIn X.K cdv x = true)
    (hb : Binds X.K (fnOf x x pg bg sg dV kV doc pm an cdv ct) [a] []) (Sg : FnScope Ng [a] sg) (hNg : Ng[0]? = some a) (hva : Vis sg a)
    (hG : LamX.GivesTo X Ng x sg g cdv bg a (X.env.qual ++ "<lambda>") TT) (TB : LamX.TabB X.base X.mg c P) (hcode : X.env.code = .ref c)
    (hmT : (P, X.env.qual ++ "<lambda>") ∈ T) (hu : ∀ p ∈ T, p.1 = P → p.2 = X.env.qual ++ "<lambda>") (hr : Room (k + 2) X.A) (L : LamD X.N X.env.scope scope)
    (d0 : params.defaults.isEmpty = false) (k0 : params.kw_defaults = []) (n0 : 0 < nd)
    (hdv : ∀ (M : Model) (A : Around) (E : Value → Shared → Prop) (Q : List Value → Shared → Prop) (s : Shared), (∀ dv tk, dv.length = nd → Q dv { s with toks := tk }) → wpAny M A (evalAll (evalEach params.defaults X.env)) Q E s)
    (hbind : ∀ (q : Str) (cl : List (Str × Addr)) (t : Addr) (doc pm cv ctv : Value) (dv : List Value), dv.length = nd → ∃ (kk : Option (Array Value) → Sem (List (Str × Value))) (bs : List (Str × Value)),
      bindArgs (kdv_fn "<lambda>" q params (.expr body) scope cl (.ref t) doc pm cv ctv) ⟨[], []⟩ = seqItems? (.ref t) >>= kk ∧ kk (some dv.toArray) = pure bs ∧ ∀ y ∈ bs, scope.names.lookup y.1 = some .local)
    (hbody : ∀ (A : Around) (outer : List Env) (s : Shared) (H : Hp) (E : XK) (f c' : Addr), Room k (A.deeper (LamX.lamEnv X scope s.heap.objs.size f c')) → PE (LamX.lamCx X A outer s H E scope f c') body (t E))
    (hdb : (x == ("__debug__" : Str)) = false := by decide) (hd : (a == ("__debug__" : Str)) = false := by decide) (hcd : (a == ("__classdict__" : Str)) = false := by decide) :
    PE X (.Call (.Name x p) [.Lambda params body scope lpos] [] pos) (LamX.tLam T TT t) := by
  refine ⟨fun pins s σ H Q I ⟨hT, h⟩ => ?_⟩
  refine wpAny_Call_Name_kw (ld_glob I hg hm ?_ hdb)
  refine PySem.W.callWith_K (h₀ := X.base) I.ok.mod.kin hk ?_ (by rfl) (by rfl)
  show wpAny _ _ (spliced ((false, eval (.Lambda params body scope lpos) X.env) :: backTo pos (starEach [] X.env))) _ _ s
  refine Calls.spliced_cons (lamD_make I TB hcode hmT hu hT d0 k0 n0 (fun M A Q s => hdv M A _ Q s) (L.has I.ok) fun f t' c' doc' pm' ctv H1 s' dv hl I1 eN T1 hf hft hfn htn hfr htr hco => ?_)
  refine Calls.spliced_nil ⟨I1.kIn, ?_⟩
  have rc : codeAny (model X.prog X.w) X.A (.call (.ref g) ⟨[.ref f], []⟩) (CR C8.CX0 X.stack X.prog X.w H1 s' Q C8.E0) s' := by
    refine LamX.run_ofS (N := Ng) (ps := [a]) (us := [.ref f]) (vs := [.ref f]) lk hcg Sg hr I1.env0 (hb s' [.ref f] I1.kIn rfl) (.cons rfl .nil) rfl fun hr' => ?_
    obtain ⟨kk, bs, b1, b2, b3⟩ := hbind (X.env.qual ++ "<lambda>") (cloFrom X.env.cells scope.names []) t' doc' pm' (.ref c') ctv dv hl
    obtain ⟨tq, hq1, hq2⟩ := hG f c' s' H1 Q (fun E H' Q' => t E σ H' Q') (fun W pn xe E p1 p2 tk hW =>
      lamD_act (i := 0) I1 L hf hft hfn htn hfr htr b1 b2 b3 tk hW hr' (fun A outer s H hr2 => hbody A outer s H E f c' hr2) hNg hva hd hcd) hco (h H1 eN T1)
    exact ⟨tq, hq1.nox, hq2⟩
  refine wpAny_call (codeAny_mono rc fun r s2 hq => ?_)
  cases r with
  | error e => exact (show False from hq).elim
  | ok fl =>
    cases fl with
    | ret u => exact I1.after hq
    | next => exact False.elim hq
    | brk => exact False.elim hq
    | cont => exact False.elim hq
/-- the defaults: whole numbers as they are written -/
theorem dflt1 {env : Env} {i1 : Int} {k1 : Nat} {q1 : Pos} (M : Model) (A : Around) (E : Value → Shared → Prop) (Q : List Value → Shared → Prop) (s : Shared) (h : ∀ dv tk, dv.length = 1 → Q dv { s with toks := tk }) :
    wpAny M A (evalAll (evalEach [.Constant (.int i1) k1 q1] env)) Q E s :=
  kdv_all1 (wpAny_Constant_int (kdv_all0 (h _ _ rfl)))
theorem dflt2 {env : Env} {i1 i2 : Int} {k1 k2 : Nat} {q1 q2 : Pos} (M : Model) (A : Around) (E : Value → Shared → Prop) (Q : List Value → Shared → Prop) (s : Shared) (h : ∀ dv tk, dv.length = 2 → Q dv { s with toks := tk }) :
    wpAny M A (evalAll (evalEach [.Constant (.int i1) k1 q1, .Constant (.int i2) k2 q2] env)) Q E s :=
  kdv_all1 (wpAny_Constant_int (kdv_all1 (wpAny_Constant_int (kdv_all0 (h _ _ rfl)))))
end
end L2.Jk

set_option Elab.async false
set_option linter.all false
set_option maxRecDepth 100000
set_option maxHeartbeats 4000000
/-! repr of flat values. -/
namespace L2.Jk
open PySem PySem.W PySem.Spec PySem.Calls PyProof.Rows
def reprV : V → Str
  | .non => "None"
  | .bl b => if b then "True" else "False"
  | .int i => (toString i : Str)
  | .str z => reprText z
  | _ => ""
def reprOk : V → Bool
  | .int i => decide (i.natAbs.log2 < 1920)
  | .str z => decide ((reprText z).length ≤ 16777216)
  | _ => true
theorem call_reprV {X : Cx} : CallR X (.builtin "repr") (fun xs H Q => ∃ v, xs = [v] ∧ flatV v = true ∧ reprOk v = true ∧ Q (.str (reprV v)) H) := by
  intro pins s σ H xs us Q I r h
  obtain ⟨v, rfl, hf, hz, q⟩ := h
  obtain ⟨u, rfl, ru⟩ := vals1 r
  cases v with
  | non =>
    cases ru
    exact P.repr_of_none ⟨.str _, H, I.tok _, ⟨_, rfl⟩, q⟩
  | bl b =>
    cases ru
    exact P.repr_of_bool ⟨.str _, H, I.tok _, ⟨_, by cases b <;> rfl⟩, q⟩
  | int i =>
    obtain ⟨t, rfl⟩ := ru
    exact P.repr_of_int (of_decide_eq_true hz) ⟨.str _, H, I.tok _, ⟨_, rfl⟩, q⟩
  | str z =>
    obtain ⟨t, rfl⟩ := ru
    exact P.repr_of_str ⟨.str _, H, I.tok _, ⟨_, rfl⟩, q⟩ (by rw [sizeLine_eq]; exact of_decide_eq_true hz)
  | _ => cases hf
end L2.Jk

set_option Elab.async false
set_option linter.all false
set_option maxRecDepth 100000
set_option maxHeartbeats 4000000
/-! try: several clauses, some with a name, some without, put together clause by clause. -/
namespace L2.Jk
open PySem PySem.W PySem.Spec PySem.Calls PyProof.Rows

section
variable {X : Cx}
/-- an error that was caught here: all that is known where the clauses are looked at -/
structure Hit (X : Cx) (pins : List (Addr × Obj)) (σ : St) (H : Hp) (s' : Shared) (a : Addr) (cls : Value) (d : Option Addr) (B : Heap) (sI : Shared) (h3 : Heap) : Prop where
  hs : X.stack = X.env :: X.outer
  hf : X.env.frame = some X.env.locals
  J : Inv X pins σ H sI
  nb : ∀ b o, sI.heap.get? b = some o → b ∉ frs X.stack → B.get? b = some o
  up : sI.heap.UpToSlots h3
  fl : HandSPX.FlyingZ B (X.env :: X.outer) a (Zc cls d) h3
  na : H a = none
  os : s'.os = sI.os
  ag : AllBare s'.gens
/-- the clauses hds keep the wish w -/
def Hnd (X : Cx) (hds : List ExceptHandler) (w : Ends → WX) : Prop := ∀ (D : Ends) (pins : List (Addr × Obj)) (σ : St) (H : Hp) (s' : Shared) (a : Addr) (cls : Value) (d : Option Addr) (B : Heap) (sI : Shared) (h3 : Heap),
  Hit X pins σ H s' a cls d B sI h3 → w D cls d σ H → wpAny (model X.prog X.w) X.A (handleBy (.ref a) X.env hds) (SP X pins D) X.xe { s' with heap := h3 }
section
variable {pins : List (Addr × Obj)} {σ : St} {H : Hp} {s' : Shared} {a : Addr} {cls : Value} {d : Option Addr} {B : Heap} {sI : Shared} {h3 : Heap}
theorem Hit.inv (t : Hit X pins σ H s' a cls d B sI h3) : Inv X pins σ H { s' with heap := h3 } :=
  t.J.landed t.nb t.fl.1 t.up t.os t.ag
theorem Hit.apart (t : Hit X pins σ H s' a cls d B sI h3) : a ≠ X.env.locals ∧ a ∉ X.fs := by
  obtain ⟨oe, vs, he, hz, hd⟩ := t.fl.there
  have nfr : a ∉ frs (X.env :: X.outer) := fun hm => by
    obtain ⟨_, o', e', hnf⟩ := t.fl.2.2.1.mem hm
    rw [he] at e'
    cases e'
    exact hnf _ hd
  refine ⟨fun z => nfr (List.mem_filterMap.mpr ⟨X.env, List.mem_cons_self, by rw [t.hf, z]⟩), fun hm => ?_⟩
  obtain ⟨e, he, q⟩ := List.mem_filterMap.mp hm
  exact nfr (List.mem_filterMap.mpr ⟨e, List.mem_cons_of_mem _ he, q⟩)
end
theorem hnd_nil {Wout : WX} (tk : Takes X Wout) : Hnd X [] (fun _ => Wout) := by
  intro D pins σ H s' a cls d B sI h3 t w
  refine wpAny_handleBy_nil ?_
  obtain ⟨_, _, _, oe, vs, T, oT, ts', he, hz, hd, h1, hr⟩ := id t.fl
  unfold PySem.passOn
  refine wpAny_bind (wpAny_field he hd h1 ?_)
  have nn : ¬ ((Value.ref T == Value.none) = true) := by simp
  rw [if_neg nn]
  have fin : wpAny (model X.prog X.w) X.A (setFlight (.ref a) X.env.frame) (fun _ s4 => wpAny (model X.prog X.w) X.A (throw (.ref a) : Sem Flow) (SP X pins D) X.xe s4) X.xe { s' with heap := h3 } := by
    rw [t.hf]
    exact HandSPX.setFlight_upZ t.fl fun h4 hh4 up4 => wpAny_throw (tk _ _ ⟨a, B, sI, pins, σ, H, cls, d, rfl, t.J, t.nb, t.up.trans up4, .inr (.inr (by rw [t.hs]; exact hh4)), t.na, t.os, t.ag, w⟩)
  first
    | exact wpAny_bind (wpAny_pure (wpAny_bind fin))
    | exact wpAny_bind fin
section
variable {x n : Str} {c : Value} {np cp : Pos} {pins : List (Addr × Obj)} {σ : St} {H : Hp} {s' : Shared} {a : Addr} {cls : Value} {d : Option Addr} {B : Heap} {sI : Shared} {h3 : Heap} {b₀ : Stmt} {suite : List Stmt} {hds : List ExceptHandler} {w : Ends → WX} {ts : Addr → Value → Option Addr → TS} {i : Nat}
/-- there is an object there, and the suite of a clause may run -/
theorem Hit.go (t : Hit X pins σ H s' a cls d B sI h3) : ∃ oe : Obj, h3.get? a = some oe ∧ Zc cls d oe ∧ (∃ vs, oe.data = .fields vs) ∧ Inv (X.suite a ((a, oe) :: (X.pn ++ pins))) [] σ H { s' with heap := h3 } := by
  obtain ⟨oe, vs, he, hz, hd⟩ := t.fl.there
  exact ⟨oe, he, hz, ⟨vs, hd⟩, t.inv.suite he hd t.na t.apart.1 t.apart.2⟩
theorem Hit.again (t : Hit X pins σ H s' a cls d B sI h3) {h4 : Heap} (fl4 : HandSPX.FlyingZ B (X.env :: X.outer) a (Zc cls d) h4) (up4 : h3.UpToSlots h4) : Hit X pins σ H s' a cls d B sI h4 :=
  ⟨t.hs, t.hf, t.J, t.nb, t.up.trans up4, fl4, t.na, t.os, t.ag⟩
/-- what a clause asks first: whether the error is one of its class -/
theorem hit_test {b : Bool} {Q : Bool → Shared → Prop} {E E2 : Value → Shared → Prop}
    (t : Hit X pins σ H s' a cls d B sI h3) (hc : Names X x c) (hb : exmOne X.K cls c = some b) (q : Q b { s' with heap := h3 }) :
    wpAny (model X.prog X.w) (X.A.mark (some (.ref a))) (eval (.Name x np) X.env) (fun c' s1 => wpAny (model X.prog X.w) (X.A.mark (some (.ref a))) (excMatches (.ref a) c') Q E s1) E2 { s' with heap := h3 } := by
  obtain ⟨oe, he, hz, hd, S3⟩ := t.go
  have LT : Looks (model X.prog X.w) h3 (typeOf (.ref a)) cls := fun A Q E s k q => wpAny_typeOf_ref (k _ _ he) (by rw [hz.1]; exact q)
  have LM := exm_one (M := model X.prog X.w) t.inv.kIn LT hb
  have fin : wpAny (model X.prog X.w) (X.A.mark (some (.ref a))) (excMatches (.ref a) c) Q E { s' with heap := h3 } := LM.here q
  obtain ⟨hg, hdbg, hm | ⟨hm, hv, hnn⟩⟩ := hc
  · exact ld_glob (X := X.suite a ((a, oe) :: (X.pn ++ pins))) S3 hg hm fin hdbg
  · exact ld_blt (X := X.suite a ((a, oe) :: (X.pn ++ pins))) S3 hg hm hv fin hnn hdbg
abbrev SuiteOk (X : Cx) (body : List Stmt) (ts : Addr → Value → Option Addr → TS) : Prop :=
  ∀ (a : Addr) (oe : Obj) (cls : Value) (d : Option Addr) (pn : List (Addr × Obj)), Zc cls d oe → (∃ vs, oe.data = .fields vs) → PSs (X.suite a ((a, oe) :: pn)) body (ts a cls d)
/-- except x: suite, and the clauses behind it -/
theorem hnd_un (hc : Names X x c) (hsu : SuiteOk X (b₀ :: suite) ts) (r : Hnd X hds w) :
    Hnd X (.ExceptHandler (some (.Name x np)) none (b₀ :: suite) cp :: hds) (fun D cls d σ H => ∃ b, exmOne X.K cls c = some b ∧ (b = true → ∀ a, H a = none → ts a cls d D σ H) ∧ (b = false → w D cls d σ H)) := by
  intro D pins σ H s' a cls d B sI h3 t ⟨b, hb, yes, no⟩
  have ok := t.J.ok
  refine wpAny_handleBy_cons (codeAny_handlers_test (hit_test t hc hb ?_)) (by intro q; cases q)
  cases b with
  | false => exact r D pins σ H s' a cls d B sI h3 t (no rfl)
  | true =>
    refine codeAny_handlers_suite (HandSPX.lands_againZ t.fl fun h4 fl4 up4 => ?_)
    obtain ⟨oe4, he4, hz4, hd4, S4⟩ := (t.again fl4 up4).go
    refine wpAny_mono ((hsu a oe4 cls d (X.pn ++ pins) hz4 hd4).run [] _ _ H _ S4 (yes rfl a t.na)) (fun f s6 hsp => ?_) (fun _ _ z => False.elim z)
    cases f with
    | ret u =>
      obtain ⟨v6, σ6, H6, S6, r6, q6⟩ := hsp
      exact ⟨_, _, _, S6.unsuite ok, r6, q6⟩
    | _ =>
      obtain ⟨σ6, H6, S6, q6⟩ := hsp
      exact ⟨_, _, S6.unsuite ok, q6⟩
/-- except x as n: suite, n in slot i, and the clauses behind it -/
theorem hnd_as (hN : X.N.Nodup) (hi : X.N[i]? = some n) (hln : X.env.kindOf n = some .local) (hc : Names X x c) (hsu : SuiteOk X (b₀ :: suite) ts) (r : Hnd X hds w) :
    Hnd X (.ExceptHandler (some (.Name x np)) (some n) (b₀ :: suite) cp :: hds) (fun D cls d σ H => ∃ b, exmOne X.K cls c = some b ∧ (b = true → ∀ a, H a = none → ts a cls d { nx := fun σ' H' => D.nx (σ'.set i none) H', rt := D.rt, bk := fun σ' H' => D.bk (σ'.set i none) H', ct := fun σ' H' => D.ct (σ'.set i none) H' } (σ.set i (some (.ref a))) H) ∧ (b = false → w D cls d σ H)) := by
  intro D pins σ H s' a cls d B sI h3 t ⟨b, hb, yes, no⟩
  have ok := t.J.ok
  refine wpAny_handleBy_cons (codeAny_handlers_test (hit_test t hc hb ?_)) (by intro q; cases q)
  cases b with
  | false => exact r D pins σ H s' a cls d B sI h3 t (no rfl)
  | true =>
    refine codeAny_handlers_suite_as (HandSPX.lands_againZ t.fl fun h4 fl4 up4 => ?_)
    obtain ⟨oe4, he4, hz4, hd4, S4⟩ := (t.again fl4 up4).go
    refine store_ok (X := X.suite a ((a, oe4) :: (X.pn ++ pins))) (v := .ref a) S4 hN hi (.inl hln) rfl (fun s5 S5 => ?_) (.inr hln)
    refine wpAny_mono ((hsu a oe4 cls d (X.pn ++ pins) hz4 hd4).run [] s5 _ H _ S5 (yes rfl a t.na)) (fun f s6 hsp => ?_) (fun _ _ z => False.elim z)
    cases f with
    | ret u =>
      obtain ⟨v6, σ6, H6, S6, r6, q6⟩ := hsp
      exact gone_ok (S6.unsuite ok) hN hi hln fun s7 J7 => ⟨_, _, _, J7, r6, q6⟩
    | _ =>
      obtain ⟨σ6, H6, S6, q6⟩ := hsp
      exact gone_ok (S6.unsuite ok) hN hi hln fun s7 J7 => ⟨_, _, J7, q6⟩
end
/-- the statement -/
theorem ps_try_hnd {body : List Stmt} {h₀ : ExceptHandler} {hds : List ExceptHandler} {w : Ends → WX} {tb : WX → TS} {pos : Pos} (hs : X.stack = X.env :: X.outer) (hf : X.env.frame = some X.env.locals)
    (hb : ∀ (W : WX) (pn : List (Addr × Obj)) (xe : Value → Shared → Prop), Takes (X.tr pn xe) W → PassesOwn (model X.prog X.w) X.A X.env xe → PSs (X.tr pn xe) body (tb W))
    (hh : Hnd X (h₀ :: hds) w) : PS X (.Try body (h₀ :: hds) [] [] pos) (fun D σ H => tb (w D) D σ H) := by
  constructor
  intro pins s σ H D I h
  have ok := I.ok
  have hfr : X.A.frames = some (X.env :: X.outer) := by rw [ok.frames, hs]
  refine wpAny_Try_except (wpAny_mono ((hb (w D) (X.pn ++ pins) (fun e s₁ => wpAny (model X.prog X.w) X.A (noteFrame e X.env) (fun _ s₂ => wpAny (model X.prog X.w) X.A (setFlight e none) (fun _ s₃ =>
    wpAny (model X.prog X.w) X.A (handleBy e X.env (h₀ :: hds)) (SP X pins D) X.xe s₃) X.xe s₂) X.xe s₁) (fun u s' xx => ?_) PassesOwn.looking).run [] s σ H D (I.toTry _) h) (fun f s1 hsp => ?_) (fun e s1 he => he))
  · obtain ⟨a, B, sI, pins', σ', H', cls, d, rfl, J', nb, up, sky, na, os, ag, wd⟩ := xx
    have sky' : Sky B (X.env :: X.outer) a (Zc cls d) X.env.locals s'.heap := by rw [← hs]; exact sky
    exact Sky.land Zc.steady hfr hf sky' fun h3 fl3 up3 => hh D pins σ' H' s' a cls d B sI h3 ⟨hs, hf, J'.ofTry ok, nb, up.trans up3, fl3, na, os, ag⟩ wd
  · cases f with
    | next =>
      obtain ⟨σ', H', J', q⟩ := hsp
      exact wpAny_execs_nil ⟨σ', H', J'.ofTry ok, q⟩
    | ret u =>
      obtain ⟨v, σ', H', J', r, q⟩ := hsp
      exact ⟨v, σ', H', J'.ofTry ok, r, q⟩
    | _ =>
      obtain ⟨σ', H', J', q⟩ := hsp
      exact ⟨σ', H', J'.ofTry ok, q⟩
end
end L2.Jk

set_option Elab.async false
set_option linter.all false
set_option maxRecDepth 100000
set_option maxHeartbeats 4000000
/-! The law: what is said, asked by a lambda. -/
namespace L2.K80
open PySem PySem.W PySem.Spec PySem.Calls PyProof.Rows L2.Jk
/-- a def whose code object is known -/
theorem FunD.okC {P : Program} {w : World} {K : Frag} {mg : Str → Option Value} {base : Heap} {x qual : Str} {params : Arguments} {body : List Stmt} {scope : Scope} {dvs : List V} {kws : List (Str × V)} {f c : Addr} {fd : FuncData} {CX : CXT} {N ps : List Str} {k : Nat} {sp : Sp}
    (F : FunD K x qual params body scope dvs kws f fd) (hc : fd.code = .ref c) (S : FnScope N ps scope) (len : ∀ vs H Q E, sp vs H Q E → vs.length = ps.length)
    (hbody : ∀ (A : Around) (outer : List Env) (s : Shared) (H : Hp) (vs : List V) (Q : VK) (E : XK), Room k (A.deeper (envOfC qual scope s.heap.objs.size f (.ref c))) → sp vs H Q E →
      ∃ t, PSs (cxOf CX P w K mg base N qual scope f (.ref c) A outer s H E) body t ∧ t { nx := fun _ H' => Q .non H', rt := Q } (start N vs) H) : FnOk P w K mg base CX (k + 1) f fd ps sp := by
  obtain ⟨oc, od, dV, kV, doc, pm, an, cdv, ct, osl, rfl, lk, hcd, _, _⟩ := F.ex
  have e : cdv = .ref c := hc
  subst e
  exact fn_of lk hcd S len fun A outer s H vs Q E hr hsp => hbody A outer s H vs Q E hr hsp
theorem takes_len {X : Cx} {W : WX} (t : Takes X W) : Takes X (fun cls d σ H => σ.length = X.N.length → W cls d σ H) := fun u s' ⟨a, B, sI, pins, σ, H, cls, d, e, I, nb, up, sky, na, os, ag, w⟩ =>
  t u s' ⟨a, B, sI, pins, σ, H, cls, d, e, I, nb, up, sky, na, os, ag, w I.len⟩
theorem place_look {z : V} : ([(("place" : Str), z)] : List (Str × V)).lookup ("place" : Str) = some z := by rw [lookup_put, if_pos rfl]
/-- what _law_said tells of what it is handed: what it returns, NoRow's place where that is raised -/
def TTs (K : Frag) : (XK → Hp → VK → Prop) → Hp → VK → Prop := fun tl H Q =>
  tl (fun cls d H' => cls = .ref (NR K) ∧ ∃ dd z, d = some dd ∧ H' dd = some (.xd [("place", .int z)]) ∧ Q (.int z) H') H Q
abbrev s_said : Stmt := top 58
theorem sc_said : FnScope ["_law_ask", "e"] ["_law_ask"] (defScope s_said) := ⟨rfl, rfl, rfl, by decide +kernel, rfl, by decide +kernel, by decide +kernel⟩
theorem said_gives {X : Cx} {g : Addr} {cdg : Value} {q : Str} (nr : ErrAt X.prog X.w X.K X.mg X.base "NoRow" (NR X.K) ["place"] "refused norow") (mgJ : X.mg "JointError" = some (.ref (He.ga X.K "JointError"))) (exm : exmOne X.K (.ref (NR X.K)) (.ref (NR X.K)) = some true) :
    LamX.GivesTo X ["_law_ask", "e"] "_law_said" (defScope s_said) g cdg (defBody s_said) "_law_ask" q (TTs X.K) := by
  intro f c' s H Q tl act hc h
  refine ⟨_, pss_one (ps_try_hnd (X := (cxOf C8.CX0 X.prog X.w X.K X.mg X.base ["_law_ask", "e"] "_law_said" (defScope s_said) g cdg X.A X.stack s H C8.E0).nox)
      (tb := fun W D σ H => ∃ Ech : XK, (∀ cls d σ' H', σ'.length = 2 → Ech cls d H' → W cls d σ' H') ∧ σ[0]? = some (some (.ref f)) ∧ H c' = some (LamX.CodeO c' q) ∧ tl Ech H D.rt)
      rfl rfl (fun W pn xe tk _ => ?_) (hnd_as (i := 1) sc_said.nd rfl rfl ⟨rfl, by decide, .inl nr.mgC⟩ (fun a_ oe cls d_ pn hz hf => pss_one (ps_ret (pe_xf nr.ex.ec.xf (nr.ex.no _ (by decide +kernel)) hz hf (pv 1)))) (hnd_un ⟨rfl, by decide, .inl mgJ⟩ (fun a_ oe cls d_ pn hz hf => pss_one (ps_ret pe_str)) (hnd_nil takes0)))), ?_⟩
  · refine ⟨fun pins s' σ H' D I h' => ?_⟩
    obtain ⟨Ech, hW, h1, h2, h3⟩ := h'
    exact (pss_one (ps_ret (act _ pn xe Ech _ _ (takes_len tk) (fun cls d σ' H' e hl => hW cls d σ' H' hl e)))).run pins s' σ H' D I ⟨h1, h2, h3⟩
  · refine ⟨_, fun cls d σ' H' hl e => ?_, rfl, hc, h⟩
    obtain ⟨rfl, dd, z, rfl, ex, q⟩ := e
    match σ', hl with
    | [x, y], _ => exact ⟨true, exm, fun _ a0 ha0 => ⟨_, rfl, rfl, rfl, dd, _, _, rfl, ex, place_look, q⟩, fun qq => Bool.noConfusion qq⟩
structure SaidAt (K : Frag) (mg : Str → Option Value) : Prop where
  ex : ∃ g fd, mg "_law_said" = some (.ref g) ∧ FunD K "_law_said" "_law_said" (defArgs s_said) (defBody s_said) (defScope s_said) [] [] g fd ∧ Binds K fd ["_law_ask"] []
theorem pe_said {X : Cx} {T : List (Addr × Str)} {params : Arguments} {body : Expr} {scope : Scope} {t : XK → TE} {k : Nat} {p lpos pos : Pos} {c P : Addr} (hp : SaidAt X.K X.mg) (nr : ErrAt X.prog X.w X.K X.mg X.base "NoRow" (NR X.K) ["place"] "refused norow") (mgJ : X.mg "JointError" = some (.ref (He.ga X.K "JointError")))
    (exm : exmOne X.K (.ref (NR X.K)) (.ref (NR X.K)) = some true) (hg : Gl X "_law_said") (TB : LamX.TabB X.base X.mg c P) (hcode : X.env.code = .ref c) (hmT : (P, X.env.qual ++ "<lambda>") ∈ T) (hu : ∀ p ∈ T, p.1 = P → p.2 = X.env.qual ++ "<lambda>") (hr : Room (k + 2) X.A) (L : LamX.LamS X.env.scope scope) (hdef : defaultsOf params X.env = ([], []))
    (hbind : ∀ (q : Str) (cl : List (Str × Addr)) (pm cv ctv : Value), bindArgs (PySem.W.kla_fn "<lambda>" q params body scope cl pm cv ctv) ⟨[], []⟩ = pure [])
    (hbody : ∀ (A : Around) (outer : List Env) (s : Shared) (H : Hp) (E : XK) (f c' : Addr), Room k (A.deeper (LamX.lamEnv X scope s.heap.objs.size f c')) → PE (LamX.lamCx X A outer s H E scope f c') body (t E)) :
    PE X (.Call (.Name "_law_said" p) [.Lambda params body scope lpos] [] pos) (LamX.tLam T (TTs X.K) t) := by
  obtain ⟨g, fd, hm, F, hb⟩ := hp
  obtain ⟨oc, od, dV, kV, doc, pm, an, cdv, ct, osl, rfl, lk, hcd, _, _⟩ := F.ex
  exact LamX.pe_lamcall (a := "_law_ask") (Ng := ["_law_ask", "e"]) hg hm F.kp lk hcd hb sc_said rfl (Or.inl rfl) (said_gives nr mgJ exm) TB hcode hmT hu hr L hdef hbind hbody
theorem pe_saidD {X : Cx} {T : List (Addr × Str)} {params : Arguments} {body : Expr} {scope : Scope} {t : XK → TE} {k : Nat} {p lpos pos : Pos} {c P : Addr} {nd : Nat} (hp : SaidAt X.K X.mg)
    (nr : ErrAt X.prog X.w X.K X.mg X.base "NoRow" (NR X.K) ["place"] "refused norow") (mgJ : X.mg "JointError" = some (.ref (He.ga X.K "JointError"))) (exm : exmOne X.K (.ref (NR X.K)) (.ref (NR X.K)) = some true) (hg : Gl X "_law_said")
    (TB : LamX.TabB X.base X.mg c P) (hcode : X.env.code = .ref c) (hmT : (P, X.env.qual ++ "<lambda>") ∈ T) (hu : ∀ p ∈ T, p.1 = P → p.2 = X.env.qual ++ "<lambda>") (hr : Room (k + 2) X.A) (L : LamD X.N X.env.scope scope)
    (d0 : params.defaults.isEmpty = false) (k0 : params.kw_defaults = []) (n0 : 0 < nd)
    (hdv : ∀ (M : Model) (A : Around) (E : Value → Shared → Prop) (Q : List Value → Shared → Prop) (s : Shared), (∀ dv tk, dv.length = nd → Q dv { s with toks := tk }) → wpAny M A (evalAll (evalEach params.defaults X.env)) Q E s)
    (hbind : ∀ (q : Str) (cl : List (Str × Addr)) (t : Addr) (doc pm cv ctv : Value) (dv : List Value), dv.length = nd → ∃ (kk : Option (Array Value) → Sem (List (Str × Value))) (bs : List (Str × Value)),
      bindArgs (kdv_fn "<lambda>" q params (.expr body) scope cl (.ref t) doc pm cv ctv) ⟨[], []⟩ = seqItems? (.ref t) >>= kk ∧ kk (some dv.toArray) = pure bs ∧ ∀ y ∈ bs, scope.names.lookup y.1 = some .local)
    (hbody : ∀ (A : Around) (outer : List Env) (s : Shared) (H : Hp) (E : XK) (f c' : Addr), Room k (A.deeper (LamX.lamEnv X scope s.heap.objs.size f c')) → PE (LamX.lamCx X A outer s H E scope f c') body (t E)) :
    PE X (.Call (.Name "_law_said" p) [.Lambda params body scope lpos] [] pos) (LamX.tLam T (TTs X.K) t) := by
  obtain ⟨g, fd, hm, F, hb⟩ := hp
  obtain ⟨oc, od, dV, kV, doc, pm, an, cdv, ct, osl, rfl, lk, hcd, _, _⟩ := F.ex
  exact pe_lamcallD (a := "_law_ask") (Ng := ["_law_ask", "e"]) hg hm F.kp lk hcd hb sc_said rfl (Or.inl rfl) (said_gives nr mgJ exm) TB hcode hmT hu hr L d0 k0 n0 hdv hbind hbody
/-! ### all but the tables stays -/
theorem FieldAt.extN {K : Frag} {H H' : Hp} {y : Addr} (e : LamX.ExtN H H') : ∀ {d : PD}, FieldAt K H y d → FieldAt K H' y d
  | .word .., ⟨dx, h⟩ => ⟨dx, e _ _ h (fun _ z => by cases z)⟩
  | .number .., ⟨dx, h⟩ => ⟨dx, e _ _ h (fun _ z => by cases z)⟩
  | .fixed _, ⟨dx, h⟩ => ⟨dx, e _ _ h (fun _ z => by cases z)⟩
  | .listed _, ⟨dx, t, h, ⟨o, c, d, g⟩⟩ => ⟨dx, t, e _ _ h (fun _ z => by cases z), o, c, d, e _ _ g (fun _ z => by cases z)⟩
  | .ended .., ⟨dx, h⟩ => ⟨dx, e _ _ h (fun _ z => by cases z)⟩
theorem FdAt.extN {K : Frag} {H H' : Hp} {y : Addr} (e : LamX.ExtN H H') : ∀ {d : FD}, FdAt K H y d → FdAt K H' y d
  | .pl _, ⟨h, i⟩ => ⟨h.extN e, i⟩
  | .mk _ _ _, ⟨⟨dx, z, h, k⟩, i⟩ => ⟨⟨dx, z, e _ _ h (fun _ z => by cases z), k.extN e⟩, i⟩
theorem rd_extN {H H' : Hp} {a : Addr} {o : HO} (e : LamX.ExtN H H') (n : ∀ ps, o ≠ .tbl ps) (h : Rd H a o) : Rd H' a o := by
  rcases h with h | ⟨u, h⟩
  · exact .inl (e _ _ h n)
  · exact .inr ⟨u, e _ _ h (fun _ z => by cases z)⟩
theorem seqT_extN {K : Frag} {H H' : Hp} {t : Addr} {xs : List V} (e : LamX.ExtN H H') (h : SqT K H t xs) : SqT K H' t xs := h.imp (rd_extN e (fun _ z => by cases z)) id
theorem seqL_extN {K : Frag} {H H' : Hp} {t : Addr} {xs : List V} (e : LamX.ExtN H H') (h : SqL K H t xs) : SqL K H' t xs := h.imp (rd_extN e (fun _ z => by cases z)) id
theorem LayAt.extN {K : Frag} {H H' : Hp} {L : Addr} {ds : List FD} {js : List Str} (e : LamX.ExtN H H') (h : LayAt K H L ds js) : LayAt K H' L ds js := by
  obtain ⟨⟨dx, t1, t2, ys, a, b, c, d⟩, o⟩ := h
  refine ⟨⟨dx, t1, t2, ys, e _ _ a (fun _ z => by cases z), seqT_extN e b, ⟨c.1, fun i v d a b => ?_⟩, seqT_extN e d⟩, o⟩
  obtain ⟨y, ev, k⟩ := c.2 i v d a b
  exact ⟨y, ev, k.extN e⟩
theorem StAt.extN {H H' : Hp} {a : Addr} (e : LamX.ExtN H H') (h : StAt H a) : StAt H' a := by
  obtain ⟨p, q, r, x, y⟩ := h
  exact ⟨p, q, r, e _ _ x (fun _ z => by cases z), y⟩
/-- all but the tables and what stands at one place -/
def ButN (a : Addr) (H H' : Hp) : Prop := ∀ b o, b ≠ a → H b = some o → (∀ ps, o ≠ .tbl ps) → H' b = some o
theorem ButN.refl (a : Addr) (H : Hp) : ButN a H H := fun _ _ _ h _ => h
theorem ButN.trans {a : Addr} {H H1 H2 : Hp} (x : ButN a H H1) (y : ButN a H1 H2) : ButN a H H2 := fun b o n h k => y b o n (x b o n h k) k
theorem ButN.of_but {a : Addr} {H H' : Hp} (x : But a H H') : ButN a H H' := fun b o n h _ => x b o n h
theorem ButN.of_ext {a : Addr} {H H' : Hp} (x : LamX.ExtN H H') : ButN a H H' := fun b o _ h k => x b o h k
theorem tabs_but {T : List (Addr × Str)} {H H' : Hp} {a : Addr} {xs : List V} (ha : H a = some (.lst xs)) (B : But a H H') (t : LamX.Tabs T H) : LamX.Tabs T H' := fun p hp => by
  obtain ⟨ps, h1, h2, h3⟩ := t p hp
  refine ⟨ps, B _ _ (ne_of h1 ha (fun z => by cases z)) h1, h2, fun pos cv hc => ?_⟩
  obtain ⟨c, e1, e2⟩ := h3 pos cv hc
  exact ⟨c, e1, B _ _ (ne_of e2 ha (fun z => by unfold LamX.CodeO at z; cases z)) e2⟩
theorem tabs_same {T : List (Addr × Str)} {H H' : Hp} (S : Same H H') (t : LamX.Tabs T H) : LamX.Tabs T H' := t.ext S
theorem nl_ext {H H' : Hp} (e : LamX.ExtN H H') : ∀ b o, (∀ ps, o ≠ .tbl ps) → H b = some o → H' b = some o := fun b o n h => e b o h n
end L2.K80

set_option Elab.async false
set_option linter.all false
set_option maxRecDepth 100000
set_option maxHeartbeats 4000000
/-! The law: a word with one change. -/
namespace L2.K80
open PySem PySem.W PySem.Spec PySem.Calls PyProof.Rows L2.Jk
def PtOk (m : Nat) (p : Str) : Prop := 44 ∉ p.cps.toList ∧ p.length ≤ m ∧ A8 p
structure WdL (L m : Nat) (ps : List Str) : Prop where
  ne : ps ≠ []
  few : ps.length ≤ L
  ok : ∀ p ∈ ps, PtOk m p
def spBent : Sp := fun vs H Q _ => ∃ (a : Addr) (t : Str) (ps : List Str) (L m : Nat), vs = [.ref a, .str t] ∧ StAt H a ∧ t = Txt.join "," ps ∧ WdL L m ps ∧ 1 ≤ L ∧ L ≤ 64 ∧ 30 ≤ m ∧ m ≤ 50 ∧
  ∀ ps' H', WdL (2 * L + 1) (m + 1) ps' → But a H H' → StAt H' a → Q (.str (Txt.join "," ps')) H'
theorem cut_str {ps : List Str} {lo hi : Option Int} : ∃ qs : List Str, cutV (ps.map V.str) lo hi = qs.map V.str ∧ qs.length ≤ ps.length ∧ ∀ p ∈ qs, p ∈ ps := by
  unfold cutV
  rw [← List.map_drop, ← List.map_take]
  exact ⟨_, rfl, by rw [List.length_take, List.length_drop]; omega, fun p h => List.mem_of_mem_drop (List.mem_of_mem_take h)⟩
theorem PtOk.mono {m n : Nat} {p : Str} (h : PtOk m p) (k : m ≤ n) : PtOk n p := ⟨h.1, Nat.le_trans h.2.1 k, h.2.2⟩
theorem PtOk.cat {m n : Nat} {p q : Str} (h : PtOk m p) (k : PtOk n q) : PtOk (m + n) (p ++ q) := by
  refine ⟨fun z => ?_, ?_, fun c hc => ?_⟩
  · rw [cat_list] at z
    exact (List.mem_append.mp z).elim h.1 k.1
  · rw [app_len]
    exact Nat.add_le_add h.2.1 k.2.1
  · rw [cat_list] at hc
    exact (List.mem_append.mp hc).elim (h.2.2 c) (k.2.2 c)
def ODDS : List Str := ["", "0", "00", "07", "=", "a", "A", "a b", "-1", "10", "99999", "12a", "==", "ab", repS "1" 30]
theorem odds_ok : ∀ p ∈ ODDS, PtOk 30 p := by
  have h : ∀ p ∈ ODDS, (p.cps.toList.all fun c => decide (c ≠ 44) && decide (c < 200)) = true ∧ p.length ≤ 30 := by decide +kernel
  intro p hp
  obtain ⟨h1, h2⟩ := h p hp
  refine ⟨fun z => ?_, h2, fun c hc => ?_⟩
  · have := List.all_eq_true.mp h1 _ z
    exact absurd this (by decide)
  · have := List.all_eq_true.mp h1 c hc
    exact of_decide_eq_true (Bool.and_eq_true_iff.mp this).2
def ADDS : List Str := ["0", "a", " ", "="]
theorem adds_ok : ∀ p ∈ ADDS, PtOk 1 p := by
  have h : ∀ p ∈ ADDS, (p.cps.toList.all fun c => decide (c ≠ 44) && decide (c < 200)) = true ∧ p.length ≤ 1 := by decide +kernel
  intro p hp
  obtain ⟨h1, h2⟩ := h p hp
  refine ⟨fun z => ?_, h2, fun c hc => ?_⟩
  · have := List.all_eq_true.mp h1 _ z
    exact absurd this (by decide)
  · have := List.all_eq_true.mp h1 c hc
    exact of_decide_eq_true (Bool.and_eq_true_iff.mp this).2
theorem WdL.psOk {L m : Nat} {ps : List Str} (h : WdL L m ps) (hL : L ≤ 200) (hm : m ≤ 60) : PsOk (Txt.join "," ps) ps ∧ ∀ u ∈ ps, A8 u := by
  refine ⟨⟨?_, fun p hp => Nat.le_trans (h.ok p hp).2.1 hm, Nat.le_trans h.few hL, ?_⟩, fun u hu => (h.ok u hu).2.2⟩
  · have e : ("," : Str) = ⟨#[44]⟩ := by decide +kernel
    rw [e]
    exact split_join h.ne fun p hp => (h.ok p hp).1
  · have k : ∀ us : List Str, (∀ x ∈ us, x.length ≤ 60) → (us.map fun p => p.length + ("," : Str).length).sum ≤ us.length * 61 := fun us => by
      induction us with
      | nil => intro _; exact Nat.le_refl _
      | cons u us ih =>
        intro h
        have a := ih fun t ht => h t (List.mem_cons_of_mem _ ht)
        have b := h u (List.mem_cons_self ..)
        have e1 : ("," : Str).length = 1 := rfl
        rw [List.map_cons, List.sum_cons, List.length_cons, Nat.succ_mul]
        omega
    have z := join_len "," ps h.ne
    have k := k ps fun p hp => Nat.le_trans (h.ok p hp).2.1 hm
    have f := h.few
    omega
/-- a list of parts -/
def LgAt (a : Addr) (L m : Nat) (J : Hp) (v : V) : Prop := ∃ (r : Addr) (qs : List Str), v = .ref r ∧ r ≠ a ∧ J r = some (.lst (qs.map V.str)) ∧ qs.length ≤ L ∧ ∀ p ∈ qs, PtOk m p
theorem LgAt.but {a : Addr} {L m : Nat} {J J' : Hp} {v : V} (B : But a J J') : LgAt a L m J v → LgAt a L m J' v
  | ⟨r, qs, e, n, h, k⟩ => ⟨r, qs, e, n, B _ _ n h, k⟩
theorem none_ofB {a p : Addr} {H J : Hp} (B : But a H J) (n : p ≠ a) (h : J p = none) : H p = none := by
  cases e : H p with
  | none => rfl
  | some o => rw [B _ _ n e] at h; cases h
theorem LgAt.putS {a pS : Addr} {L m : Nat} {J : Hp} {v : V} {o : HO} {rs : List V} (e : J pS = some (.lst rs)) (h0 : rs ≠ []) (hr : ∀ x ∈ rs, LgAt a L m J x) : LgAt a L m J v → LgAt a L m (upd J pS o) v
  | ⟨r, qs, ev, n, h, k⟩ => by
    refine ⟨r, qs, ev, n, ?_, k⟩
    rw [upd_ne ?_]
    · exact h
    · intro z
      rw [z, e] at h
      have h := Option.some.inj h
      injection h with h
      cases rs with
      | nil => exact h0 rfl
      | cons x xs =>
        obtain ⟨b, _, rfl, _⟩ := hr x (List.mem_cons_self ..)
        cases qs with
        | nil => cases h
        | cons y ys => rw [List.map_cons] at h; injection h with h; cases h
section
variable {P : Program} {w : World} {K : Frag} {mg : Str → Option Value} {base : Heap} {f : Addr} {fd : FuncData}

abbrev s_law_bent : Stmt := top 59
theorem sc_law_bent : FnScope ["_law_source_here", "_law_word", "_law_parts", "_law_at", "_law_odd", "_law_some_here"] ["_law_source_here", "_law_word"] (defScope s_law_bent) := ⟨rfl, rfl, rfl, by decide +kernel, rfl, by decide +kernel, by decide +kernel⟩

theorem ok_law_bent (F : FunD K "_law_bent" "_law_bent" (defArgs s_law_bent) (defBody s_law_bent) (defScope s_law_bent) [] [] f fd) (G : GU P w K mg base) : FnOk P w K mg base CX0 3 f fd ["_law_source_here", "_law_word"] spBent := by
  refine F.ok (CX := CX0) sc_law_bent (fun vs H Q E h => ?_) (fun cdv A outer s H vs Q E hr h => ?_)
  · obtain ⟨_, _, _, _, _, rfl, _⟩ := h
    rfl
  · refine ⟨_, PSs.nox (pss_cons (ps_set (i := 2) sc_law_bent.nd rfl (Or.inl rfl) (pe_split (pv 1) pe_str))
    (C8.pss_cut (ps_set (i := 3) sc_law_bent.nd rfl (Or.inl rfl) (pe_fn G.law_draw (hr.mono (by decide)) pass0 (by rfl) (pa_cons (pv 0) (pa_cons (pe_callB call_len_seq (by rfl) G.len (by decide +kernel) (pa_cons (pv 2) pa_nil)) pa_nil))))
    (C8.pss_cut (ps_set (i := 4) sc_law_bent.nd rfl (Or.inl rfl) (pe_lstS (pa_cons pe_str (pa_cons pe_str (pa_cons pe_str (pa_cons pe_str (pa_cons pe_str (pa_cons pe_str (pa_cons pe_str (pa_cons pe_str (pa_cons pe_str (pa_cons pe_str (pa_cons pe_str (pa_cons pe_str (pa_cons pe_str (pa_cons pe_str (pa_cons (pe_op op_mulStr pe_str pe_int) pa_nil)))))))))))))))))
    (C8.pss_cut (ps_set (i := 5) sc_law_bent.nd rfl (Or.inl rfl) (pe_lstS (pa_cons (pe_op op_catS (pe_op op_catS (pe_slice sl_listS (pv 2) po_none (po_some (pv 3))) (pe_lstS (pa_cons (pe_fn G.law_pick (hr.mono (by decide)) pass0 (by rfl) (pa_cons (pv 0) (pa_cons (pv 4) pa_nil))) pa_nil))) (pe_slice sl_listS (pv 2) (po_some (pe_op op_add (pv 3) pe_int)) po_none)) (pa_cons (pe_op op_catS (pe_slice sl_listS (pv 2) po_none (po_some (pv 3))) (pe_slice sl_listS (pv 2) (po_some (pe_op op_add (pv 3) pe_int)) po_none)) (pa_cons (pe_op op_catS (pv 2) (pe_slice sl_listS (pv 2) (po_some (pv 3)) po_none)) pa_nil)))))
    (C8.pss_cut (ps_expr (pe_bm PySem.F.plainAttrs_list PySem.F.slot_list_append PySem.F.type_list_append mt_append (pv 5) (pa_cons (pe_op op_catS (pe_op op_catS (pe_slice sl_listS (pv 2) po_none (po_some (pv 3))) (pe_lstS (pa_cons (pe_op op_add_str (pe_ix ix_list (pv 2) (pv 3) (fun _ _ => rfl)) (pe_fn G.law_pick (hr.mono (by decide)) pass0 (by rfl) (pa_cons (pv 0) (pa_cons (pe_lstS (pa_cons pe_str (pa_cons pe_str (pa_cons pe_str (pa_cons pe_str pa_nil))))) pa_nil)))) pa_nil))) (pe_slice sl_listS (pv 2) (po_some (pe_op op_add (pv 3) pe_int)) po_none)) pa_nil)))
    (C8.pss_cut (ps_expr (pe_bm PySem.F.plainAttrs_list PySem.F.slot_list_append PySem.F.type_list_append mt_append (pv 5) (pa_cons (pe_op op_catS (pe_op op_catS (pe_slice sl_listS (pv 2) po_none (po_some (pv 3))) (pe_lstS (pa_cons (pe_op op_add_str pe_str (pe_ix ix_list (pv 2) (pv 3) (fun _ _ => rfl))) pa_nil))) (pe_slice sl_listS (pv 2) (po_some (pe_op op_add (pv 3) pe_int)) po_none)) pa_nil)))
    (pss_one (ps_ret (pe_join pe_str (pe_fn G.law_pick (hr.mono (by decide)) pass0 (by rfl) (pa_cons (pv 0) (pa_cons (pe_op op_catS (pv 5) (pe_lstS (pa_cons (pe_ix ix_list (pv 5) pe_int (fun _ _ => rfl)) (pa_cons (pe_revL (pv 2)) pa_nil)))) pa_nil)))))))))))), ?_⟩
    obtain ⟨a, t, ps, L, m, rfl, st, rfl, hw, hL1, hL, hm1, hm, q⟩ := h
    obtain ⟨ok, ha⟩ := hw.psOk (by omega) (by omega)
    have hpl : 0 < ps.length := List.length_pos_iff.mpr hw.ne
    have hfw := hw.few
    refine ⟨_, rfl, ⟨_, rfl⟩, _, ",", rfl, rfl, rfl, by have := ok.tl; rw [sizeLine_eq]; omega, fun pl hpln => ?_⟩
    rw [ok.is]
    have npl : pl ≠ a := st.ne hpln
    have S1 : Same H (upd H pl (.lst (ps.map V.str))) := same_upd hpln
    have e1 : upd H pl (.lst (ps.map V.str)) pl = some (.lst (ps.map V.str)) := upd_same
    generalize upd H pl (.lst (ps.map V.str)) = H1 at S1 e1 ⊢
    have st1 := st.same S1
    have B01 := But.of_same (a := a) S1
    refine ⟨fun σ J => ∃ k : Nat, k < ps.length ∧ σ = [some (.ref a), some (.str (Txt.join "," ps)), some (.ref pl), some (.int (k : Nat)), none, none] ∧ But a H1 J ∧ StAt J a, ⟨_, rfl, _, rfl, pl, _, rfl, .inl (SqL.of e1), a, _, rfl, st1, by rw [List.length_map]; omega, by rw [List.length_map]; omega, fun k H2 k0 k1 B2 st2 => ⟨k.toNat, by rw [List.length_map] at k1; omega, by rw [Int.toNat_of_nonneg k0]; rfl, B2, st2⟩⟩, ?_⟩
    rintro σ J ⟨k, hk, rfl, B1, st1⟩
    refine ⟨fun σ J' => ∃ po, po ≠ a ∧ σ = [some (.ref a), some (.str (Txt.join "," ps)), some (.ref pl), some (.int (k : Nat)), some (.ref po), none] ∧ J' po = some (.lst (ODDS.map V.str)) ∧ But a H1 J' ∧ StAt J' a, ?_, ?_⟩
    · refine ⟨_, _, rfl, rfl, by decide +kernel, by show 15 ≤ 1000; decide, fun po J hp S e => ⟨po, st1.ne hp, rfl, e, B1.trans (But.of_same S), st1.same S⟩⟩
    rintro σ J2 ⟨po, npo, rfl, ePo, B2, st2⟩
    have hods : ODDS.length = 15 := rfl
    have cut : ∀ (qs : List Str), qs.length ≤ ps.length → (∀ p ∈ qs, p ∈ ps) → qs.length ≤ L ∧ ∀ p ∈ qs, PtOk (m + 1) p := fun qs h1 h2 => ⟨by omega, fun p hp => (hw.ok p (h2 p hp)).mono (by omega)⟩
    have szs : ∀ n : Nat, n ≤ 1000 → n ≤ sizeLine := fun n h => by rw [sizeLine_eq]; omega
    refine ⟨fun σ J' => ∃ pS rs, H1 pS = none ∧ pS ≠ a ∧ σ = [some (.ref a), some (.str (Txt.join "," ps)), some (.ref pl), some (.int (k : Nat)), some (.ref po), some (.ref pS)] ∧ J' pS = some (.lst rs) ∧ rs.length = 3 ∧ (∀ v ∈ rs, LgAt a (2 * L + 1) (m + 1) J' v) ∧ But a H1 J' ∧ StAt J' a, ?_, ?_⟩
    · have eL2 := B2 _ _ npl e1
      refine ⟨_, rfl, _, rfl, k, rfl, pl, _, rfl, SqL.of eL2, fun p1 J3 hp1 S3 e3 => ?_⟩
      obtain ⟨q1, c1, l1, m1⟩ := cut_str (ps := ps) (lo := none) (hi := some (k : Int))
      rw [c1] at e3
      have np1 := st2.ne hp1
      have st3 := st2.same S3
      refine ⟨_, rfl, _, rfl, a, po, _, rfl, st3, npo, S3 _ _ ePo, by decide +kernel, by decide +kernel, fun v J4 hv B4 st4 => ?_⟩
      obtain ⟨o, ho, rfl⟩ := List.mem_map.mp hv
      have oOk := (odds_ok o ho).mono (show 30 ≤ m + 1 by omega)
      refine ⟨by show 1 ≤ 1000; decide, fun p5 J5 hp5 S5 e5 => ⟨p1, p5, _, _, rfl, rfl, SqL.of (S5 _ _ (B4 _ _ np1 e3)), SqL.of e5, szs _ (by rw [List.length_map]; show q1.length + 1 ≤ 1000; omega), fun p6 J6 hp6 S6 e6 => ?_⟩⟩
      have st5 := st4.same S5
      have st6 := st5.same S6
      have np6 := st5.ne hp6
      have B26 : But a J2 J6 := (((But.of_same S3).trans B4).trans (But.of_same S5)).trans (But.of_same S6)
      refine ⟨_, rfl, _, rfl, _, _, rfl, rfl, _, rfl, pl, _, rfl, SqL.of (B26 _ _ npl eL2), fun p7 J7 hp7 S7 e7 => ?_⟩
      obtain ⟨q2, c2, l2, m2⟩ := cut_str (ps := ps) (lo := some ((k : Int) + 1)) (hi := none)
      have e7 : J7 p7 = some (.lst (q2.map V.str)) := by rw [← c2]; exact e7
      refine ⟨p6, p7, _, _, rfl, rfl, SqL.of (S7 _ _ e6), SqL.of e7, szs _ (by rw [List.length_append, List.length_map, List.length_map]; show q1.length + 1 + q2.length ≤ 1000; omega), fun p8 J8 hp8 S8 e8 => ?_⟩
      have st7 := st6.same S7
      have np8 := st7.ne hp8
      have st8 := st7.same S8
      have B28 : But a J2 J8 := (B26.trans (But.of_same S7)).trans (But.of_same S8)
      have g1 : LgAt a (2 * L + 1) (m + 1) J8 (.ref p8) := ⟨p8, q1 ++ [o] ++ q2, rfl, np8, by rw [e8, List.map_append, List.map_append]; rfl, by rw [List.length_append, List.length_append]; show q1.length + 1 + q2.length ≤ _; omega, fun p hp => by
        rcases List.mem_append.mp hp with hp | hp
        · rcases List.mem_append.mp hp with hp | hp
          · exact (cut q1 l1 m1).2 p hp
          · rw [List.mem_singleton.mp hp]; exact oOk
        · exact (cut q2 l2 m2).2 p hp⟩
      refine ⟨_, rfl, _, rfl, k, rfl, pl, _, rfl, SqL.of (B28 _ _ npl eL2), fun p9 J9 hp9 S9 e9 => ?_⟩
      have st9 := st8.same S9
      have B29 := B28.trans (But.of_same S9)
      rw [c1] at e9
      refine ⟨_, rfl, _, rfl, _, _, rfl, rfl, _, rfl, pl, _, rfl, SqL.of (B29 _ _ npl eL2), fun pa Ja hpa Sa ea => ?_⟩
      have ea : Ja pa = some (.lst (q2.map V.str)) := by rw [← c2]; exact ea
      have sta := st9.same Sa
      refine ⟨p9, pa, _, _, rfl, rfl, SqL.of (Sa _ _ e9), SqL.of ea, szs _ (by rw [List.length_map, List.length_map]; omega), fun pb Jb hpb Sb eb => ?_⟩
      have npb := sta.ne hpb
      have stb := sta.same Sb
      have B2b := (B29.trans (But.of_same Sa)).trans (But.of_same Sb)
      have B8b : But a J8 Jb := ((But.of_same S9).trans (But.of_same Sa)).trans (But.of_same Sb)
      have g2 : LgAt a (2 * L + 1) (m + 1) Jb (.ref pb) := ⟨pb, q1 ++ q2, rfl, npb, by rw [eb, List.map_append], by rw [List.length_append]; omega, fun p hp => by
        rcases List.mem_append.mp hp with hp | hp
        · exact (cut q1 l1 m1).2 p hp
        · exact (cut q2 l2 m2).2 p hp⟩
      refine ⟨_, rfl, _, rfl, _, rfl, k, rfl, pl, _, rfl, SqL.of (B2b _ _ npl eL2), fun pc Jc hpc Sc ec => ?_⟩
      obtain ⟨q3, c3, l3, m3⟩ := cut_str (ps := ps) (lo := some (k : Int)) (hi := none)
      rw [c3] at ec
      have stc := stb.same Sc
      have B2c := B2b.trans (But.of_same Sc)
      refine ⟨pl, pc, _, _, rfl, rfl, SqL.of (B2c _ _ npl eL2), SqL.of ec, szs _ (by rw [List.length_map, List.length_map]; omega), fun pd Jd hpd Sd ed => ?_⟩
      have npd := stc.ne hpd
      have std := stc.same Sd
      have B2d := B2c.trans (But.of_same Sd)
      have Bbd : But a Jb Jd := (But.of_same Sc).trans (But.of_same Sd)
      have g3 : LgAt a (2 * L + 1) (m + 1) Jd (.ref pd) := ⟨pd, ps ++ q3, rfl, npd, by rw [ed, List.map_append], by rw [List.length_append]; omega, fun p hp => by
        rcases List.mem_append.mp hp with hp | hp
        · exact (cut ps (Nat.le_refl _) fun _ h => h).2 p hp
        · exact (cut q3 l3 m3).2 p hp⟩
      refine ⟨by show 3 ≤ 1000; decide, fun pe Je hpe Se ee => ⟨pe, _, none_ofB (B2.trans B2d) (std.ne hpe) hpe, std.ne hpe, rfl, ee, rfl, fun v hv => ?_, (B2.trans B2d).trans (But.of_same Se), std.same Se⟩⟩
      have Bde := But.of_same (a := a) Se
      simp only [List.mem_cons, List.not_mem_nil, or_false] at hv
      rcases hv with rfl | rfl | rfl
      · exact ((g1.but B8b).but Bbd).but Bde
      · exact (g2.but Bbd).but Bde
      · exact g3.but Bde
    rintro σ J3 ⟨pS, rs, nS0, npS, rfl, eS, hr3, hg, B3, st3⟩
    refine ⟨fun σ J' => ∃ rs, σ = [some (.ref a), some (.str (Txt.join "," ps)), some (.ref pl), some (.int (k : Nat)), some (.ref po), some (.ref pS)] ∧ J' pS = some (.lst rs) ∧ rs.length = 4 ∧ (∀ v ∈ rs, LgAt a (2 * L + 1) (m + 1) J' v) ∧ But a H1 J' ∧ StAt J' a, ?_, ?_⟩
    · have eL3 := B3 _ _ npl e1
      have hpk : (ps.map V.str)[k]? = some (.str ps[k]) := by rw [List.getElem?_map, List.getElem?_eq_getElem hk]; rfl
      refine ⟨_, rfl, .inl ⟨rfl, _, SqL.of eS⟩, ?_⟩
      refine ⟨_, rfl, _, rfl, k, rfl, pl, _, rfl, SqL.of eL3, fun p1 J4 hp1 S4 e4 => ?_⟩
      obtain ⟨q1, c1, l1, m1⟩ := cut_str (ps := ps) (lo := none) (hi := some (k : Int))
      rw [c1] at e4
      have np1 := st3.ne hp1
      have st4 := st3.same S4
      have pOk := hw.ok ps[k] (List.getElem_mem hk)
      refine ⟨_, rfl, _, rfl, pl, _, _, _, rfl, rfl, SqL.of (S4 _ _ eL3), atI_nat (j := k) hpk, _, rfl, by show 4 ≤ 1000; decide, fun pa Ja hpa Sa ea => ?_⟩
      have sta := st4.same Sa
      refine ⟨a, pa, _, rfl, sta, st4.ne hpa, ea, by simp, by show 4 ≤ 1000; decide, fun v Jb hv Bb stb => ?_⟩
      obtain ⟨x, hx, rfl⟩ : ∃ x ∈ ADDS, v = .str x := by
        simp only [List.mem_cons, List.not_mem_nil, or_false] at hv
        rcases hv with rfl | rfl | rfl | rfl
        · exact ⟨_, by decide, rfl⟩
        · exact ⟨_, by decide, rfl⟩
        · exact ⟨_, by decide, rfl⟩
        · exact ⟨_, by decide, rfl⟩
      have xOk := adds_ok x hx
      have xl := xOk.2.1
      have pkl := pOk.2.1
      have oOk := pOk.cat xOk
      generalize ho : ps[k] ++ x = o at oOk
      refine ⟨_, _, rfl, rfl, szs _ (by omega), by show 1 ≤ 1000; decide, fun p5 J5 hp5 S5 e5 => ?_⟩
      have e5 : J5 p5 = some (.lst [.str o]) := by rw [← ho]; exact e5
      refine ⟨p1, p5, _, _, rfl, rfl, SqL.of (S5 _ _ (Bb _ _ np1 (Sa _ _ e4))), SqL.of e5, szs _ (by rw [List.length_map]; show q1.length + 1 ≤ 1000; omega), fun p6 J6 hp6 S6 e6 => ?_⟩
      have st5 := stb.same S5
      have st6 := st5.same S6
      have B36 : But a J3 J6 := ((((But.of_same S4).trans (But.of_same Sa)).trans Bb).trans (But.of_same S5)).trans (But.of_same S6)
      refine ⟨_, rfl, _, rfl, _, _, rfl, rfl, _, rfl, pl, _, rfl, SqL.of (B36 _ _ npl eL3), fun p7 J7 hp7 S7 e7 => ?_⟩
      obtain ⟨q2, c2, l2, m2⟩ := cut_str (ps := ps) (lo := some ((k : Int) + 1)) (hi := none)
      have e7 : J7 p7 = some (.lst (q2.map V.str)) := by rw [← c2]; exact e7
      refine ⟨p6, p7, _, _, rfl, rfl, SqL.of (S7 _ _ e6), SqL.of e7, szs _ (by rw [List.length_append, List.length_map, List.length_map]; show q1.length + 1 + q2.length ≤ 1000; omega), fun p8 J8 hp8 S8 e8 => ?_⟩
      have st7 := st6.same S7
      have np8 := st7.ne hp8
      have st8 := st7.same S8
      have B38 : But a J3 J8 := (B36.trans (But.of_same S7)).trans (But.of_same S8)
      have g1 : LgAt a (2 * L + 1) (m + 1) J8 (.ref p8) := ⟨p8, q1 ++ [o] ++ q2, rfl, np8, by rw [e8, List.map_append, List.map_append]; rfl, by rw [List.length_append, List.length_append]; show q1.length + 1 + q2.length ≤ _; omega, fun p hp => by
        rcases List.mem_append.mp hp with hp | hp
        · rcases List.mem_append.mp hp with hp | hp
          · exact (cut q1 l1 m1).2 p hp
          · rw [List.mem_singleton.mp hp]; exact oOk
        · exact (cut q2 l2 m2).2 p hp⟩
      have hg8 := fun v hv => (hg v hv).but B38
      have eS8 := B38 _ _ npS eS
      have hrn : rs ≠ [] := fun z => by rw [z] at hr3; cases hr3
      refine ⟨pS, _, _, rfl, rfl, eS8, by rw [sizeLine_eq]; omega, rs ++ [.ref p8], rfl, upd_same, by rw [List.length_append, hr3]; rfl, fun v hv => ?_, but_put (B3.trans B38) nS0, st8.put npS⟩
      rcases List.mem_append.mp hv with hv | hv
      · exact (hg8 v hv).putS eS8 hrn hg8
      · rw [List.mem_singleton.mp hv]; exact g1.putS eS8 hrn hg8
    clear hg eS hr3 B3 st3
    clear J3 rs
    rintro σ J3 ⟨rs, rfl, eS, hr3, hg, B3, st3⟩
    refine ⟨fun σ J' => ∃ rs, σ = [some (.ref a), some (.str (Txt.join "," ps)), some (.ref pl), some (.int (k : Nat)), some (.ref po), some (.ref pS)] ∧ J' pS = some (.lst rs) ∧ rs.length = 5 ∧ (∀ v ∈ rs, LgAt a (2 * L + 1) (m + 1) J' v) ∧ But a H1 J' ∧ StAt J' a, ?_, ?_⟩
    · have eL3 := B3 _ _ npl e1
      have hpk : (ps.map V.str)[k]? = some (.str ps[k]) := by rw [List.getElem?_map, List.getElem?_eq_getElem hk]; rfl
      refine ⟨_, rfl, .inl ⟨rfl, _, SqL.of eS⟩, ?_⟩
      refine ⟨_, rfl, _, rfl, k, rfl, pl, _, rfl, SqL.of eL3, fun p1 J4 hp1 S4 e4 => ?_⟩
      obtain ⟨q1, c1, l1, m1⟩ := cut_str (ps := ps) (lo := none) (hi := some (k : Int))
      rw [c1] at e4
      have np1 := st3.ne hp1
      have st4 := st3.same S4
      have pOk := hw.ok ps[k] (List.getElem_mem hk)
      refine ⟨_, rfl, _, rfl, pl, _, _, _, rfl, rfl, SqL.of (S4 _ _ eL3), atI_nat (j := k) hpk, ?_⟩
      have zOk := adds_ok "0" (by decide)
      have zl := zOk.2.1
      have pkl := pOk.2.1
      have oOk := (zOk.cat pOk).mono (show 1 + m ≤ m + 1 by omega)
      generalize ho : ("0" : Str) ++ ps[k] = o at oOk
      refine ⟨_, _, rfl, rfl, szs _ (by omega), by show 1 ≤ 1000; decide, fun p5 J5 hp5 S5 e5 => ?_⟩
      have e5 : J5 p5 = some (.lst [.str o]) := by rw [← ho]; exact e5
      refine ⟨p1, p5, _, _, rfl, rfl, SqL.of (S5 _ _ e4), SqL.of e5, szs _ (by rw [List.length_map]; show q1.length + 1 ≤ 1000; omega), fun p6 J6 hp6 S6 e6 => ?_⟩
      have st5 := st4.same S5
      have st6 := st5.same S6
      have B36 : But a J3 J6 := ((But.of_same S4).trans (But.of_same S5)).trans (But.of_same S6)
      refine ⟨_, rfl, _, rfl, _, _, rfl, rfl, _, rfl, pl, _, rfl, SqL.of (B36 _ _ npl eL3), fun p7 J7 hp7 S7 e7 => ?_⟩
      obtain ⟨q2, c2, l2, m2⟩ := cut_str (ps := ps) (lo := some ((k : Int) + 1)) (hi := none)
      have e7 : J7 p7 = some (.lst (q2.map V.str)) := by rw [← c2]; exact e7
      refine ⟨p6, p7, _, _, rfl, rfl, SqL.of (S7 _ _ e6), SqL.of e7, szs _ (by rw [List.length_append, List.length_map, List.length_map]; show q1.length + 1 + q2.length ≤ 1000; omega), fun p8 J8 hp8 S8 e8 => ?_⟩
      have st7 := st6.same S7
      have np8 := st7.ne hp8
      have st8 := st7.same S8
      have B38 : But a J3 J8 := (B36.trans (But.of_same S7)).trans (But.of_same S8)
      have g1 : LgAt a (2 * L + 1) (m + 1) J8 (.ref p8) := ⟨p8, q1 ++ [o] ++ q2, rfl, np8, by rw [e8, List.map_append, List.map_append]; rfl, by rw [List.length_append, List.length_append]; show q1.length + 1 + q2.length ≤ _; omega, fun p hp => by
        rcases List.mem_append.mp hp with hp | hp
        · rcases List.mem_append.mp hp with hp | hp
          · exact (cut q1 l1 m1).2 p hp
          · rw [List.mem_singleton.mp hp]; exact oOk
        · exact (cut q2 l2 m2).2 p hp⟩
      have hg8 := fun v hv => (hg v hv).but B38
      have eS8 := B38 _ _ npS eS
      have hrn : rs ≠ [] := fun z => by rw [z] at hr3; cases hr3
      refine ⟨pS, _, _, rfl, rfl, eS8, by rw [sizeLine_eq]; omega, rs ++ [.ref p8], rfl, upd_same, by rw [List.length_append, hr3]; rfl, fun v hv => ?_, but_put (B3.trans B38) nS0, st8.put npS⟩
      rcases List.mem_append.mp hv with hv | hv
      · exact (hg8 v hv).putS eS8 hrn hg8
      · rw [List.mem_singleton.mp hv]; exact g1.putS eS8 hrn hg8
    clear hg eS hr3 B3 st3
    clear J3 rs
    rintro σ J3 ⟨rs, rfl, eS, hr3, hg, B3, st3⟩
    have eL3 := B3 _ _ npl e1
    obtain ⟨v0, hv0⟩ : ∃ v, rs[0]? = some v := ⟨_, List.getElem?_eq_getElem (by omega)⟩
    refine ⟨⟨_, rfl⟩, _, rfl, _, rfl, _, rfl, pS, _, _, _, rfl, rfl, SqL.of eS, atI_nat (j := 0) hv0, _, rfl, pl, _, rfl, SqL.of eL3, fun p4 hp4 => ?_⟩
    have S4 : Same J3 (upd J3 p4 (.lst (ps.map V.str).reverse)) := same_upd hp4
    have e4 : upd J3 p4 (.lst (ps.map V.str).reverse) p4 = some (.lst (ps.map V.str).reverse) := upd_same
    have np4 := st3.ne hp4
    generalize upd J3 p4 (.lst (ps.map V.str).reverse) = J4 at S4 e4 ⊢
    have st4 := st3.same S4
    refine ⟨by show 2 ≤ 1000; decide, fun p5 J5 hp5 S5 e5 => ⟨pS, p5, _, _, rfl, rfl, SqL.of (S5 _ _ (S4 _ _ eS)), SqL.of e5, szs _ (by rw [hr3]; show 5 + 2 ≤ 1000; decide), fun p6 J6 hp6 S6 e6 => ?_⟩⟩
    have st5 := st4.same S5
    have st6 := st5.same S6
    have S36 := (S4.trans S5).trans S6
    refine ⟨a, p6, _, rfl, st6, st5.ne hp6, e6, by simp, by rw [List.length_append, hr3]; show 5 + 2 ≤ 1000; decide, fun v J7 hv B7 st7 => ?_⟩
    have gv : LgAt a (2 * L + 1) (m + 1) J6 v := by
      rcases List.mem_append.mp hv with hv | hv
      · exact (hg v hv).but (But.of_same S36)
      · simp only [List.mem_cons, List.not_mem_nil, or_false] at hv
        rcases hv with rfl | rfl
        · exact (hg _ (List.mem_of_getElem? hv0)).but (But.of_same S36)
        · exact ⟨p4, ps.reverse, rfl, np4, by rw [List.map_reverse]; exact S6 _ _ (S5 _ _ e4), by rw [List.length_reverse]; omega, fun p hp => (cut ps (Nat.le_refl _) fun _ h => h).2 p (List.mem_reverse.mp hp)⟩
    obtain ⟨r, qs, rfl, nr, er, hql, hqo⟩ := gv.but B7
    have B07 : But a H J7 := (B01.trans B3).trans ((But.of_same S36).trans B7)
    have sum : (qs.map (·.length)).sum + qs.length * ("," : Str).length ≤ 16777216 := by
      have k : ∀ us : List Str, (∀ x ∈ us, PtOk (m + 1) x) → (us.map (·.length)).sum ≤ us.length * 51 := fun us => by
        induction us with
        | nil => intro _; exact Nat.le_refl _
        | cons u us ih =>
          intro h
          have a := ih fun t ht => h t (List.mem_cons_of_mem _ ht)
          have b := (h u (List.mem_cons_self ..)).2.1
          rw [List.map_cons, List.sum_cons, List.length_cons, Nat.succ_mul]
          omega
      have a := k qs hqo
      have e1 : ("," : Str).length = 1 := rfl
      rw [e1]
      omega
    refine ⟨",", r, qs, rfl, rfl, .inl (SqL.of er), sum, ?_⟩
    cases qs with
    | nil =>
      have e : Txt.join "," [] = Txt.join "," [("" : Str)] := by rw [Jk.join_nil, Jk.join_one]
      rw [e]
      exact q [""] J7 ⟨by simp, by show 1 ≤ _; omega, fun p hp => by
        rw [List.mem_singleton.mp hp]
        exact (odds_ok "" (by decide)).mono (by omega)⟩ B07 st7
    | cons x xs => exact q _ J7 ⟨by simp, hql, hqo⟩ B07 st7

end
end L2.K80

set_option Elab.async false
set_option linter.all false
set_option maxRecDepth 100000
set_option maxHeartbeats 4000000
/-! Drawn rows: they are rows, and their words tell them. -/
namespace L2.K80
open PySem PySem.W PySem.Spec PySem.Calls PyProof.Rows L2.Jk
structure RwV (ds : List FD) (xs : List V) : Prop where
  len : xs.length = ds.length
  ok : ∀ (i : Nat) (d : FD) (x : V), ds[i]? = some d → xs[i]? = some x → VvF d x
theorem z_ok : (∀ z ∈ farW ++ endZ, ∀ c ∈ z.cps.toList, 48 ≤ c ∧ c < 130 ∧ c ≠ 61) ∧ (∀ t ∈ farL, (∀ c ∈ t.cps.toList, 48 ≤ c ∧ c < 130 ∧ c ≠ 61) ∧ t.length ≤ 30) ∧ PtOk 30 "=" := by
  refine ⟨by decide +kernel, by decide +kernel, odds_ok _ (by decide)⟩
theorem pt_of {t : Str} (h : ∀ c ∈ t.cps.toList, 48 ≤ c ∧ c < 130 ∧ c ≠ 61) (hl : t.length ≤ 30) : PtOk 30 t ∧ decide (V.str t = V.str "=") = false := by
  refine ⟨⟨fun z => ?_, hl, fun c hc => ?_⟩, decide_eq_false fun e => ?_⟩
  · have := (h _ z).1
    omega
  · have := (h c hc).2.1
    omega
  · injection e with e
    rw [e] at h
    exact (h 61 (by decide +kernel)).2.2 rfl
theorem pt_T {n : Nat} (h : n < 1000010000) : PtOk 30 (T n) ∧ decide (V.str (T n) = V.str "=") = false := by
  refine pt_of (fun c hc => ?_) ?_
  · have := T_dg n c hc
    obtain ⟨a, b⟩ := this
    omega
  · exact Nat.le_trans (T_len (k := 11) (by decide) (by omega)) (by decide)
theorem within_of {l : Nat} {m : V} {n : Nat} (h : InM l m n) : withinB (.int (l : Nat)) m (n : Nat) = true := by
  obtain ⟨h1, h2⟩ := h
  refine Bool.and_eq_true_iff.mpr ⟨decide_eq_true (by show (l : Int) ≤ (n : Int); omega), ?_⟩
  rcases h2 with rfl | ⟨j, rfl, h2⟩
  · rfl
  · rw [decide_eq_false (fun z => by cases z), Bool.false_or]
    exact decide_eq_true (by show (n : Int) ≤ (j : Int); omega)
/-- a drawn value: the field has it, its word is told apart and tells it -/
structure Good (d : PD) (x : V) : Prop where
  has : d.hasV x = true
  isW : d.isW (vw x) = true
  val : d.valW (vw x) = x
  pt : PtOk 30 (vw x) ∧ decide (V.str (vw x) = V.str "=") = false
  vwo : VwOk x
  flat : flatV x = true ∧ lenV x ≤ 900
  lay : (dV x).canLay0 = true ∧ (dV x).depth = 0
theorem good_str {d : PD} {t : Str} (h1 : d.hasV (.str t) = true) (h2 : d.isW t = d.hasV (.str t)) (h3 : d.valW t = .str t) (h4 : ∀ c ∈ t.cps.toList, 48 ≤ c ∧ c < 130 ∧ c ≠ 61) (h5 : t.length ≤ 30) : Good d (.str t) :=
  ⟨h1, by show d.isW t = true; rw [h2]; exact h1, h3, pt_of h4 h5, .inr (.inr ⟨t, rfl, by omega⟩), ⟨rfl, by show t.length ≤ 900; omega⟩, strOk_of (pt_of h4 h5).1.2.2, rfl⟩
theorem good_int {d : PD} {n : Nat} (h1 : d.hasV (.int (n : Nat)) = true) (h2 : d.isW (T n) = true) (h3 : d.valW (T n) = .int (n : Nat)) (h4 : n < 1000010000) : Good d (.int (n : Nat)) :=
  ⟨h1, h2, h3, pt_T h4, .inr (.inl ⟨n, rfl, by omega⟩), ⟨rfl, by show 0 ≤ 900; decide⟩, rfl, rfl⟩
theorem vv_good {d : PD} {x : V} (hD : DrP farW farL d) (h : VvP d x) : Good d x := by
  obtain ⟨z1, z2, _⟩ := z_ok
  cases h with
  | @word z l m t h1 h2 h3 =>
    cases hD with
    | word a b c =>
      exact good_str (by show (madeB t z && _) = true; rw [made_of h1, within_of h2]; rfl) rfl rfl (fun c hc => z1 _ (List.mem_append_left _ a) c (h1 c hc)) (by omega)
  | @ended z e l m t h1 h2 h3 =>
    cases hD with
    | ended a b c =>
      exact good_str (by show (madeB t z && _) = true; rw [made_of h1, within_of h2]; rfl) rfl rfl (fun c hc => z1 _ (List.mem_append_right _ a) c (h1 c hc)) (by omega)
  | @number l m n h1 h2 =>
    have hl := (pt_T h2).1.2.1
    have en : numOf (T n) = (n : Int) := numOf_T (by omega)
    have e : (PD.number (.int (l : Nat)) m).hasV (.int (n : Nat)) = true := by show (numB (.int (n : Nat)) && withinB (.int (l : Nat)) m (n : Nat)) = true; rw [within_of h1]; rfl
    exact good_int e (by show (numeralB (T n) && PD.hasV (.int (numOf (T n))) (.number (.int (l : Nat)) m)) = true; rw [numeral_T, en, e]; rfl) (by show V.int (numOf (T n)) = _; rw [en]) h2
  | @fixed u n h1 =>
    cases hD with
    | fixed a b =>
      have hu : u ∈ [1, 2, 3, 4] := by simp only [List.mem_cons, List.not_mem_nil, or_false]; omega
      have p1 : 10 ^ u ≤ 10 ^ 4 := Nat.pow_le_pow_right (by decide) b
      have h2 : n < 1000010000 := by omega
      have hl := (pt_T h2).1.2.1
      have en : numOf (T n) = (n : Int) := numOf_T (by omega)
      have e : (PD.fixed (.int (u : Nat))).hasV (.int (n : Nat)) = true := by
        show (numB (.int (n : Nat)) && (decide ((0 : Int) ≤ (n : Int)) && decide ((n : Int) ≤ great (.int (u : Nat))))) = true
        rw [great_is u hu, decide_eq_true (Int.natCast_nonneg n), decide_eq_true (show (n : Int) ≤ ((10 ^ u : Nat) : Int) - 1 by omega)]
        rfl
      exact good_int e (by show (numeralB (T n) && PD.hasV (.int (numOf (T n))) (.fixed (.int (u : Nat)))) = true; rw [numeral_T, en, e]; rfl) (by show V.int (numOf (T n)) = _; rw [en]) h2
  | @listed ts t h1 =>
    generalize ex : (LX.lst (ts.map V.str)) = X at hD
    cases hD with
    | @listed ts2 a b c e =>
      have ht : t ∈ ts2 := by
        injection ex with ex
        have : V.str t ∈ ts2.map V.str := ex ▸ List.mem_map.mpr ⟨t, h1, rfl⟩
        obtain ⟨u, hu, eu⟩ := List.mem_map.mp this
        injection eu with eu
        exact eu ▸ hu
      exact good_str (List.any_eq_true.mpr ⟨.str t, List.mem_map.mpr ⟨t, ht, rfl⟩, by simp [eqV]⟩) rfl rfl (z2 t (b t ht)).1 (z2 t (b t ht)).2
structure GoodF (d : FD) (x : V) : Prop where
  has : d.hasV x = true
  isW : d.isW (vw x) = true
  val : d.valW (vw x) = x
  pt : PtOk 30 (vw x)
  vwo : VwOk x
  flat : flatV x = true ∧ lenV x ≤ 900
  lay : (dV x).canLay0 = true ∧ (dV x).depth = 0
theorem vvF_good {d : FD} {x : V} (hD : FrF d) (h : VvF d x) : GoodF d x := by
  obtain ⟨_, _, z3⟩ := z_ok
  cases h with
  | pl h =>
    have g := vv_good hD.pl_in h
    exact ⟨g.has, g.isW, g.val, g.pt.1, g.vwo, g.flat, g.lay⟩
  | non => exact ⟨rfl, rfl, rfl, z3, .inl rfl, ⟨rfl, by show 0 ≤ 900; decide⟩, rfl, rfl⟩
  | @mk n m d _ h =>
    have hd : DrP farW farL d := by cases hD; assumption
    have g := vv_good hd h
    refine ⟨?_, ?_, ?_, g.pt.1, g.vwo, g.flat, g.lay⟩
    · show (_ || d.hasV x) = true
      rw [g.has, Bool.or_true]
    · show (_ || d.isW (vw x)) = true
      rw [g.isW, Bool.or_true]
    · show (if decide (V.str (vw x) = V.str "=") = true then V.non else d.valW (vw x)) = x
      rw [if_neg (by rw [g.pt.2]; exact Bool.false_ne_true)]
      exact g.val
theorem true_no {d : FD} : d.hasV (.bl true) = false := by
  have p : ∀ d : PD, d.hasV (.bl true) = false := fun d => by cases d <;> rfl
  cases d with
  | pl d => exact p d
  | mk n m d =>
    show (decide (V.bl true = V.non) || d.hasV (.bl true)) = false
    rw [p d]
    rfl
theorem due_at {ds : List FD} {ys : List V} {i : Nat} (hi : i < max ys.length ds.length) (h1 : badAt ds ys i = true) (h2 : ∀ j, j < i → badAt ds ys j = false) : rowDue ds (some ys) = some (i : Int) := by
  show ((List.range (max ys.length ds.length)).find? (badAt ds ys)).map _ = _
  rw [find_at hi h1 h2]
  rfl
theorem bad_congr {ds : List FD} {ys zs : List V} {i : Nat} (h : ys[i]? = zs[i]?) : badAt ds ys i = badAt ds zs i := by
  unfold badAt
  rw [h]
section
variable {ds : List FD} {xs : List V}
theorem RwV.good (hD : ∀ d ∈ ds, FrF d) (h : RwV ds xs) {i : Nat} {d : FD} {x : V} (h1 : ds[i]? = some d) (h2 : xs[i]? = some x) : GoodF d x := vvF_good (hD d (List.mem_of_getElem? h1)) (h.ok i d x h1 h2)
theorem RwV.both (h : RwV ds xs) {i : Nat} (hi : i < xs.length) : ∃ d x, ds[i]? = some d ∧ xs[i]? = some x := ⟨_, _, List.getElem?_eq_getElem (by rw [← h.len]; exact hi), List.getElem?_eq_getElem hi⟩
theorem RwV.at (hD : ∀ d ∈ ds, FrF d) (h : RwV ds xs) {i : Nat} (hi : i < xs.length) : badAt ds xs i = false := by
  obtain ⟨d, x, h1, h2⟩ := h.both hi
  unfold badAt
  rw [h1, h2]
  show (!d.hasV x) = false
  rw [(h.good hD h1 h2).has]
  rfl
theorem RwV.each (hD : ∀ d ∈ ds, FrF d) (h : RwV ds xs) : ∀ x ∈ xs, ∃ d, GoodF d x := fun x hx => by
  obtain ⟨i, hi, e⟩ := List.mem_iff_getElem.mp hx
  obtain ⟨d, y, h1, h2⟩ := h.both hi
  rw [List.getElem?_eq_getElem hi] at h2
  obtain rfl := Option.some.inj h2
  exact ⟨d, by rw [← e]; exact h.good hD h1 (List.getElem?_eq_getElem hi)⟩
theorem RwV.due (hD : ∀ d ∈ ds, FrF d) (h : RwV ds xs) : rowDue ds (some xs) = none := by
  show ((List.range (max xs.length ds.length)).find? (badAt ds xs)).map _ = none
  rw [List.find?_eq_none.mpr fun j hj => ?_]
  · rfl
  · have hj := List.mem_range.mp hj
    rw [h.at hD (by have := h.len; omega)]
    decide
theorem RwV.due1 (hD : ∀ d ∈ ds, FrF d) (h : RwV ds xs) {k : Nat} (hk : k < xs.length) : rowDue ds (some (xs.take k ++ [.bl true] ++ xs.drop (k + 1))) = some (k : Int) := by
  have e : xs.take k ++ [V.bl true] ++ xs.drop (k + 1) = xs.set k (.bl true) := by
    rw [List.set_eq_take_append_cons_drop, if_pos hk, List.append_assoc]
    rfl
  have hl := h.len
  rw [e]
  refine due_at (by rw [List.length_set]; omega) ?_ fun j hj => ?_
  · unfold badAt
    rw [List.getElem?_set_self hk, List.getElem?_eq_getElem (show k < ds.length by omega)]
    show (!FD.hasV _ _) = true
    rw [true_no]
    rfl
  · rw [bad_congr (zs := xs) (List.getElem?_set_ne (by omega))]
    exact h.at hD (by omega)
theorem bad_none {ds : List FD} {ys : List V} {i : Nat} (h : ds[i]? = none ∨ ys[i]? = none) : badAt ds ys i = true := by
  unfold badAt
  rcases h with h | h
  · rw [h]
  · rw [h]
    cases ds[i]? <;> rfl
theorem RwV.due2 (hD : ∀ d ∈ ds, FrF d) (h : RwV ds xs) {k : Nat} (hk : k < xs.length) : rowDue ds (some (xs.take k)) = some (k : Int) := by
  have hl := h.len
  refine due_at (by omega) (bad_none (.inr (List.getElem?_eq_none (by rw [List.length_take]; omega)))) fun j hj => ?_
  rw [bad_congr (List.getElem?_take_of_lt hj)]
  exact h.at hD (by omega)
theorem RwV.due3 (hD : ∀ d ∈ ds, FrF d) (h : RwV ds xs) : rowDue ds (some (xs ++ [.non])) = some (xs.length : Int) := by
  have hl := h.len
  refine due_at (by rw [List.length_append]; show _ < max (xs.length + 1) _; omega) (bad_none (.inl (List.getElem?_eq_none (by omega)))) fun j hj => ?_
  rw [bad_congr (List.getElem?_append_left hj)]
  exact h.at hD hj
theorem RwV.wd (hD : ∀ d ∈ ds, FrF d) (h : RwV ds xs) (h0 : ds ≠ []) (h8 : ds.length ≤ 8) : WdL 8 30 (xs.map vw) := by
  have hl := h.len
  refine ⟨fun e => ?_, by rw [List.length_map]; omega, fun p hp => ?_⟩
  · have := List.length_pos_iff.mpr h0
    rw [List.map_eq_nil_iff.mp e] at hl
    simp only [List.length_nil] at hl
    omega
  · obtain ⟨x, hx, rfl⟩ := List.mem_map.mp hp
    obtain ⟨d, g⟩ := h.each hD x hx
    exact g.pt
theorem RwV.read (hD : ∀ d ∈ ds, FrF d) (h : RwV ds xs) : rdDue ds (xs.map vw) = none ∧ rvVals ds (xs.map vw) = xs := by
  have hl := h.len
  have g : rvDue ds (xs.map vw) = none := by
    refine List.find?_eq_none.mpr fun j hj => ?_
    have hj := List.mem_range.mp hj
    rw [List.length_map] at hj
    obtain ⟨d, x, h1, h2⟩ := h.both hj
    unfold rvBad
    rw [List.getElem?_map, h2, h1]
    show ¬ (!d.isW (vw x)) = true
    rw [(h.good hD h1 h2).isW]
    decide
  refine ⟨by unfold rdDue; rw [g]; exact if_neg (by rw [List.length_map]; omega), List.ext_getElem? fun i => ?_⟩
  unfold rvVals
  rw [List.getElem?_zipWith, List.getElem?_map]
  by_cases hi : i < xs.length
  · obtain ⟨d, x, h1, h2⟩ := h.both hi
    rw [h1, h2]
    show some (FD.valW (vw x) d) = some x
    rw [(h.good hD h1 h2).val]
  · rw [List.getElem?_eq_none (show ds.length ≤ i by omega), List.getElem?_eq_none (show xs.length ≤ i by omega)]
theorem RwV.lay (hD : ∀ d ∈ ds, FrF d) (h : RwV ds xs) : ∀ x ∈ xs, flatV x = true ∧ (dV x).canLay0 = true ∧ (dV x).depth = 0 := fun x hx => by
  obtain ⟨d, g⟩ := h.each hD x hx
  exact ⟨g.flat.1, g.lay⟩
end
theorem lay_all : ∀ (xs : List V), (∀ x ∈ xs, flatV x = true ∧ (dV x).canLay0 = true ∧ (dV x).depth = 0) → xs.all flatV = true ∧ PyData.canLayAll0 (xs.map dV) = true ∧ PyData.depthAll (xs.map dV) = 0
  | [], _ => ⟨rfl, rfl, rfl⟩
  | x :: xs, h => by
    obtain ⟨a, b, c⟩ := lay_all xs fun y hy => h y (List.mem_cons_of_mem _ hy)
    obtain ⟨h1, h2, h3⟩ := h x (List.mem_cons_self ..)
    refine ⟨Bool.and_eq_true_iff.mpr ⟨h1, a⟩, Bool.and_eq_true_iff.mpr ⟨h2, b⟩, ?_⟩
    show max (dV x).depth _ = 0
    rw [h3, c]
    rfl
theorem sh_tup {xs : List V} (h : ∀ x ∈ xs, flatV x = true ∧ (dV x).canLay0 = true ∧ (dV x).depth = 0) : SeqAt.shaped (.tuple (xs.map dV)) = true := by
  obtain ⟨_, b, c⟩ := lay_all xs h
  refine Bool.and_eq_true_iff.mpr ⟨b, decide_eq_true ?_⟩
  show PyData.depthAll (xs.map dV) + 1 ≤ 64
  rw [c]
  decide
theorem rv_lay {ds : List FD} {ps : List Str} (h : ∀ p ∈ ps, A8 p) : ∀ x ∈ rvVals ds ps, flatV x = true ∧ (dV x).canLay0 = true ∧ (dV x).depth = 0 := fun x hx => by
  unfold rvVals at hx
  obtain ⟨i, hi, e⟩ := List.mem_iff_getElem.mp hx
  rw [List.getElem_zipWith] at e
  rw [← e]
  exact valW_lay _ (h _ (List.getElem_mem _))
end L2.K80

set_option Elab.async false
set_option linter.all false
set_option maxRecDepth 100000
set_option maxHeartbeats 4000000
/-! The law: what is no row, and no word, is refused. -/
namespace L2.K80
open PySem PySem.W PySem.Spec PySem.Calls PyProof.Rows L2.Jk
theorem cut_to {xs : List V} {k : Nat} : cutV xs none (some (k : Int)) = xs.take k := by
  unfold cutV
  rw [HT.sIx_none, HT.sIx_nat, List.drop_zero, Nat.sub_zero]
  rcases Nat.le_total k xs.length with z | z
  · rw [Nat.min_eq_left z]
  · rw [Nat.min_eq_right z, List.take_length, List.take_of_length_le z]
theorem cut_from {xs : List V} {k : Nat} : cutV xs (some (k : Int)) none = xs.drop k := by
  unfold cutV
  rw [HT.sIx_none, HT.sIx_nat]
  rcases Nat.le_total k xs.length with z | z
  · rw [Nat.min_eq_left z, List.take_of_length_le (by rw [List.length_drop]; omega)]
  · rw [Nat.min_eq_right z, List.drop_length, List.drop_of_length_le z, List.take_nil]
def qR : Str := "_law_refused_right.<locals>.<lambda>"
def qL : Str := "law.<locals>.<lambda>"
abbrev TT (P1 P2 : Addr) : List (Addr × Str) := [(P1, qR), (P2, qL)]
theorem tt1 {P1 P2 : Addr} {q : Str} (e : q = qR) : (P1, q) ∈ TT P1 P2 := by rw [e]; exact List.mem_cons_self ..
theorem tt2 {P1 P2 : Addr} {q : Str} (e : q = qL) : (P2, q) ∈ TT P1 P2 := by rw [e]; exact List.mem_cons_of_mem _ (List.mem_cons_self ..)
theorem tu1 {P1 P2 : Addr} (h : P1 ≠ P2) {q : Str} (e : q = qR) : ∀ p ∈ TT P1 P2, p.1 = P1 → p.2 = q := fun p hp hq => by
  rcases List.mem_cons.mp hp with rfl | hp
  · exact e.symm
  · rw [List.mem_singleton.mp hp] at hq
    exact absurd hq.symm h
theorem tu2 {P1 P2 : Addr} (h : P1 ≠ P2) {q : Str} (e : q = qL) : ∀ p ∈ TT P1 P2, p.1 = P2 → p.2 = q := fun p hp hq => by
  rcases List.mem_cons.mp hp with rfl | hp
  · exact absurd hq h
  · rw [List.mem_singleton.mp hp]
    exact e.symm
theorem call_list_ofK {X : Cx} {K : Frag} (h : X.K = K) : CallR X (.type "list") (fun xs H Q => ∃ p ys, xs = [.ref p] ∧ (SqL K H p ys ∨ SqT K H p ys) ∧ ∀ l, H l = none → Q (.ref l) (upd H l (.lst ys))) := by
  subst h
  exact call_list_of
theorem pe_saidK {X : Cx} {K : Frag} {T : List (Addr × Str)} {params : Arguments} {body : Expr} {scope : Scope} {t : XK → TE} {k : Nat} {p lpos pos : Pos} {c P : Addr} (eK : X.K = K) (hp : SaidAt X.K X.mg) (nr : ErrAt X.prog X.w X.K X.mg X.base "NoRow" (NR X.K) ["place"] "refused norow") (mgJ : X.mg "JointError" = some (.ref (He.ga X.K "JointError")))
    (exm : exmOne X.K (.ref (NR X.K)) (.ref (NR X.K)) = some true) (hg : Gl X "_law_said") (TB : LamX.TabB X.base X.mg c P) (hcode : X.env.code = .ref c) (hmT : (P, X.env.qual ++ "<lambda>") ∈ T) (hu : ∀ p ∈ T, p.1 = P → p.2 = X.env.qual ++ "<lambda>") (hr : Room (k + 2) X.A) (L : LamX.LamS X.env.scope scope) (hdef : defaultsOf params X.env = ([], []))
    (hbind : ∀ (q : Str) (cl : List (Str × Addr)) (pm cv ctv : Value), bindArgs (PySem.W.kla_fn "<lambda>" q params body scope cl pm cv ctv) ⟨[], []⟩ = pure [])
    (hbody : ∀ (A : Around) (outer : List Env) (s : Shared) (H : Hp) (E : XK) (f c' : Addr), Room k (A.deeper (LamX.lamEnv X scope s.heap.objs.size f c')) → PE (LamX.lamCx X A outer s H E scope f c') body (t E)) :
    PE X (.Call (.Name "_law_said" p) [.Lambda params body scope lpos] [] pos) (LamX.tLam T (TTs K) t) := by
  subst eK
  exact pe_said hp nr mgJ exm hg TB hcode hmT hu hr L hdef hbind hbody
structure GV (P : Program) (w : World) (K : Frag) (mg : Str → Option Value) (base : Heap) : Prop extends GU P w K mg base where
  said : SaidAt K mg
  mgJ : mg "JointError" = some (.ref (He.ga K "JointError"))
  exm : exmOne K (.ref (NR K)) (.ref (NR K)) = some true
def spRr (K : Frag) (P1 P2 : Addr) : Sp := fun vs H Q _ => ∃ (L r : Addr) (ds : List FD) (js : List Str) (xs : List V) (k : Nat), vs = [.ref L, .ref r, .int (k : Nat)] ∧ LayAt K H L ds js ∧ H r = some (.tup xs) ∧ k < xs.length ∧ xs.length ≤ 100 ∧ (∀ x ∈ xs, flatV x = true ∧ lenV x ≤ 900) ∧
  rowDue ds (some (xs.take k ++ [.bl true] ++ xs.drop (k + 1))) = some (k : Int) ∧ rowDue ds (some (xs.take k)) = some (k : Int) ∧ rowDue ds (some (xs ++ [.non])) = some (xs.length : Int) ∧ LamX.Tabs (TT P1 P2) H ∧
  ∀ H', LamX.ExtN H H' → LamX.Tabs (TT P1 P2) H' → Q (.bl true) H'
section
variable {P : Program} {w : World} {K : Frag} {mg : Str → Option Value} {base : Heap} {f : Addr} {fd : FuncData}

abbrev s_law_refused_right : Stmt := top 60
theorem sc_law_refused_right : FnScope ["_law_layout", "_law_row", "_law_at", "_law_bad", "_law_due_here", "_law_odd"] ["_law_layout", "_law_row", "_law_at"] (defScope s_law_refused_right) := ⟨rfl, rfl, rfl, by decide +kernel, rfl, by decide +kernel, by decide +kernel⟩

theorem ok_law_refused_right (F : FunD K "_law_refused_right" "_law_refused_right" (defArgs s_law_refused_right) (defBody s_law_refused_right) (defScope s_law_refused_right) [] [] f fd) (G : GV P w K mg base) {c0 P1 P2 : Addr} (hc0 : fd.code = .ref c0) (TB : LamX.TabB base mg c0 P1) (hne : P1 ≠ P2) : FnOk P w K mg base CX0 11 f fd ["_law_layout", "_law_row", "_law_at"] (spRr K P1 P2) := by
  refine FunD.okC (CX := CX0) F hc0 sc_law_refused_right (fun vs H Q E h => ?_) (fun A outer s H vs Q E hr h => ?_)
  · obtain ⟨_, _, _, _, _, _, rfl, _⟩ := h
    rfl
  · refine ⟨_, PSs.nox (pss_cons (ps_for PassesOwn.never rfl (pi_tup (pe_tupS (pa_cons (pe_tupS (pa_cons (pe_op op_catTS (pe_op op_catTS (pe_slice sl_tupTS (pv 1) po_none (po_some (pv 2))) (pe_tupS (pa_cons pe_bl pa_nil))) (pe_slice sl_tupTS (pv 1) (po_some (pe_op op_add (pv 2) pe_int)) po_none)) (pa_cons (pv 2) pa_nil))) (pa_cons (pe_tupS (pa_cons (pe_slice sl_tupTS (pv 1) po_none (po_some (pv 2))) (pa_cons (pv 2) pa_nil))) (pa_cons (pe_tupS (pa_cons (pe_op op_catTS (pv 1) (pe_tupS (pa_cons pe_non pa_nil))) (pa_cons (pe_callB call_len_seq (by rfl) G.len (by decide +kernel) (pa_cons (pv 1) pa_nil)) pa_nil))) pa_nil))))) (pg_tup rfl (pgs_cons (pg_name (i := 3) sc_law_refused_right.nd rfl (Or.inr rfl)) (pgs_cons (pg_name (i := 4) sc_law_refused_right.nd rfl (Or.inl rfl)) pgs_nil)))
      (pss_one (ps_if (PW.pt (pw_or (pt_cmpR op_ne (pe_saidK (K := K) (T := TT P1 P2) (k := 8) rfl G.said G.nr G.mgJ G.exm (by rfl) TB rfl (tt1 rfl) (tu1 hne rfl) hr (LamX.lamS_by (by show LamX.lamSB (defScope s_law_refused_right) _ = true; decide +kernel)) rfl (fun _ _ _ _ _ => rfl) (fun A outer s H E f c' hr2 => pe_fnS G.row_word (hr2.mono (by decide)) (fun σ => passAt (takes_of rfl rfl rfl rfl) σ) (by rfl) (pa_cons (pv 0) (pa_cons (pv 3) pa_nil)))) (pv 4) (nomark _)) (pw_or1 (pt_cmpR op_ne (pe_saidD (T := TT P1 P2) (k := 8) (nd := 1) G.said G.nr G.mgJ G.exm (by rfl) TB rfl (tt1 rfl) (tu1 hne rfl) hr (lamD_by (by show lamDB ["_law_layout", "_law_row", "_law_at", "_law_bad", "_law_due_here", "_law_odd"] (defScope s_law_refused_right) _ = true; decide +kernel)) rfl rfl (by decide) (fun M A E Q s h => dflt1 M A E Q s h) (fun q cl t doc pm cv ctv dv hl => match dv, hl with | [u], _ => ⟨_, _, rfl, rfl, (fun y hy => by rcases List.mem_singleton.mp hy with rfl; rfl)⟩) (fun A outer s H E f c' hr2 => pe_fnS G.row_word (hr2.mono (by decide)) (fun σ => passAt (takes_of rfl rfl rfl rfl) σ) (by rfl) (pa_cons (pv 0) (pa_cons (pe_callTy (T := "list") (call_list_ofK (K := K) rfl) (by rfl) G.list (by decide +kernel) (pa_cons (pv 3) pa_nil)) pa_nil)))) (pv 4) (nomark _)))))
        (pss_one (ps_ret pe_bl))
        pss_nil)))
    (pss_cons (ps_if (pt_cmpR (op_neD hr.units) (pe_lc (own := [("_law_odd", 5)]) (g := gName 5) (tt := _) rfl sc_law_refused_right.nd (pi_tup (pe_tupS (pa_cons pe_non (pa_cons pe_int (pa_cons pe_str (pa_cons pe_dnewK (pa_cons pe_bl pa_nil))))))) (blkOk_by (N := ["_law_layout", "_law_row", "_law_at", "_law_bad", "_law_due_here", "_law_odd"]) (sc := defScope s_law_refused_right) (by decide +kernel)) (fun _ _ _ _ _ => pg_name (i := 5) sc_law_refused_right.nd rfl (Or.inr rfl)) (fun _ _ _ _ _ => pts_one (pt_cmpR op_ne (pe_saidK (K := K) (T := TT P1 P2) (k := 8) rfl G.said G.nr G.mgJ G.exm (by rfl) TB rfl (tt1 rfl) (tu1 hne rfl) hr (LamX.lamS_by (by show LamX.lamSB ({ kind := .function, names := [(".0", .local), ("_law_odd", .cell), ("_law_said", .globalImplicit), ("_law_layout", .free)], isGenerator := false, isCoroutine := false } : Scope) _ = true; decide +kernel)) rfl (fun _ _ _ _ _ => rfl) (fun A outer s H E f c' hr2 => pe_fnS G.row_word (hr2.mono (by decide)) (fun σ => passAt (takes_of rfl rfl rfl rfl) σ) (by rfl) (pa_cons (pv 0) (pa_cons (pv 5) pa_nil)))) (pe_un un_neg pe_int) (nomark _))) (fun _ _ _ _ _ => pe_int)) (pe_lstS pa_nil) (nomark _))
      (pss_one (ps_ret pe_bl))
      pss_nil)
    (pss_one (ps_ret (pe_cmpR (op_eqD hr.units) (pe_lc (own := [("_law_odd", 5)]) (g := gName 5) (tt := _) rfl sc_law_refused_right.nd (pi_tup (pe_tupS (pa_cons pe_non (pa_cons pe_int (pa_cons pe_bl (pa_cons (pv 1) pa_nil)))))) (blkOk_by (N := ["_law_layout", "_law_row", "_law_at", "_law_bad", "_law_due_here", "_law_odd"]) (sc := defScope s_law_refused_right) (by decide +kernel)) (fun _ _ _ _ _ => pg_name (i := 5) sc_law_refused_right.nd rfl (Or.inr rfl)) (fun _ _ _ _ _ => pts_one (pt_cmpR op_ne (pe_saidK (K := K) (T := TT P1 P2) (k := 8) rfl G.said G.nr G.mgJ G.exm (by rfl) TB rfl (tt1 rfl) (tu1 hne rfl) hr (LamX.lamS_by (by show LamX.lamSB ({ kind := .function, names := [(".0", .local), ("_law_odd", .cell), ("_law_said", .globalImplicit), ("_law_layout", .free)], isGenerator := false, isCoroutine := false } : Scope) _ = true; decide +kernel)) rfl (fun _ _ _ _ _ => rfl) (fun A outer s H E f c' hr2 => pe_fnS G.read_row (hr2.mono (by decide)) (fun σ => passAt (takes_of rfl rfl rfl rfl) σ) (by rfl) (pa_cons (pv 0) (pa_cons (pv 5) pa_nil)))) (pe_un un_neg pe_int) (nomark _))) (fun _ _ _ _ _ => pe_int)) (pe_lstS pa_nil) (nomark _)))))), ?_⟩
    obtain ⟨L, r, ds, js, xs, k, rfl, hLy, hrr, hk, hxl, hfl, due1, due2, due3, hT, q⟩ := h
    have szs : ∀ n : Nat, n ≤ 1000 → n ≤ sizeLine := fun n h => by rw [sizeLine_eq]; omega
    have eN : ∀ {xs : List V} (ps : Array Value), HO.tup xs ≠ .tbl ps := fun _ z => by cases z
    refine ⟨_, rfl, _, rfl, k, rfl, r, _, rfl, hrr, fun p1 J1 S1 e1 => ?_⟩
    refine ⟨by show 1 ≤ 1000; decide, fun p2 J2 hp2 S2 e2 => ⟨p1, p2, _, _, rfl, rfl, S2 _ _ e1, e2, szs _ (by rw [cut_to, List.length_take]; show min k xs.length + 1 ≤ 1000; omega), fun p3 J3 S3 e3 => ?_⟩⟩
    have S1 : Same H J1 := S1
    have S3 : Same J2 J3 := S3
    have U3 : Same H J3 := (S1.trans S2).trans S3
    refine ⟨_, rfl, _, rfl, _, _, rfl, rfl, _, rfl, r, _, rfl, U3 _ _ hrr, fun p4 J4 S4 e4 => ?_⟩
    have e4 : J4 p4 = some (.tup (xs.drop (k + 1))) := by rw [← cut_from]; exact e4
    rw [cut_to] at e3 e1
    refine ⟨p3, p4, _, _, rfl, rfl, S4 _ _ e3, e4, szs _ (by rw [List.length_append, List.length_take, List.length_drop]; show min k xs.length + 1 + (xs.length - (k + 1)) ≤ 1000; omega), fun p5 J5 S5 e5 => ?_⟩
    refine ⟨_, rfl, by show 2 ≤ 1000; decide, fun t1 J6 ht1 S6 et1 => ?_⟩
    have S4 : Same J3 J4 := S4
    have S5 : Same J4 J5 := S5
    have U6 : Same H J6 := ((U3.trans S4).trans S5).trans S6
    refine ⟨_, rfl, _, rfl, k, rfl, r, _, rfl, U6 _ _ hrr, fun p7 J7 S7 e7 => ?_⟩
    rw [cut_to] at e7
    refine ⟨_, rfl, by show 2 ≤ 1000; decide, fun t2 J8 ht2 S8 et2 => ?_⟩
    have S7 : Same J6 J7 := S7
    have U8 : Same H J8 := (U6.trans S7).trans S8
    refine ⟨_, rfl, by show 1 ≤ 1000; decide, fun p9 J9 hp9 S9 e9 => ⟨r, p9, _, _, rfl, rfl, S9 _ _ (U8 _ _ hrr), e9, szs _ (by show xs.length + 1 ≤ 1000; omega), fun pa Ja Sa ea => ?_⟩⟩
    have Sa : Same J9 Ja := Sa
    have Ua : Same H Ja := (U8.trans S9).trans Sa
    refine ⟨_, rfl, r, xs, rfl, .inr (SqT.of (Ua _ _ hrr)), by show 2 ≤ 1000; decide, fun t3 Jb ht3 Sb et3 => ?_⟩
    refine ⟨by show 3 ≤ 1000; decide, fun tt Jc htt Sc etc => ?_⟩
    have Uc : Same H Jc := (Ua.trans Sb).trans Sc
    have W8 : Same J8 Jc := ((S9.trans Sa).trans Sb).trans Sc
    have W6 : Same J6 Jc := (S7.trans S8).trans W8
    have rin : ∀ (Hx : Hp) (zs : List V), zs.length ≤ 1000 → (∀ x ∈ zs, flatV x = true ∧ lenV x ≤ 900) → RowIn Hx (some zs) := fun Hx zs h1 h2 => ⟨h1, fun x hx => ⟨.inl (h2 x hx).1, (h2 x hx).2⟩⟩
    have items : ∀ v ∈ ([V.ref t1, .ref t2, .ref t3] : List V), ∃ (t b : Addr) (ys : List V) (z : Int), v = .ref t ∧ Jc t = some (.tup [.ref b, .int z]) ∧ Jc b = some (.tup ys) ∧ rowDue ds (some ys) = some z ∧ ys.length ≤ 1000 ∧ ∀ x ∈ ys, flatV x = true ∧ lenV x ≤ 900 := by
      intro v hv
      simp only [List.mem_cons, List.not_mem_nil, or_false] at hv
      rcases hv with rfl | rfl | rfl
      · refine ⟨t1, p5, _, k, rfl, W6 _ _ et1, W6 _ _ (S6 _ _ e5), due1, by rw [List.length_append, List.length_append, List.length_take, List.length_drop]; show min k xs.length + 1 + (xs.length - (k + 1)) ≤ 1000; omega, fun x hx => ?_⟩
        rcases List.mem_append.mp hx with hx | hx
        · rcases List.mem_append.mp hx with hx | hx
          · exact hfl x (List.mem_of_mem_take hx)
          · rw [List.mem_singleton.mp hx]; exact ⟨rfl, by show 0 ≤ 900; decide⟩
        · exact hfl x (List.mem_of_mem_drop hx)
      · exact ⟨t2, p7, _, k, rfl, W8 _ _ et2, W8 _ _ (S8 _ _ e7), due2, by rw [List.length_take]; omega, fun x hx => hfl x (List.mem_of_mem_take hx)⟩
      · refine ⟨t3, pa, _, xs.length, rfl, Sc _ _ et3, Sc _ _ (Sb _ _ ea), due3, by rw [List.length_append]; show xs.length + 1 ≤ 1000; omega, fun x hx => ?_⟩
        rcases List.mem_append.mp hx with hx | hx
        · exact hfl x hx
        · rw [List.mem_singleton.mp hx]; exact ⟨rfl, by show 0 ≤ 900; decide⟩
    refine ⟨tt, rfl, ⟨_, SqT.of etc⟩, for_tup (K := K) (a := tt) (xs := [V.ref t1, .ref t2, .ref t3]) (fun i σ J => ∃ v3 v4 v5, σ = [some (.ref L), some (.ref r), some (.int (k : Nat)), v3, v4, v5] ∧ LamX.ExtN Jc J ∧ LamX.Tabs (TT P1 P2) J) ⟨_, _, _, rfl, LamX.ExtN.refl _, tabs_same Uc hT⟩ (fun i σ J _ ⟨_, _, _, _, X, _⟩ => SqT.of (X _ _ etc eN)) ?_ ?_⟩
    · rintro i v σ J hv ⟨v3, v4, v5, rfl, X, T⟩
      obtain ⟨t, b, ys, z, rfl, ht, hb, due, hyl, hyf⟩ := items v (List.mem_of_getElem? hv)
      refine ⟨t, _, rfl, SqT.of (X _ _ ht eN), rfl, _, _, rfl, _, _, rfl, rfl, ?_⟩
      refine ⟨T, fun F1 x1 u1 => ⟨_, rfl, _, rfl, L, ds, js, _, some ys, rfl, (hLy.same Uc).extN (X.trans x1), .tup ((X.trans x1) _ _ hb eN), rin _ _ hyl hyf, fun gd => (by rw [due] at gd; cases gd), fun z1 hz1 d1 K1 hd1 s1 m1 => ?_⟩⟩
      obtain rfl := Option.some.inj (due.symm.trans hz1)
      refine ⟨rfl, d1, _, rfl, m1, ?_⟩
      have X1 := (X.trans x1).trans (LamX.ExtN.of s1)
      have T1 := tabs_same s1 u1
      refine ⟨_, rfl, rfl, _, rfl, ?_⟩
      rw [show (!decide (V.int z = V.int z)) = false by rw [decide_eq_true rfl]; rfl]
      refine iteF ⟨T1, fun F2 x2 u2 => ⟨_, rfl, _, rfl, b, ys, rfl, .inr (SqT.of ((X1.trans x2) _ _ hb eN)), fun l hl => ?_⟩⟩
      have S2' : Same F2 (upd F2 l (.lst ys)) := same_upd hl
      have X2 := (X1.trans x2).trans (LamX.ExtN.of S2')
      refine ⟨L, ds, js, _, some ys, rfl, (hLy.same Uc).extN X2, .lst upd_same, rin _ _ hyl hyf, fun gd => (by rw [due] at gd; cases gd), fun z1 hz1 d2 K2 hd2 s2 m2 => ?_⟩
      obtain rfl := Option.some.inj (due.symm.trans hz1)
      refine ⟨rfl, d2, _, rfl, m2, ?_⟩
      refine ⟨_, rfl, rfl, _, rfl, ?_⟩
      rw [show (!decide (V.int z = V.int z)) = false by rw [decide_eq_true rfl]; rfl]
      exact iteF ⟨_, _, _, rfl, X2.trans (LamX.ExtN.of s2), tabs_same (S2'.trans s2) u2⟩
    rintro σ J ⟨v3, v4, v5, rfl, X, T⟩
    have hLJ := (hLy.same Uc).extN X
    have hrJ := X _ _ (Uc _ _ hrr) eN
    have XJ : LamX.ExtN H J := (LamX.ExtN.of Uc).trans X
    have eL : ∀ {xs : List V} (ps : Array Value), HO.lst xs ≠ .tbl ps := fun _ z => by cases z
    have eD : ∀ {xs : List (Key × V)} (ps : Array Value), HO.dK xs ≠ .tbl ps := fun _ z => by cases z
    have due0 : rowDue ds none = some (-1) := rfl
    refine fun pd hpd => ⟨by show 5 ≤ 1000; decide, fun q1 Z1 hq1 R1 g1 => ⟨q1, rfl, ⟨_, SqT.of g1⟩, fun D hD => ?_⟩⟩
    have V1 : Same J Z1 := (same_upd hpd).trans R1
    have ed1 : Z1 pd = some (.dK []) := R1 _ _ upd_same
    refine lc_tup (K := K) (a := q1) (xs := [V.non, V.int 5, V.str "a", V.ref pd, V.bl true]) (fun _ Jx => LamX.ExtN Z1 Jx ∧ LamX.Tabs (TT P1 P2) Jx ∧ Jx D = some (.lst [])) ⟨LamX.ExtN.of (same_upd hD), tabs_same (V1.trans (same_upd hD)) T, upd_same⟩ (fun i Jx hi ⟨Y, _, _⟩ => SqT.of (Y _ _ g1 eN)) ?_ ?_
    · rintro i x Jx hx ⟨Y, U, eDx⟩
      refine ⟨rfl, U, fun F1 x1 u1 => ?_⟩
      have Y1 := Y.trans x1
      have hs : SeqIs K F1 x none := by
        have hm := List.mem_of_getElem? hx
        simp only [List.mem_cons, List.not_mem_nil, or_false] at hm
        rcases hm with rfl | rfl | rfl | rfl | rfl
        · exact .flat rfl
        · exact .flat rfl
        · exact .flat rfl
        · exact .dict (Y1 _ _ ed1 eD)
        · exact .flat rfl
      refine ⟨_, rfl, _, rfl, L, ds, js, _, none, rfl, (hLJ.same V1).extN Y1, hs, trivial, fun gd => (by rw [due0] at gd; cases gd), fun z1 hz1 d1 K1 hd1 s1 m1 => ?_⟩
      obtain rfl := Option.some.inj (due0.symm.trans hz1)
      refine ⟨rfl, d1, _, rfl, m1, _, rfl, rfl, _, rfl, ?_⟩
      exact iteF ⟨Y1.trans (LamX.ExtN.of s1), tabs_same s1 u1, s1 _ _ (x1 _ _ eDx eL)⟩
    rintro Jx ⟨Y, U, eDx⟩
    refine ⟨by show 0 ≤ 1000; decide, fun pe Ze hpe Se ee => ⟨_, _, .lst (SqL.of (Se _ _ eDx)) .nil, .lst (SqL.of ee) .nil, by decide +kernel, by decide +kernel, _, rfl, ?_⟩⟩
    have XZ : LamX.ExtN J Ze := ((LamX.ExtN.of V1).trans Y).trans (LamX.ExtN.of Se)
    have UZ := tabs_same Se U
    have hrZ := XZ _ _ hrJ eN
    refine iteF ⟨_, rfl, by show 4 ≤ 1000; decide, fun q2 Z2 hq2 R2 g2 => ⟨q2, rfl, ⟨_, SqT.of g2⟩, fun D2 hD2 => ?_⟩⟩
    refine lc_tup (K := K) (a := q2) (xs := [V.non, V.int 5, V.bl true, V.ref r]) (fun _ Jx => LamX.ExtN Z2 Jx ∧ LamX.Tabs (TT P1 P2) Jx ∧ Jx D2 = some (.lst [])) ⟨LamX.ExtN.of (same_upd hD2), tabs_same (R2.trans (same_upd hD2)) UZ, upd_same⟩ (fun i Jx hi ⟨Y, _, _⟩ => SqT.of (Y _ _ g2 eN)) ?_ ?_
    · rintro i x Jx hx ⟨Y, U, eDx⟩
      refine ⟨rfl, U, fun F1 x1 u1 => ?_⟩
      have Y1 := Y.trans x1
      have hs : Thg F1 x ∧ ∀ t, x ≠ .str t := by
        have hm := List.mem_of_getElem? hx
        simp only [List.mem_cons, List.not_mem_nil, or_false] at hm
        rcases hm with rfl | rfl | rfl | rfl
        · exact ⟨.inl rfl, fun t z => by cases z⟩
        · exact ⟨.inl rfl, fun t z => by cases z⟩
        · exact ⟨.inl rfl, fun t z => by cases z⟩
        · exact ⟨.inr ⟨_, rfl, .inr (.inl ⟨_, Y1 _ _ (R2 _ _ hrZ) eN⟩)⟩, fun t z => by cases z⟩
      refine ⟨_, rfl, _, rfl, L, ds, js, _, rfl, ((hLJ.extN XZ).same R2).extN Y1, hs.1, fun t e => absurd e (hs.2 t), fun _ d1 K1 hd1 s1 m1 => ?_⟩
      refine ⟨rfl, d1, _, rfl, m1, _, rfl, rfl, _, rfl, ?_⟩
      exact iteF ⟨Y1.trans (LamX.ExtN.of s1), tabs_same s1 u1, s1 _ _ (x1 _ _ eDx eL)⟩
    rintro Jx ⟨Y, U, eDx⟩
    refine ⟨by show 0 ≤ 1000; decide, fun pe Zf hpe Sf ef => ⟨_, _, .lst (SqL.of (Sf _ _ eDx)) .nil, .lst (SqL.of ef) .nil, by decide +kernel, by decide +kernel, ?_⟩⟩
    exact q Zf (((XJ.trans XZ).trans (LamX.ExtN.of R2)).trans (Y.trans (LamX.ExtN.of Sf))) (tabs_same Sf U)

end
end L2.K80

set_option Elab.async false
set_option linter.all false
set_option maxRecDepth 100000
set_option maxHeartbeats 4000000
/-! Calls by keywords alone, of a def and of a class, the def without defaults. -/
namespace L2.Jk
open PySem PySem.W PySem.Spec PySem.Calls PyProof.Rows
/-- the values in the parameters' order: is says where each parameter's keyword stands -/
def perm {α : Type} (is : List Nat) (ws : List α) : List α := is.filterMap fun i => ws[i]?
/-- g for a def: keywords alone; for an __init__: the instance, then keywords -/
def gP {α : Type} (is : List Nat) (us ws : List α) : List α := us ++ perm is ws
theorem vals_get {xs : List V} {us : List Value} (r : Vals xs us) : ∀ i : Nat, (∃ x u, xs[i]? = some x ∧ us[i]? = some u ∧ RelV x u) ∨ (xs[i]? = none ∧ us[i]? = none) := by
  induction r with
  | nil => exact fun i => .inr ⟨rfl, rfl⟩
  | cons h t ih =>
    intro i
    cases i with
    | zero => exact .inl ⟨_, _, rfl, rfl, h⟩
    | succ i => exact ih i
theorem vals_perm {xs : List V} {us : List Value} (r : Vals xs us) : ∀ is : List Nat, Vals (perm is xs) (perm is us)
  | [] => .nil
  | i :: is => by
    have ih := vals_perm r is
    unfold perm at ih ⊢
    rcases vals_get r i with ⟨x, u, e1, e2, h⟩ | ⟨e1, e2⟩
    · rw [List.filterMap_cons_some e1, List.filterMap_cons_some e2]
      exact .cons h ih
    · rw [List.filterMap_cons_none e1, List.filterMap_cons_none e2]
      exact ih
theorem vals_app {xs ys : List V} {us ws : List Value} (r : Vals xs us) (q : Vals ys ws) : Vals (xs ++ ys) (us ++ ws) := by
  induction r with
  | nil => exact q
  | cons h t ih => exact .cons h ih
theorem kbn_of {K : Frag} {x qual : Str} {params : Arguments} {body : List Stmt} {scope : Scope} {kws : List (Str × V)} {f : Addr} {fd : FuncData} {ps : List Str} (F : FunD K x qual params body scope [] kws f fd) (n : Nat) (ks : List Str) (is : List Nat)
    (h : ∀ (kV doc pm : Value) (an : Option Addr) (cdv ct : Value) (us ws : List Value), us.length = n → ws.length = ks.length → bindArgs (PySem.W.fnOf x qual params body scope .none kV doc pm an cdv ct) ⟨us, ks.zip ws⟩ = pure (ps.zip (gP is us ws))) : KBn K fd ps n ks (gP is) (gP is) := by
  obtain ⟨oc, od, dV, kV, doc, pm, an, cdv, ct, osl, rfl, lk, hcd, hD, hK⟩ := F.ex
  rcases hD with ⟨_, rfl⟩ | ⟨e, _⟩
  · exact ⟨fun s us ws _ l1 l2 => BindsTo.of_eq (h kV doc pm an cdv ct us ws l1 l2), fun r q => vals_app r (vals_perm q is)⟩
  · exact absurd rfl e
structure FnKw (P : Program) (w : World) (K : Frag) (mg : Str → Option Value) (base : Heap) (CX : CXT) (k : Nat) (x : Str) (ps ks : List Str) (is : List Nat) (sp : Sp) : Prop where
  ex : ∃ (f : Addr) (fd : FuncData), mg x = some (.ref f) ∧ keepIn K (.ref f) = true ∧ FnOk P w K mg base CX k f fd ps sp ∧ KBn K fd ps 0 ks (gP is) (gP is)
structure ClsKw (P : Program) (w : World) (K : Frag) (mg : Str → Option Value) (base : Heap) (CX : CXT) (k : Nat) (x : Str) (C : Addr) (ps ks : List Str) (is : List Nat) (sp : Sp) : Prop where
  mgC : mg x = some (.ref C)
  mkr : Mk K C (He.ma K C "__init__")
  ok : ∃ fd, FnOk P w K mg base CX k (He.ma K C "__init__") fd ps sp ∧ KBn K fd ps 1 ks (gP is) (gP is)
def tFnKw (m : Nat) (is : List Nat) (sp : Sp) (E : XK) (tk : TA) : TE := fun σ H Q => tk σ H fun zs H1 => zs.length = m ∧ sp (perm is zs) H1 Q E
section
variable {X : Cx} {CX : CXT} {k : Nat} {ps ks : List Str} {is : List Nat} {sp : Sp} {E : XK} {x : Str} {p pos : Pos} {kws : List Keyword} {tk : TA} {C : Addr}
theorem passes0 : Passes (L2.CX X.prog X.w) X (fun _ _ _ => False) := fun pins σ H s e s' I c => passAt (W := fun _ _ _ _ => False) takes0 σ pins H s e s' I c
/-- f(k = v, ..) -/
theorem pe_fnKw (G : FnKw X.prog X.w X.K X.mg X.base CX k x ps ks is sp) (hr : Room k X.A) (hx : Passes CX X E) (hg : Gl X x) (hkw : PK X kws tk)
    (hall : (backToKw pos (keywordEach kws X.env)).all (·.1.isSome) = true := by rfl) (hks : (backToKw pos (keywordEach kws X.env)).filterMap (·.1) = ks := by rfl) (hdb : (x == ("__debug__" : Str)) = false := by decide)
    (hpl : ((backTo pos (starEach [] X.env)).any (·.1) || (backToKw pos (keywordEach kws X.env)).any (·.1.isNone)) = false := by rfl) :
    PE X (.Call (.Name x p) [] kws pos) (tFnKw ks.length is sp E tk) := by
  obtain ⟨f, fd, hm, kp, F, hb⟩ := G.ex
  refine ⟨fun pins s σ H Q I h => ?_⟩
  refine wpAny_Call_Name_kw (ld_glob I hg hm ?_ hdb)
  refine PySem.W.callWith_KW0 (h₀ := X.base) I.ok.mod.kin kp hall ?_ hpl
  refine thn (hkw.run pos pins s σ H _ I h) fun ws s2 ⟨zs, H2, I2, rz, l2, q2⟩ => ⟨I2.kIn, ?_⟩
  rw [hks]
  exact run_fnN (us := []) (vs := []) F hr hb hx I2 .nil rz rfl l2 q2
/-- C(k = v, ..) -/
theorem pe_newKw (G : ClsKw X.prog X.w X.K X.mg X.base CX k x C ps ks is sp) (hr : Room (k + 1) X.A) (hx : Passes CX X E) (hg : Gl X x) (hkw : PK X kws tk)
    (hall : (backToKw pos (keywordEach kws X.env)).all (·.1.isSome) = true := by rfl) (hks : (backToKw pos (keywordEach kws X.env)).filterMap (·.1) = ks := by rfl) (hdb : (x == ("__debug__" : Str)) = false := by decide)
    (hpl : ((backTo pos (starEach [] X.env)).any (·.1) || (backToKw pos (keywordEach kws X.env)).any (·.1.isNone)) = false := by rfl) :
    PE X (.Call (.Name x p) [] kws pos) (tMakeK C 0 ks.length sp (gP is) E tNil tk) := by
  obtain ⟨fd, F, hb⟩ := G.ok
  exact pe_makeK0 G.mkr F hr hg G.mgC hb hx hkw hall hks hdb hpl
end
end L2.Jk

set_option Elab.async false
set_option linter.all false
set_option maxRecDepth 100000
set_option maxHeartbeats 4000000
/-! The law. -/
namespace L2.K80
open PySem PySem.W PySem.Spec PySem.Calls PyProof.Rows L2.Jk
structure GL (P : Program) (w : World) (K : Frag) (mg : Str → Option Value) (base : Heap) (P1 P2 : Addr) : Prop extends GV P w K mg base where
  law_source : FnAt P w K mg base CX0 1 "_law_source" ["_law_cell"] spSource
  law_made : FnAt P w K mg base CX0 7 "_law_made" ["_law_spec"] (spMd K 2)
  law_some : FnAt P w K mg base CX0 4 "_law_some" ["_law_source_here", "_law_spec"] (spSome 2)
  law_row_word : FnAt P w K mg base CX0 2 "_law_row_word" ["_law_row"] spRwd
  law_bent : FnAt P w K mg base CX0 3 "_law_bent" ["_law_source_here", "_law_word"] spBent
  law_due : FnAt P w K mg base CX0 5 "_law_due" ["_law_specs", "_law_word"] spDue
  law_refused_right : FnAt P w K mg base CX0 11 "_law_refused_right" ["_law_layout", "_law_row", "_law_at"] (spRr K P1 P2)
  maxB : mg "max" = none
def spLaw (K : Frag) (P1 P2 : Addr) : Sp := fun vs H Q _ => ∃ (a : Addr) (ns : List Int), vs = [.ref a] ∧ SqL K H a (ns.map V.int) ∧ ns.length ≤ 63 ∧ LamX.Tabs (TT P1 P2) H ∧ ∀ H', Q (.bl true) H'
theorem idx_lt3 {n i : Nat} (h : i < (if (if (n : Int) < 3 then (n : Int) else 3) > 1 then (if (n : Int) < 3 then (n : Int) else 3) else 1).toNat) : i < n + 1 ∧ i < 3 := by
  split at h <;> split at h <;> omega
theorem seqT_upd {K : Frag} {H : Hp} {L t C dx : Addr} {fs : List (Str × V)} {o : HO} {xs : List V} (hL : H L = some (.ins C dx fs)) (h : SqT K H t xs) : SqT K (upd H L o) t xs := by
  rcases h with (h | ⟨u, h⟩) | h
  · exact .inl (.inl (by rw [upd_ne (ne_of h hL (fun z => by cases z))]; exact h))
  · exact .inl (.inr ⟨u, by rw [upd_ne (ne_of h hL (fun z => by cases z))]; exact h⟩)
  · exact .inr h
/-- what is neither a list nor a dict stays -/
def NL (H H' : Hp) : Prop := ∀ b o, (∀ xs, o ≠ .lst xs) → (∀ kvs, o ≠ .dK kvs) → H b = some o → H' b = some o
theorem NL.of_same {H H' : Hp} (S : Same H H') : NL H H' := fun b o _ _ h => S b o h
theorem NL.trans {H H1 H2 : Hp} (a : NL H H1) (b : NL H1 H2) : NL H H2 := fun c o x y h => b c o x y (a c o x y h)
theorem NL.tup {H H' : Hp} (n : NL H H') {r : Addr} {xs : List V} (h : H r = some (.tup xs)) : H' r = some (.tup xs) := n r _ (fun _ z => by cases z) (fun _ z => by cases z) h
theorem NL.ins {H H' : Hp} (n : NL H H') {r C dx : Addr} {fs : List (Str × V)} (h : H r = some (.ins C dx fs)) : H' r = some (.ins C dx fs) := n r _ (fun _ z => by cases z) (fun _ z => by cases z) h
theorem NL.frz {H H' : Hp} (n : NL H H') {r : Addr} {o : Obj} {u : HO} (h : H r = some (.frz o u)) : H' r = some (.frz o u) := n r _ (fun _ z => by cases z) (fun _ z => by cases z) h
theorem NL.sqT {K : Frag} {H H' : Hp} (n : NL H H') {t : Addr} {xs : List V} (h : SqT K H t xs) : SqT K H' t xs := by
  rcases h with (h | ⟨o, h⟩) | h
  · exact .inl (.inl (n.tup h))
  · exact .inl (.inr ⟨o, n.frz h⟩)
  · exact .inr h
theorem FieldAt.nl {K : Frag} {H H' : Hp} {y : Addr} (n : NL H H') : ∀ {d : PD}, FieldAt K H y d → FieldAt K H' y d
  | .word .., ⟨dx, h⟩ => ⟨dx, n.ins h⟩
  | .number .., ⟨dx, h⟩ => ⟨dx, n.ins h⟩
  | .fixed _, ⟨dx, h⟩ => ⟨dx, n.ins h⟩
  | .listed _, ⟨dx, t, h, ⟨o, c, d, g⟩⟩ => ⟨dx, t, n.ins h, ⟨o, c, d, n.frz g⟩⟩
  | .ended .., ⟨dx, h⟩ => ⟨dx, n.ins h⟩
theorem FdAt.nl {K : Frag} {H H' : Hp} {y : Addr} (n : NL H H') : ∀ {d : FD}, FdAt K H y d → FdAt K H' y d
  | .pl _, ⟨h, i⟩ => ⟨h.nl n, i⟩
  | .mk _ _ _, ⟨⟨dx, z, h, k⟩, i⟩ => ⟨⟨dx, z, n.ins h, k.nl n⟩, i⟩
theorem nl_lst {H : Hp} {p : Addr} {us : List V} {o : HO} (hp : H p = some (.lst us)) : NL H (upd H p o) := fun b u n1 n2 e => by
  rw [upd_ne (fun z => n1 us (by rw [z, hp] at e; exact (Option.some.inj e).symm))]
  exact e
theorem FdAt.putl {K : Frag} {H : Hp} {D r : Addr} {xs : List V} {o : HO} (hD : H D = some (.lst xs)) {d : FD} (h : FdAt K H r d) : FdAt K (upd H D o) r d := h.nl (nl_lst hD)
theorem FsAt.snoc {K : Frag} {H : Hp} {D r : Addr} {ys : List V} {ds : List FD} {d : FD} {xs : List V} {o : HO} (hD : H D = some (.lst xs)) (h : FsAt K H ys ds) (hr : FdAt K H r d) : FsAt K (upd H D o) (ys ++ [.ref r]) (ds ++ [d]) := by
  refine ⟨by rw [List.length_append, List.length_append, h.1]; rfl, fun i v e a b => ?_⟩
  by_cases hi : i < ys.length
  · rw [List.getElem?_append_left hi] at a
    rw [List.getElem?_append_left (by rw [← h.1]; exact hi)] at b
    obtain ⟨y, ev, k⟩ := h.2 i v e a b
    exact ⟨y, ev, k.putl hD⟩
  · rw [List.getElem?_append_right (by omega)] at a
    rw [List.getElem?_append_right (by rw [← h.1]; omega)] at b
    have hz : i - ys.length = 0 := by
      have := (List.getElem?_eq_some_iff.mp a).1
      simp only [List.length_cons, List.length_nil] at this
      omega
    rw [hz] at a
    rw [← h.1, hz] at b
    obtain rfl := Option.some.inj a
    obtain rfl := Option.some.inj b
    exact ⟨r, rfl, hr.putl hD⟩
theorem LXAt.extN {H H' : Hp} {v : V} (e : LamX.ExtN H H') : ∀ {x : LX}, LXAt H v x → LXAt H' v x
  | .lst _, ⟨b, ev, h⟩ => ⟨b, ev, e _ _ h (fun _ z => by cases z)⟩
  | .tup _, ⟨b, ev, o, c, d, g⟩ => ⟨b, ev, o, c, d, e _ _ g (fun _ z => by cases z)⟩
  | .val _, ev => ev
theorem PDAt.extN {s : Addr} {H H' : Hp} {v : V} (e : LamX.ExtN H H') : ∀ {d : PD}, PDAt s H v d → PDAt s H' v d
  | .word .., ⟨b, ev, n, h⟩ => ⟨b, ev, n, e _ _ h (fun _ z => by cases z)⟩
  | .number .., ⟨b, ev, n, h⟩ => ⟨b, ev, n, e _ _ h (fun _ z => by cases z)⟩
  | .fixed _, ⟨b, ev, n, h⟩ => ⟨b, ev, n, e _ _ h (fun _ z => by cases z)⟩
  | .listed _, ⟨b, u, ev, n, h, l, k⟩ => ⟨b, u, ev, n, e _ _ h (fun _ z => by cases z), l.extN e, k⟩
  | .ended .., ⟨b, ev, n, h⟩ => ⟨b, ev, n, e _ _ h (fun _ z => by cases z)⟩
theorem FIn.extN {s : Addr} {H H' : Hp} {v : V} (e : LamX.ExtN H H') : ∀ {d : FD}, FIn s H v d → FIn s H' v d
  | .pl _, h => PDAt.extN e h
  | .mk .., ⟨b, u, ev, n, h, k⟩ => ⟨b, u, ev, n, e _ _ h (fun _ z => by cases z), k.extN e⟩
theorem sps_ext {s0 : Addr} {H H' : Hp} {vs : List V} {ds : List FD} (S : LamX.ExtN H H') (h : SpsAt s0 H vs ds) : SpsAt s0 H' vs ds := ⟨h.1, fun i v d a b => (h.2 i v d a b).extN S⟩

theorem sh_int (z : Int) : SeqAt.shaped (.int z) = true := rfl
theorem kit_IT (K : Frag) : kitAny K (.type "int") [.type "int", .type "tuple"] = some true ∧ kitAny K (.type "tuple") [.type "int", .type "tuple"] = some true := by
  refine ⟨?_, ?_⟩
  · exact kitAny_cons (b := true) (kit_ty (by decide +kernel)) (fun z => nomatch z) (fun _ => rfl)
  · exact kitAny_cons (b := false) (kit_ty (by decide +kernel)) (fun _ => kitAny_cons (b := true) (kit_ty (by decide +kernel)) (fun z => nomatch z) (fun _ => rfl)) (fun z => nomatch z)
theorem lay_at {K : Frag} {J : Hp} {p p2 : Addr} {ys : List V} {ds : List FD} {js : List Str} {Q : VK} {E : XK} {L dx : Addr} (hL : J L = none) (hdx : J dx = none) (e1 : J p = some (.lst ys)) (hF : FsAt K J ys ds) (ok : LyOk ds js)
    (e2 : J p2 = some (.lst (js.map V.str))) (k : ∀ J', Same J J' → LayAt K J' L ds js → Q .non J') : spLay K [.ref L, .ref p, .ref p2] (upd (upd J dx (.own L)) L (.ins (LA K) dx [])) Q E := by
  have S0 : Same J (upd (upd J dx (.own L)) L (.ins (LA K) dx [])) := same_new hL hdx
  refine ⟨L, dx, p, p2, ys, ds, js, rfl, upd_same, S0 _ _ e1, hF.same S0, S0 _ _ e2, ok, fun H' t1 t2 S a b => ?_⟩
  have S1 : Same J (upd H' L (.ins (LA K) dx (fLayout (.ref t1) (.ref t2)))) := same_put (S0.trans S) hL
  have hL' : H' L = some (.ins (LA K) dx []) := S _ _ upd_same
  exact k _ S1 ⟨⟨dx, t1, t2, ys, upd_same, seqT_upd hL' a, hF.same S1, seqT_upd hL' b⟩, ok⟩
section
variable {P : Program} {w : World} {K : Frag} {mg : Str → Option Value} {base : Heap} {f : Addr} {fd : FuncData}

abbrev s_law : Stmt := top 61
theorem sc_law : FnScope ["_law_script", "_law_index", "_law_source_here", "_law_turn", "_law_specs", "_law_signs", "_law_layout", "_law_spec", "_law_row", "_law_word", "_law_k", "_law_told"] ["_law_script"] (defScope s_law) := ⟨rfl, rfl, rfl, by decide +kernel, rfl, by decide +kernel, by decide +kernel⟩

theorem ok_law (F : FunD K "law" "law" (defArgs s_law) (defBody s_law) (defScope s_law) [] [] f fd) {c1 P1 P2 : Addr} (G : GL P w K mg base P1 P2) (hc1 : fd.code = .ref c1) (TB : LamX.TabB base mg c1 P2) (hne : P1 ≠ P2) : FnOk P w K mg base CX0 12 f fd ["_law_script"] (spLaw K P1 P2) := by
  refine FunD.okC (CX := CX0) F hc1 sc_law (fun vs H Q E h => ?_) (fun A outer s H vs Q E hr h => ?_)
  · obtain ⟨_, _, rfl, _⟩ := h
    rfl
  · refine ⟨_, PSs.nox (pss_cons (ps_for PassesOwn.never rfl (pi_range1 (by rfl) G.range (pa_cons (pe_callB (call_max2 rfl) (by rfl) G.maxB (by decide +kernel) (pa_cons pe_int (pa_cons (pe_callB (call_min2 rfl) (by rfl) G.min (by decide +kernel) (pa_cons pe_int (pa_cons (pe_callB call_len_seq (by rfl) G.len (by decide +kernel) (pa_cons (pv 0) pa_nil)) pa_nil))) pa_nil))) pa_nil)) (pg_name (i := 1) sc_law.nd rfl (Or.inl rfl))
      (pss_cons (ps_set (i := 2) sc_law.nd rfl (Or.inr rfl) (pe_fn G.law_source (hr.mono (by decide)) pass0 (by rfl) (pa_cons (pe_ix ix_list (pe_op op_catS (pv 0) (pe_lstS (pa_cons pe_int pa_nil))) (pv 1) (fun _ _ => rfl)) pa_nil)))
      (pss_one (ps_for PassesOwn.never rfl (pi_range1 (by rfl) G.range (pa_cons pe_int pa_nil)) (pg_name (i := 3) sc_law.nd rfl (Or.inl rfl))
        (C8.pss_cut (ps_asg (pe_fn G.law_far_layout (hr.mono (by decide)) pass0 (by rfl) (pa_cons (pv 2) (pa_cons pe_int pa_nil))) (pg_tup rfl (pgs_cons (pg_name (i := 4) sc_law.nd rfl (Or.inl rfl)) (pgs_cons (pg_name (i := 5) sc_law.nd rfl (Or.inl rfl)) pgs_nil))))
        (C8.pss_cut (ps_set (i := 6) sc_law.nd rfl (Or.inr rfl) (pe_newS (E := fun _ => E0) G.kLay (hr.mono (j := 4) (by decide)) (fun σ => fun _ _ _ _ _ _ h => h.elim) (by rfl) (pa_cons (pe_lc (own := [("_law_spec", 7)]) (g := gName 7) (tt := tYes) rfl sc_law.nd (pi_list (pv 4)) (blkOk_by (N := ["_law_script", "_law_index", "_law_source_here", "_law_turn", "_law_specs", "_law_signs", "_law_layout", "_law_spec", "_law_row", "_law_word", "_law_k", "_law_told"]) (sc := defScope s_law) (by decide +kernel)) (fun _ _ _ _ _ => pg_name (i := 7) sc_law.nd rfl (Or.inl rfl)) (fun _ _ _ _ _ => pts_nil) (fun _ _ _ _ _ => (pe_fn G.law_made (hr.mono (by decide)) pass0 (by rfl) (pa_cons (pv 7) pa_nil)))) (pa_cons (pv 5) pa_nil))))
        (C8.pss_cut (ps_set (i := 8) sc_law.nd rfl (Or.inl rfl) (pe_callTy call_tuple_of (by rfl) G.tuple (by decide +kernel) (pa_cons (pe_lc (own := [("_law_spec", 7)]) (g := gName 7) (tt := tYes) rfl sc_law.nd (pi_list (pv 4)) (blkOk_by (N := ["_law_script", "_law_index", "_law_source_here", "_law_turn", "_law_specs", "_law_signs", "_law_layout", "_law_spec", "_law_row", "_law_word", "_law_k", "_law_told"]) (sc := defScope s_law) (by decide +kernel)) (fun _ _ _ _ _ => pg_name (i := 7) sc_law.nd rfl (Or.inl rfl)) (fun _ _ _ _ _ => pts_nil) (fun _ _ _ _ _ => (pe_fn G.law_some (hr.mono (by decide)) pass0 (by rfl) (pa_cons (pv 2) (pa_cons (pv 7) pa_nil))))) pa_nil)))
        (C8.pss_cut (ps_set (i := 9) sc_law.nd rfl (Or.inr rfl) (pe_fn G.law_row_word (hr.mono (by decide)) pass0 (by rfl) (pa_cons (pv 8) pa_nil)))
        (C8.pss_cut (ps_if (PW.pt (pw_or (pt_cmpR op_ne (pe_fnS G.row_word (hr.mono (by decide)) (fun σ => passAt takes0 σ) (by rfl) (pa_cons (pv 6) (pa_cons (pv 8) pa_nil))) (pv 9) (nomark _)) (pw_or (pt_cmpR op_ne (pe_fnS G.row_word (hr.mono (by decide)) (fun σ => passAt takes0 σ) (by rfl) (pa_cons (pv 6) (pa_cons (pe_callTy call_list_of (by rfl) G.list (by decide +kernel) (pa_cons (pv 8) pa_nil)) pa_nil))) (pv 9) (nomark _)) (pw_or1 (pt_cmpR (op_neD hr.units) (pe_fnS G.read_row (hr.mono (by decide)) (fun σ => passAt takes0 σ) (by rfl) (pa_cons (pv 6) (pa_cons (pv 9) pa_nil))) (pv 8) (nomark _))))))
          (pss_one (ps_ret pe_bl))
          pss_nil)
        (C8.pss_cut (ps_for PassesOwn.never rfl (pi_range1 (by rfl) G.range (pa_cons (pe_op op_add pe_int (pe_fn G.law_draw (hr.mono (by decide)) pass0 (by rfl) (pa_cons (pv 2) (pa_cons pe_int pa_nil)))) pa_nil)) (pg_name (i := 10) sc_law.nd rfl (Or.inl rfl))
          (C8.pss_cut (ps_set (i := 9) sc_law.nd rfl (Or.inr rfl) (pe_fn G.law_bent (hr.mono (by decide)) pass0 (by rfl) (pa_cons (pv 2) (pa_cons (pv 9) pa_nil))))
          (C8.pss_cut (ps_set (i := 11) sc_law.nd rfl (Or.inl rfl) (pe_said (T := TT P1 P2) (k := 8) G.said G.nr G.mgJ G.exm (by rfl) TB rfl (tt2 rfl) (tu2 hne rfl) (hr.mono (by decide)) (LamX.lamS_by (by show LamX.lamSB (defScope s_law) _ = true; decide +kernel)) rfl (fun _ _ _ _ _ => rfl) (fun A outer s H E f c' hr2 => pe_fnS G.read_row (hr2.mono (by decide)) (fun σ => passAt (takes_of rfl rfl rfl rfl) σ) (by rfl) (pa_cons (pv 6) (pa_cons (pv 9) pa_nil)))))
          (pss_one (ps_if (PW.pt (pw_or (pt_cmpR (op_neD hr.units) (pv 11) (pe_fn G.law_due (hr.mono (by decide)) pass0 (by rfl) (pa_cons (pv 4) (pa_cons (pv 9) pa_nil))) (nomark _)) (pw_or1 (pt_not (pt_val (pe_callB call_ieT (by rfl) G.isinstance (by decide +kernel) (pa_cons (pv 11) (pa_cons (pe_tupS (pa_cons (pe_bty (n := "int") (by rfl) G.int (by decide +kernel)) (pa_cons (pe_bty (n := "tuple") (by rfl) G.tuple (by decide +kernel)) pa_nil))) pa_nil))))))))
            (pss_one (ps_ret pe_bl))
            pss_nil)))))
        (pss_one (ps_if (pt_not (pt_val (pe_fn G.law_refused_right (hr.mono (by decide)) pass0 (by rfl) (pa_cons (pv 6) (pa_cons (pv 8) (pa_cons (pe_fn G.law_draw (hr.mono (by decide)) pass0 (by rfl) (pa_cons (pv 2) (pa_cons (pe_callB call_len_seq (by rfl) G.len (by decide +kernel) (pa_cons (pv 8) pa_nil)) pa_nil))) pa_nil))))))
          (pss_one (ps_ret pe_bl))
          pss_nil))))))))))))
    (pss_one (ps_ret pe_bl))), ?_⟩
    obtain ⟨a, ns, rfl, hS, hl, hT0, k⟩ := h
    have eN : ∀ {xs : List V} (ps : Array Value), HO.tup xs ≠ .tbl ps := fun _ z => by cases z
    have eL : ∀ {xs : List V} (ps : Array Value), HO.lst xs ≠ .tbl ps := fun _ z => by cases z
    refine ⟨_, rfl, a, _, rfl, .inl hS, _, _, rfl, _, _, rfl, _, rfl, ?_, ?_, ?_⟩
    · split <;> split <;> omega
    · rw [List.length_map]
      split <;> split <;> omega
    refine for_range (lo := 0) (fun i σ J => ∃ v1 v2 v3 v4 v5 v6 v7 v8 v9 v10 v11, σ = [some (.ref a), v1, v2, v3, v4, v5, v6, v7, v8, v9, v10, v11] ∧ LamX.ExtN H J ∧ LamX.Tabs (TT P1 P2) J) ⟨_, _, _, _, _, _, _, _, _, _, _, rfl, LamX.ExtN.refl _, hT0⟩ ?_ ?_
    · rintro i σ H1 hi ⟨v1, v2, v3, v4, v5, v6, v7, v8, v9, v10, v11, rfl, X1, hT1⟩
      rw [List.length_map] at hi
      obtain ⟨hi1, hi3⟩ := idx_lt3 hi
      rw [Int.zero_add]
      obtain ⟨c, hc⟩ : ∃ c : Int, (ns.map V.int ++ [V.int 0])[i]? = some (.int c) := by
        obtain ⟨c, z⟩ : ∃ c, (ns ++ [(0 : Int)])[i]? = some c := ⟨_, List.getElem?_eq_getElem (by rw [List.length_append]; exact hi1)⟩
        refine ⟨c, ?_⟩
        have e : ns.map V.int ++ [V.int 0] = (ns ++ [(0 : Int)]).map V.int := by rw [List.map_append]; rfl
        rw [e, List.getElem?_map, z]
        rfl
      have hS1 := seqL_extN X1 hS
      refine ⟨_, rfl, by show 1 ≤ 1000; decide, fun p0 H0 hp0 S0 e0 => ⟨a, p0, _, _, rfl, rfl, S0.seq hS1, SqL.of e0, by rw [List.length_map, sizeLine_eq]; show ns.length + 1 ≤ 16777216; omega, fun p1 H2 hp1 S2 e1 => ⟨_, rfl, p1, _, _, _, rfl, rfl, SqL.of e1, atI_nat (j := i) hc, c, rfl, fun sa H4 hsa S4 st4 => ?_⟩⟩⟩
      have S14 := (S0.trans S2).trans S4
      have hsa1 : H1 sa = none := none_of (S0.trans S2) hsa
      refine ⟨6, rfl, by decide, by decide, for_range (n := 6) (fun j σ J => ∃ v3 v4 v5 v6 v7 v8 v9 v10 v11, σ = [some (.ref a), some (.int (i : Nat)), some (.ref sa), v3, v4, v5, v6, v7, v8, v9, v10, v11] ∧ StAt J sa ∧ ButN sa H1 J ∧ LamX.Tabs (TT P1 P2) J) ⟨_, _, _, _, _, _, _, _, _, rfl, st4, ButN.of_but (But.of_same S14), tabs_same S14 hT1⟩ ?_ ?_⟩
      · rintro j σ J hj ⟨v3, v4, v5, v6, v7, v8, v9, v10, v11, rfl, stJ, BJ, TJ⟩
        rw [Int.zero_add]
        have tb : ∀ {Ja Jb : Hp}, StAt Ja sa → But sa Ja Jb → LamX.Tabs (TT P1 P2) Ja → LamX.Tabs (TT P1 P2) Jb := fun s b t => by
          obtain ⟨la, hla⟩ := s.at
          exact tabs_but hla b t
        -- fields and joints
        refine ⟨fun σ J => ∃ (ps pj : Addr) (vsp : List V) (ds : List FD) (js : List Str), σ = [some (.ref a), some (.int (i : Nat)), some (.ref sa), some (.int (j : Nat)), some (.ref ps), some (.ref pj), v6, v7, v8, v9, v10, v11] ∧ FlAt sa J ps pj vsp ds js ∧ StAt J sa ∧ ButN sa H1 J ∧ LamX.Tabs (TT P1 P2) J, ?_, ?_⟩
        · refine ⟨_, rfl, sa, rfl, stJ, fun T ps pj vsp ds js J1 nT eT hF B1 st1 => ?_⟩
          exact ⟨T, _, rfl, SqT.of eT, rfl, _, _, rfl, _, _, rfl, rfl, ps, pj, vsp, ds, js, rfl, hF, st1, BJ.trans (ButN.of_but B1), tb stJ B1 TJ⟩
        rintro σ J1 ⟨ps, pj, vsp, ds, js, rfl, hF, st1, B1, T1⟩
        have hvl := hF.sps.1
        have hgd : ∀ d ∈ ds, d.good := fun d hd => (hF.dr d hd).wk.2
        -- the layout
        refine ⟨fun σ J => ∃ (L : Addr), σ = [some (.ref a), some (.int (i : Nat)), some (.ref sa), some (.int (j : Nat)), some (.ref ps), some (.ref pj), some (.ref L), v7, v8, v9, v10, v11] ∧ LayAt K J L ds js ∧ FlAt sa J ps pj vsp ds js ∧ StAt J sa ∧ ButN sa H1 J ∧ LamX.Tabs (TT P1 P2) J, ?_, ?_⟩
        · refine ⟨_, rfl, ps, rfl, ⟨_, SqL.of hF.eps⟩, fun D hD => ?_⟩
          refine lc_list (K := K) (a := ps) (xs := vsp) (fun n J3 => ∃ ys, Same J1 J3 ∧ J3 D = some (.lst ys) ∧ FsAt K J3 ys (ds.take n)) ⟨[], same_upd hD, upd_same, rfl, fun i v d a => by cases a⟩ (fun i J3 hi ⟨_, S3, _⟩ => S3.seq (SqL.of hF.eps)) ?_ ?_
          · rintro m v J3 hv ⟨ys, S3, eD, hFs⟩
            obtain ⟨e, he, hFe⟩ := hF.sps.get hv
            have hm := hgd e (List.mem_of_getElem? he)
            have hyl := hFs.1
            have hmi := (List.getElem?_eq_some_iff.mp he).1
            have hfw := hF.few
            rw [List.length_take] at hyl
            refine ⟨rfl, _, rfl, sa, v, e, rfl, hFe.same S3, hm, e.dep_lt, fun r J4 S4 hr => ⟨ys, S4 _ _ eD, by rw [sizeLine_eq]; omega, ys ++ [.ref r], same_put (S3.trans S4) hD, upd_same, ?_⟩⟩
            rw [List.take_add_one, he]
            exact (hFs.same S4).snoc (S4 _ _ eD) hr
          · rintro J3 ⟨ys, S3, eD, hFs⟩
            rw [hvl, List.take_length] at hFs
            refine ⟨_, rfl, fun L dx hL hdx ne => ?_⟩
            exact lay_at hL hdx eD hFs ⟨by have := hF.few; omega, hF.ne, hF.len, hF.jn⟩ (S3 _ _ hF.epj) fun J' S4 h => ⟨rfl, L, rfl, h, hF.same (S3.trans S4), st1.same (S3.trans S4), B1.trans (ButN.of_but (But.of_same (S3.trans S4))), tabs_same (S3.trans S4) T1⟩
        rintro σ J2 ⟨L, rfl, hLy, hF, st2, B2, T2⟩
        -- the row
        refine ⟨fun σ J => ∃ (r : Addr) (xs : List V), σ = [some (.ref a), some (.int (i : Nat)), some (.ref sa), some (.int (j : Nat)), some (.ref ps), some (.ref pj), some (.ref L), v7, some (.ref r), v9, v10, v11] ∧ r ≠ sa ∧ J r = some (.tup xs) ∧ RwV ds xs ∧ LayAt K J L ds js ∧ FlAt sa J ps pj vsp ds js ∧ StAt J sa ∧ ButN sa H1 J ∧ LamX.Tabs (TT P1 P2) J, ?_, ?_⟩
        · refine ⟨_, rfl, ps, rfl, ⟨_, SqL.of hF.eps⟩, fun D hD => ?_⟩
          have nD : D ≠ sa := st2.ne hD
          refine lc_list (K := K) (a := ps) (xs := vsp) (fun n J3 => ∃ xs : List V, J3 D = some (.lst xs) ∧ xs.length = n ∧ (∀ (q : Nat) (d : FD) (x : V), ds[q]? = some d → xs[q]? = some x → VvF d x) ∧ But sa J2 J3 ∧ StAt J3 sa) ⟨[], upd_same, rfl, (fun q d x _ h => by cases h), but_put (But.refl _ _) hD, st2.put nD⟩ (fun i J3 hi ⟨_, _, _, _, B3, _⟩ => SqL.of (B3 _ _ hF.nps hF.eps)) ?_ ?_
          · rintro m v J3 hv ⟨xs, eD, hxl, hxs, B3, st3⟩
            obtain ⟨e, he, hFe⟩ := hF.sps.get hv
            have hmi := (List.getElem?_eq_some_iff.mp he).1
            have hfw := hF.few
            refine ⟨rfl, _, rfl, _, rfl, sa, v, e, rfl, st3, hFe.but B3, hF.dr e (List.mem_of_getElem? he), e.dep_lt, fun x J4 hx B4 st4 => ⟨xs, B4 _ _ nD eD, by rw [sizeLine_eq]; omega, xs ++ [x], upd_same, by rw [List.length_append, hxl]; rfl, fun q d y h1 h2 => ?_, but_put (B3.trans B4) hD, st4.put nD⟩⟩
            rcases Nat.lt_trichotomy q xs.length with h | h | h
            · rw [List.getElem?_append_left h] at h2
              exact hxs q d y h1 h2
            · rw [h, hxl, he] at h1
              rw [h, List.getElem?_append_right (Nat.le_refl _), Nat.sub_self] at h2
              obtain rfl := Option.some.inj h1
              have h2 : some x = some y := h2
              obtain rfl := Option.some.inj h2
              exact hx
            · rw [List.getElem?_eq_none (by rw [List.length_append]; show xs.length + 1 ≤ q; omega)] at h2
              cases h2
          · rintro J3 ⟨xs, eD, hxl, hxs, B3, st3⟩
            refine ⟨D, xs, rfl, .inl ⟨SqL.of eD, fun l hl => ?_⟩⟩
            have nl := st3.ne hl
            have S3 : Same J3 (upd J3 l (.tup xs)) := same_upd hl
            have B23 : But sa J2 (upd J3 l (.tup xs)) := B3.trans (But.of_same S3)
            exact ⟨l, xs, rfl, nl, upd_same, ⟨by omega, hxs⟩, hLy.but st2 B23, hF.but B23, st3.same S3, B2.trans (ButN.of_but B23), tb st2 B23 T2⟩
        rintro σ J3 ⟨r, xs, rfl, nr, er, hR, hLy, hF, st3, B3, T3⟩
        have hD := hF.dr
        have hxl := hR.len
        have hfw := hF.few
        have vwo : ∀ x ∈ xs, VwOk x := fun x hx => by
          obtain ⟨d, g⟩ := hR.each hD x hx
          exact g.vwo
        have hfl : ∀ x ∈ xs, flatV x = true ∧ lenV x ≤ 900 := fun x hx => by
          obtain ⟨d, g⟩ := hR.each hD x hx
          exact g.flat
        have rin : ∀ Hx : Hp, RowIn Hx (some xs) := fun Hx => ⟨by omega, fun x hx => ⟨.inl (hfl x hx).1, (hfl x hx).2⟩⟩
        have due := hR.due hD
        have wd0 := hR.wd hD hF.ne hF.few
        obtain ⟨rd1, rd2⟩ := hR.read hD
        obtain ⟨la1, la2, la3⟩ := lay_all xs (hR.lay hD)
        have shx := sh_tup (hR.lay hD)
        -- its word
        refine ⟨fun σ J => σ = [some (.ref a), some (.int (i : Nat)), some (.ref sa), some (.int (j : Nat)), some (.ref ps), some (.ref pj), some (.ref L), v7, some (.ref r), some (.str (rowT xs)), v10, v11] ∧ Same J3 J, ⟨_, rfl, r, xs, rfl, er, vwo, by omega, fun J' S => ⟨rfl, S⟩⟩, ?_⟩
        rintro σ J4 ⟨rfl, S34⟩
        have tt : (!decide (V.str (rowT xs) = V.str (rowT xs))) = false := by rw [decide_eq_true rfl]; rfl
        refine ⟨fun σ J => σ = [some (.ref a), some (.int (i : Nat)), some (.ref sa), some (.int (j : Nat)), some (.ref ps), some (.ref pj), some (.ref L), v7, some (.ref r), some (.str (rowT xs)), v10, v11] ∧ Same J3 J, ?_, ?_⟩
        · refine ⟨_, rfl, _, rfl, L, ds, js, _, some xs, rfl, hLy.same S34, .tup (S34 _ _ er), rin _, fun _ xs' e => ?_, fun z hz => (by rw [due] at hz; cases hz)⟩
          obtain rfl := Option.some.inj e
          refine ⟨vwo, by omega, fun J5 S5 => ⟨_, rfl, rfl, _, rfl, ?_⟩⟩
          rw [tt]
          have S35 := S34.trans S5
          refine iteF ⟨_, rfl, _, rfl, r, xs, rfl, .inr (SqT.of (S35 _ _ er)), fun l hl => ?_⟩
          have S36 := S35.trans (same_upd (o := .lst xs) hl)
          refine ⟨L, ds, js, _, some xs, rfl, hLy.same S36, .lst upd_same, rin _, fun _ xs' e => ?_, fun z hz => (by rw [due] at hz; cases hz)⟩
          obtain rfl := Option.some.inj e
          refine ⟨vwo, by omega, fun J7 S7 => ⟨_, rfl, rfl, _, rfl, ?_⟩⟩
          rw [tt]
          have S37 := S36.trans S7
          refine iteF ⟨_, rfl, _, rfl, L, ds, js, _, rfl, hLy.same S37, .inl rfl, fun t e => ?_, fun h => absurd rfl (h _)⟩
          injection e with e
          subst e
          refine ⟨xs.map vw, (wd0.psOk (by decide) (by decide)).1, fun _ rr J8 S8 e8 => ?_, fun z hz => (by rw [rd1] at hz; cases hz)⟩
          rw [rd2] at e8
          have S38 := S37.trans S8
          refine ⟨_, rfl, _, _, .tup (SqT.of e8) (dpAll_flat la1), .tup (SqT.of (S38 _ _ er)) (dpAll_flat la1), shx, shx, _, rfl, ?_⟩
          rw [eqv_same shx]
          exact iteF ⟨rfl, S38⟩
        rintro σ J5 ⟨rfl, S35⟩
        have st5 := st3.same S35
        -- words with a change
        have Lk : ∀ q : Nat, q < 3 → 9 * 2 ^ q - 1 ≤ 64 ∧ 1 ≤ 9 * 2 ^ q - 1 ∧ 2 * (9 * 2 ^ q - 1) + 1 = 9 * 2 ^ (q + 1) - 1 := fun q hq => by
          match q, hq with
          | 0, _ => decide
          | 1, _ => decide
          | 2, _ => decide
        refine ⟨fun σ J => ∃ v9 v10 v11, σ = [some (.ref a), some (.int (i : Nat)), some (.ref sa), some (.int (j : Nat)), some (.ref ps), some (.ref pj), some (.ref L), v7, some (.ref r), v9, v10, v11] ∧ J r = some (.tup xs) ∧ LayAt K J L ds js ∧ StAt J sa ∧ ButN sa H1 J ∧ LamX.Tabs (TT P1 P2) J, ?_, ?_⟩
        · refine ⟨_, rfl, sa, 3, rfl, st5, by decide, by decide, fun d1 J6 h01 h11 B6 st6 => ⟨_, _, rfl, rfl, 1 + d1, rfl, by omega, by omega, ?_⟩⟩
          have B36 : But sa J3 J6 := (But.of_same S35).trans B6
          refine for_range (lo := 0) (n := (1 + d1).toNat) (fun q σ J => ∃ v10 v11 qs, σ = [some (.ref a), some (.int (i : Nat)), some (.ref sa), some (.int (j : Nat)), some (.ref ps), some (.ref pj), some (.ref L), v7, some (.ref r), some (.str (Txt.join "," qs)), v10, v11] ∧ WdL (9 * 2 ^ q - 1) (30 + q) qs ∧ J r = some (.tup xs) ∧ LayAt K J L ds js ∧ J ps = some (.lst vsp) ∧ SpsAt sa J vsp ds ∧ StAt J sa ∧ ButN sa H1 J ∧ LamX.Tabs (TT P1 P2) J) ⟨_, _, xs.map vw, rfl, wd0, B36 _ _ nr er, hLy.but st3 B36, B36 _ _ hF.nps hF.eps, hF.sps.but B36, st6, B3.trans (ButN.of_but B36), tb st3 B36 T3⟩ ?_ ?_
          · rintro q σ J7 hq ⟨v10, v11, qs, rfl, wd, er7, hL7, ep7, sp7, st7, B7, T7⟩
            have hq3 : q < 3 := by omega
            obtain ⟨k1, k2, k3⟩ := Lk q hq3
            refine ⟨fun σ J => ∃ v10 v11 qs, σ = [some (.ref a), some (.int (i : Nat)), some (.ref sa), some (.int (j : Nat)), some (.ref ps), some (.ref pj), some (.ref L), v7, some (.ref r), some (.str (Txt.join "," qs)), v10, v11] ∧ WdL (9 * 2 ^ (q + 1) - 1) (30 + (q + 1)) qs ∧ J r = some (.tup xs) ∧ LayAt K J L ds js ∧ J ps = some (.lst vsp) ∧ SpsAt sa J vsp ds ∧ StAt J sa ∧ ButN sa H1 J ∧ LamX.Tabs (TT P1 P2) J, ?_, ?_⟩
            · refine ⟨_, rfl, _, rfl, sa, _, qs, 9 * 2 ^ q - 1, 30 + q, rfl, st7, rfl, wd, k2, k1, by omega, by omega, fun qs' J8 wd' B8 st8 => ?_⟩
              rw [k3] at wd'
              exact ⟨_, _, qs', rfl, wd', B8 _ _ nr er7, hL7.but st7 B8, B8 _ _ hF.nps ep7, sp7.but B8, st8, B7.trans (ButN.of_but B8), tb st7 B8 T7⟩
            clear wd er7 hL7 ep7 sp7 st7 B7 T7 J7 qs v10 v11
            rintro σ J7 ⟨v10, v11, qs, rfl, wd, er7, hL7, ep7, sp7, st7, B7, T7⟩
            have wl : 9 * 2 ^ (q + 1) - 1 ≤ 200 := by omega
            obtain ⟨ok, a8⟩ := wd.psOk wl (by omega)
            have shr := sh_tup (rv_lay (ds := ds) a8)
            obtain ⟨ra1, ra2, ra3⟩ := lay_all _ (rv_lay (ds := ds) a8)
            refine ⟨fun σ J => ∃ v, σ = [some (.ref a), some (.int (i : Nat)), some (.ref sa), some (.int (j : Nat)), some (.ref ps), some (.ref pj), some (.ref L), v7, some (.ref r), some (.str (Txt.join "," qs)), v10, some v] ∧ ((rdDue ds qs = none ∧ ∃ rr, v = .ref rr ∧ J rr = some (.tup (rvVals ds qs))) ∨ ∃ z : Nat, rdDue ds qs = some z ∧ v = .int (z : Nat)) ∧ J r = some (.tup xs) ∧ LayAt K J L ds js ∧ J ps = some (.lst vsp) ∧ SpsAt sa J vsp ds ∧ StAt J sa ∧ ButN sa H1 J ∧ LamX.Tabs (TT P1 P2) J, ?_, ?_⟩
            · refine ⟨T7, fun F1 x1 u1 => ⟨_, rfl, _, rfl, L, ds, js, _, rfl, hL7.extN x1, .inl rfl, fun t e => ?_, fun h => absurd rfl (h _)⟩⟩
              injection e with e
              subst e
              have fin : ∀ (v : V) (J8 : Hp), Same F1 J8 → ((rdDue ds qs = none ∧ ∃ rr, v = .ref rr ∧ J8 rr = some (.tup (rvVals ds qs))) ∨ ∃ z : Nat, rdDue ds qs = some z ∧ v = .int (z : Nat)) → ∃ v0, [some (.ref a), some (.int (i : Nat)), some (.ref sa), some (.int (j : Nat)), some (.ref ps), some (.ref pj), some (.ref L), v7, some (.ref r), some (.str (Txt.join "," qs)), v10, some v] = [some (.ref a), some (.int (i : Nat)), some (.ref sa), some (.int (j : Nat)), some (.ref ps), some (.ref pj), some (.ref L), v7, some (.ref r), some (.str (Txt.join "," qs)), v10, some v0] ∧ ((rdDue ds qs = none ∧ ∃ rr, v0 = .ref rr ∧ J8 rr = some (.tup (rvVals ds qs))) ∨ ∃ z : Nat, rdDue ds qs = some z ∧ v0 = .int (z : Nat)) ∧ J8 r = some (.tup xs) ∧ LayAt K J8 L ds js ∧ J8 ps = some (.lst vsp) ∧ SpsAt sa J8 vsp ds ∧ StAt J8 sa ∧ ButN sa H1 J8 ∧ LamX.Tabs (TT P1 P2) J8 := fun v J8 S8 h =>
                ⟨v, rfl, h, S8 _ _ (x1 _ _ er7 eN), (hL7.extN x1).same S8, S8 _ _ (x1 _ _ ep7 eL), (sps_ext x1 sp7).same S8, (st7.extN x1).same S8, (B7.trans (ButN.of_ext x1)).trans (ButN.of_but (But.of_same S8)), tabs_same S8 u1⟩
              refine ⟨qs, ok, fun hd rr J8 S8 e8 => fin (.ref rr) J8 S8 (.inl ⟨hd, rr, rfl, e8⟩), fun z hz d1 K1 hd1 s1 m1 => ⟨rfl, d1, _, rfl, m1, fin (.int (z : Nat)) K1 s1 (.inr ⟨z, hz, rfl⟩)⟩⟩
            rintro σ J8 ⟨v, rfl, hv, er8, hL8, ep8, sp8, st8, B8, T8⟩
            have nxt : ∀ (v : V) (J9 : Hp), Same J8 J9 → StAt J9 sa ∧ J9 r = some (.tup xs) ∧ LayAt K J9 L ds js ∧ J9 ps = some (.lst vsp) ∧ SpsAt sa J9 vsp ds ∧ ButN sa H1 J9 ∧ LamX.Tabs (TT P1 P2) J9 := fun _ J9 S9 =>
              ⟨st8.same S9, S9 _ _ er8, hL8.same S9, S9 _ _ ep8, sp8.same S9, B8.trans (ButN.of_but (But.of_same S9)), tabs_same S9 T8⟩
            refine ⟨_, rfl, _, rfl, _, rfl, sa, ps, vsp, ds, _, qs, rfl, ep8, sp8, hD, hfw, ok, a8, fun z hz J9 S9 => ?_, fun hn r9 J9 S9 h9 e9 => ?_⟩
            · rcases hv with ⟨hn, _⟩ | ⟨z2, hz2, rfl⟩
              · rw [hn] at hz; cases hz
              · obtain rfl := Option.some.inj (hz2.symm.trans hz)
                refine ⟨_, _, .int _, .int _, sh_int _, sh_int _, _, rfl, ?_⟩
                rw [eqv_same (sh_int _)]
                refine iteF ⟨_, rfl, by show 2 ≤ 1000; decide, fun p0 J10 hp0 S10 e0 => ⟨_, p0, _, _, _, true, rfl, e0, .cons (.ty _) (.cons (.ty _) Paired.nil), .x (.base (.int _)), (kit_IT K).1, _, rfl, ?_⟩⟩
                obtain ⟨n1, n2, n3, n4, n5, n6, n7⟩ := nxt (.int 0) J10 (S9.trans S10)
                exact iteF ⟨_, _, qs, rfl, wd, n2, n3, n4, n5, n1, n6, n7⟩
            · rcases hv with ⟨_, rr, rfl, e8⟩ | ⟨z2, hz2, rfl⟩
              · refine ⟨_, _, .tup (SqT.of (S9 _ _ e8)) (dpAll_flat ra1), .tup (SqT.of e9) (dpAll_flat ra1), shr, shr, _, rfl, ?_⟩
                rw [eqv_same shr]
                refine iteF ⟨_, rfl, by show 2 ≤ 1000; decide, fun p0 J10 hp0 S10 e0 => ⟨_, p0, _, _, _, true, rfl, e0, .cons (.ty _) (.cons (.ty _) Paired.nil), .x (.base (.tup (S10 _ _ (S9 _ _ e8)))), (kit_IT K).2, _, rfl, ?_⟩⟩
                obtain ⟨n1, n2, n3, n4, n5, n6, n7⟩ := nxt (.int 0) J10 (S9.trans S10)
                exact iteF ⟨_, _, qs, rfl, wd, n2, n3, n4, n5, n1, n6, n7⟩
              · rw [hn] at hz2; cases hz2
          · rintro σ J7 ⟨v10, v11, qs, rfl, wd, er7, hL7, ep7, sp7, st7, B7, T7⟩
            exact ⟨_, _, _, rfl, er7, hL7, st7, B7, T7⟩
        rintro σ J6 ⟨v9, v10, v11, rfl, er6, hL6, st6, B6, T6⟩
        -- what is refused
        refine ⟨_, rfl, _, rfl, _, rfl, _, rfl, r, xs, rfl, .inr (SqT.of er6), sa, _, rfl, st6, by have := List.length_pos_iff.mpr hF.ne; omega, by omega, fun kk J7 h0 h1 B7 st7 => ?_⟩
        obtain ⟨kn, rfl⟩ : ∃ kn : Nat, kk = (kn : Int) := ⟨kk.toNat, by omega⟩
        have hk : kn < xs.length := by omega
        refine ⟨L, r, ds, js, xs, kn, rfl, hL6.but st6 B7, B7 _ _ nr er6, hk, by omega, hfl, hR.due1 hD hk, hR.due2 hD hk, hR.due3 hD, tb st6 B7 T6, fun J8 X8 T8 => ⟨_, rfl, ?_⟩⟩
        exact iteF ⟨_, _, _, _, _, _, _, _, _, rfl, st7.extN X8, (B6.trans (ButN.of_but B7)).trans (ButN.of_ext X8), T8⟩
      · rintro σ J ⟨v3, v4, v5, v6, v7, v8, v9, v10, v11, rfl, stJ, BJ, TJ⟩
        exact ⟨_, _, _, _, _, _, _, _, _, _, _, rfl, X1.trans (fun b o e n => BJ b o (ne_of_none e hsa1) e n), TJ⟩
    · rintro σ J ⟨v1, v2, v3, v4, v5, v6, v7, v8, v9, v10, v11, rfl, XJ, TJ⟩
      exact k J

end
end L2.K80

set_option Elab.async false
set_option linter.all false
set_option maxRecDepth 100000
set_option maxHeartbeats 4000000
namespace L2.K80
open PySem PySem.W PySem.Spec PySem.Calls PyProof.Rows L2.Jk

theorem facts {P : Program} {w : World} {K : Frag} {h : Heap} {mg : Str → Option Value} {base : Heap} (X : K.In h) (G : h.Ns mainGlobals mg) (c : He.SaysD fa fn K) (m : ex K = true) (TB : LamX.TabB base mg (He.cT K ("_law_refused_right", none)).1 (He.cT K ("_law_refused_right", none)).2) :
    GL P w K mg base (He.cT K ("_law_refused_right", none)).2 (He.cT K ("law", none)).2 ∧ (He.cT K ("_law_refused_right", none)).2 ≠ (He.cT K ("law", none)).2 := by
  obtain ⟨mP, m⟩ := Bool.and_eq_true_iff.mp m
  have hne := of_decide_eq_true mP
  obtain ⟨mT, m⟩ := Bool.and_eq_true_iff.mp m
  obtain ⟨w1, mT⟩ := Bool.and_eq_true_iff.mp mT
  obtain ⟨w2, mT⟩ := Bool.and_eq_true_iff.mp mT
  obtain ⟨w3, w4⟩ := Bool.and_eq_true_iff.mp mT
  obtain ⟨mN, m⟩ := Bool.and_eq_true_iff.mp m
  obtain ⟨y1, mN⟩ := Bool.and_eq_true_iff.mp mN
  obtain ⟨y2, mN⟩ := Bool.and_eq_true_iff.mp mN
  obtain ⟨y3, y4⟩ := Bool.and_eq_true_iff.mp mN
  obtain ⟨m, m1⟩ := Bool.and_eq_true_iff.mp m
  obtain ⟨m0, m7⟩ := Bool.and_eq_true_iff.mp m
  obtain ⟨z1, m0⟩ := Bool.and_eq_true_iff.mp m0
  obtain ⟨z2, m0⟩ := Bool.and_eq_true_iff.mp m0
  obtain ⟨z3, m0⟩ := Bool.and_eq_true_iff.mp m0
  obtain ⟨z4, m0⟩ := Bool.and_eq_true_iff.mp m0
  obtain ⟨z5, z6⟩ := Bool.and_eq_true_iff.mp m0
  have more7 : ∀ i, i < 7 → KC K (ca K i) ∧ (∀ T ∈ (["NoneType", "tuple", "list"] : List String), subIn K (.ref (ca K i)) (.type T) = some false) ∧ ∀ j, j < 7 → notFirst K (ca K i) (.ref (ca K j)) = true ∧ (ca K i = ca K j ↔ i = j) := fun i hi => by
    have y := List.all_eq_true.mp m7 i (List.mem_range.mpr hi)
    obtain ⟨y1, y⟩ := Bool.and_eq_true_iff.mp y
    obtain ⟨y2, y⟩ := Bool.and_eq_true_iff.mp y
    obtain ⟨y3, y4⟩ := Bool.and_eq_true_iff.mp y
    obtain ⟨x1, y1⟩ := Bool.and_eq_true_iff.mp y1
    obtain ⟨x2, y1⟩ := Bool.and_eq_true_iff.mp y1
    obtain ⟨x3, y1⟩ := Bool.and_eq_true_iff.mp y1
    obtain ⟨x4, x5⟩ := Bool.and_eq_true_iff.mp y1
    refine ⟨⟨He.eqO_ok x1, of_decide_eq_true x2, x3, eqcB_ok x4, x5⟩, fun T hT => of_decide_eq_true (List.all_eq_true.mp y2 T hT), fun j hj => ?_⟩
    obtain ⟨w1, w2⟩ := Bool.and_eq_true_iff.mp (List.all_eq_true.mp y4 j (List.mem_range.mpr hj))
    exact ⟨w1, of_decide_eq_true w2⟩
  have more : ∀ i, i < 6 → (∀ T ∈ (["NoneType", "str", "int", "bool", "tuple", "list"] : List String), kitOne K (.type T) (.ref (ca K i)) = some false) ∧ kitOne K (.ref (ca K i)) (.type "str") = some false ∧ ∀ j, j < 6 → kitOne K (.ref (ca K i)) (.ref (ca K j)) = some (decide (i = j)) := fun i hi => by
    have y := List.all_eq_true.mp m1 i (List.mem_range.mpr hi)
    obtain ⟨y1, y⟩ := Bool.and_eq_true_iff.mp y
    obtain ⟨y2, y3⟩ := Bool.and_eq_true_iff.mp y
    exact ⟨fun T hT => of_decide_eq_true (List.all_eq_true.mp y1 T hT), of_decide_eq_true y2, fun j hj => of_decide_eq_true (List.all_eq_true.mp y3 j (List.mem_range.mpr hj))⟩
  have X0 := errB_ok z1
  obtain ⟨fdbi, Fbi⟩ := c.def_ 0 (d := ⟨("BadField", some "__init__"), "__init__", "BadField.__init__", defArgs (inClass (top 3) 0), defBody (inClass (top 3) 0), defScope (inClass (top 3) 0), [], []⟩) rfl
  obtain ⟨fdbt, Fbt⟩ := c.def_ 1 (d := ⟨("BadField", some "told"), "told", "BadField.told", defArgs (inClass (top 3) 1), defBody (inClass (top 3) 1), defScope (inClass (top 3) 1), [], []⟩) rfl
  have eb : ErrAt P w K mg base "BadField" (BF K) ["what"] "refused badfield" := ⟨He.glo_ok X G (c.fact 1 (f := .glo "BadField") rfl), X0, ⟨He.eqO_ok z2, of_decide_eq_true z3⟩, ⟨fdbi, FunD.bindsN (ps := ["self", "what"]) Fbi (fun _ _ _ _ _ _ us hl => match us, hl with | [_, _], _ => rfl), ok_init1 Fbi (⟨rfl, rfl, rfl, by decide +kernel, rfl, by decide +kernel, by decide +kernel⟩ : FnScope ["self", "what"] ["self", "what"] (defScope (inClass (top 3) 0))) X0 rfl rfl (by decide +kernel) (by decide +kernel)⟩,
    ⟨fdbt, FunD.bindsN (ps := ["self"]) Fbt (fun _ _ _ _ _ _ us hl => match us, hl with | [_], _ => rfl), Fbt.kp, ok_told Fbt (⟨rfl, rfl, rfl, by decide +kernel, rfl, by decide +kernel, by decide +kernel⟩ : FnScope ["self"] ["self"] (defScope (inClass (top 3) 1)))⟩⟩
  have X1 := errB_ok y1
  obtain ⟨fdni, Fni⟩ := c.def_ 2 (d := ⟨("BadLayout", some "__init__"), "__init__", "BadLayout.__init__", defArgs (inClass (top 4) 0), defBody (inClass (top 4) 0), defScope (inClass (top 4) 0), [], []⟩) rfl
  obtain ⟨fdnt, Fnt⟩ := c.def_ 3 (d := ⟨("BadLayout", some "told"), "told", "BadLayout.told", defArgs (inClass (top 4) 1), defBody (inClass (top 4) 1), defScope (inClass (top 4) 1), [], []⟩) rfl
  have en : ErrAt P w K mg base "BadLayout" (BY K) ["what"] "refused badlayout" := ⟨He.glo_ok X G (c.fact 2 (f := .glo "BadLayout") rfl), X1, ⟨He.eqO_ok y2, of_decide_eq_true y3⟩, ⟨fdni, FunD.bindsN (ps := ["self", "what"]) Fni (fun _ _ _ _ _ _ us hl => match us, hl with | [_, _], _ => rfl), ok_init1 Fni (⟨rfl, rfl, rfl, by decide +kernel, rfl, by decide +kernel, by decide +kernel⟩ : FnScope ["self", "what"] ["self", "what"] (defScope (inClass (top 4) 0))) X1 rfl rfl (by decide +kernel) (by decide +kernel)⟩,
    ⟨fdnt, FunD.bindsN (ps := ["self"]) Fnt (fun _ _ _ _ _ _ us hl => match us, hl with | [_], _ => rfl), Fnt.kp, ok_told Fnt (⟨rfl, rfl, rfl, by decide +kernel, rfl, by decide +kernel, by decide +kernel⟩ : FnScope ["self"] ["self"] (defScope (inClass (top 4) 1)))⟩⟩
  have X2 := errB_ok w1
  obtain ⟨fdxi, Fxi⟩ := c.def_ 4 (d := ⟨("NoRow", some "__init__"), "__init__", "NoRow.__init__", defArgs (inClass (top 5) 0), defBody (inClass (top 5) 0), defScope (inClass (top 5) 0), [], []⟩) rfl
  obtain ⟨fdxt, Fxt⟩ := c.def_ 5 (d := ⟨("NoRow", some "told"), "told", "NoRow.told", defArgs (inClass (top 5) 1), defBody (inClass (top 5) 1), defScope (inClass (top 5) 1), [], []⟩) rfl
  have et : ErrAt P w K mg base "NoRow" (NR K) ["place"] "refused norow" := ⟨He.glo_ok X G (c.fact 3 (f := .glo "NoRow") rfl), X2, ⟨He.eqO_ok w2, of_decide_eq_true w3⟩, ⟨fdxi, FunD.bindsN (ps := ["self", "place"]) Fxi (fun _ _ _ _ _ _ us hl => match us, hl with | [_, _], _ => rfl), ok_init1 Fxi (⟨rfl, rfl, rfl, by decide +kernel, rfl, by decide +kernel, by decide +kernel⟩ : FnScope ["self", "place"] ["self", "place"] (defScope (inClass (top 5) 0))) X2 rfl rfl (by decide +kernel) (by decide +kernel)⟩,
    ⟨fdxt, FunD.bindsN (ps := ["self"]) Fxt (fun _ _ _ _ _ _ us hl => match us, hl with | [_], _ => rfl), Fxt.kp, ok_told Fxt (⟨rfl, rfl, rfl, by decide +kernel, rfl, by decide +kernel, by decide +kernel⟩ : FnScope ["self"] ["self"] (defScope (inClass (top 5) 1)))⟩⟩
  have g0 : G0 P w K mg base := ⟨⟨He.free_ok X G (c.fact 50 (f := .free "abs") rfl), He.free_ok X G (c.fact 51 (f := .free "int") rfl), He.free_ok X G (c.fact 52 (f := .free "bool") rfl), He.free_ok X G (c.fact 53 (f := .free "isinstance") rfl), He.free_ok X G (c.fact 54 (f := .free "range") rfl), He.free_ok X G (c.fact 55 (f := .free "len") rfl), He.free_ok X G (c.fact 56 (f := .free "set") rfl), He.free_ok X G (c.fact 57 (f := .free "type") rfl), He.free_ok X G (c.fact 58 (f := .free "str") rfl), He.free_ok X G (c.fact 59 (f := .free "reversed") rfl), He.free_ok X G (c.fact 60 (f := .free "tuple") rfl), He.free_ok X G (c.fact 61 (f := .free "list") rfl), He.free_ok X G (c.fact 62 (f := .free "any") rfl), He.free_ok X G (c.fact 63 (f := .free "all") rfl)⟩, He.str_ok X G (c.fact 68 (f := .str "SIGNS" SG) rfl), He.str_ok X G (c.fact 69 (f := .str "DIGITS" DG) rfl), eb⟩
  obtain ⟨fdf1, Ff1⟩ := c.def_ 31 (d := ⟨("is_made_of", none), "is_made_of", "is_made_of", defArgs (top 11), defBody (top 11), defScope (top 11), [], []⟩) rfl
  have Af1 : FnAt P w K mg base CX0 1 "is_made_of" ["text", "signs"] _ := ⟨_, fdf1, He.glo_ok X G (c.fact 11 (f := .glo "is_made_of") rfl), Ff1.kp, ok_made_of Ff1 g0, FunD.bindsN (ps := ["text", "signs"]) Ff1 (fun _ _ _ _ _ _ us hl => match us, hl with | [_, _], _ => rfl)⟩
  obtain ⟨fdf2, Ff2⟩ := c.def_ 32 (d := ⟨("is_sign", none), "is_sign", "is_sign", defArgs (top 12), defBody (top 12), defScope (top 12), [], []⟩) rfl
  have Af2 : FnAt P w K mg base CX0 1 "is_sign" ["thing"] _ := ⟨_, fdf2, He.glo_ok X G (c.fact 12 (f := .glo "is_sign") rfl), Ff2.kp, ok_is_sign Ff2 g0, FunD.bindsN (ps := ["thing"]) Ff2 (fun _ _ _ _ _ _ us hl => match us, hl with | [_], _ => rfl)⟩
  obtain ⟨fdf3, Ff3⟩ := c.def_ 34 (d := ⟨("is_number", none), "is_number", "is_number", defArgs (top 15), defBody (top 15), defScope (top 15), [], []⟩) rfl
  have Af3 : FnAt P w K mg base CX0 1 "is_number" ["thing"] _ := ⟨_, fdf3, He.glo_ok X G (c.fact 14 (f := .glo "is_number") rfl), Ff3.kp, ok_is_number Ff3 g0, FunD.bindsN (ps := ["thing"]) Ff3 (fun _ _ _ _ _ _ us hl => match us, hl with | [_], _ => rfl)⟩
  obtain ⟨fdf4, Ff4⟩ := c.def_ 36 (d := ⟨("digits_of", none), "digits_of", "digits_of", defArgs (top 17), defBody (top 17), defScope (top 17), [], []⟩) rfl
  have Af4 : FnAt P w K mg base CX0 1 "digits_of" ["number"] _ := ⟨_, fdf4, He.glo_ok X G (c.fact 16 (f := .glo "digits_of") rfl), Ff4.kp, ok_digits_of Ff4 g0, FunD.bindsN (ps := ["number"]) Ff4 (fun _ _ _ _ _ _ us hl => match us, hl with | [_], _ => rfl)⟩
  have g1 : G1 P w K mg base := ⟨g0, Af1, Af2, Af3, Af4⟩
  obtain ⟨fdf5, Ff5⟩ := c.def_ 33 (d := ⟨("are_signs", none), "are_signs", "are_signs", defArgs (top 13), defBody (top 13), defScope (top 13), [], []⟩) rfl
  have Af5 : FnAt P w K mg base CX0 2 "are_signs" ["thing"] _ := ⟨_, fdf5, He.glo_ok X G (c.fact 13 (f := .glo "are_signs") rfl), Ff5.kp, ok_are_signs Ff5 g1, FunD.bindsN (ps := ["thing"]) Ff5 (fun _ _ _ _ _ _ us hl => match us, hl with | [_], _ => rfl)⟩
  have g2 : G2 P w K mg base := ⟨g1, Af5⟩
  obtain ⟨fdf6, Ff6⟩ := c.def_ 39 (d := ⟨("check_signs", none), "check_signs", "check_signs", defArgs (top 21), defBody (top 21), defScope (top 21), [], []⟩) rfl
  have Af6 : FnAt P w K mg base (L2.CX P w) 3 "check_signs" ["signs"] _ := ⟨_, fdf6, He.glo_ok X G (c.fact 19 (f := .glo "check_signs") rfl), Ff6.kp, ok_check_signs Ff6 g2, FunD.bindsN (ps := ["signs"]) Ff6 (fun _ _ _ _ _ _ us hl => match us, hl with | [_], _ => rfl)⟩
  obtain ⟨fdf7, Ff7⟩ := c.def_ 40 (d := ⟨("check_span", none), "check_span", "check_span", defArgs (top 22), defBody (top 22), defScope (top 22), [], []⟩) rfl
  have Af7 : FnAt P w K mg base (L2.CX P w) 3 "check_span" ["least", "most"] _ := ⟨_, fdf7, He.glo_ok X G (c.fact 20 (f := .glo "check_span") rfl), Ff7.kp, ok_check_span Ff7 g2, FunD.bindsN (ps := ["least", "most"]) Ff7 (fun _ _ _ _ _ _ us hl => match us, hl with | [_, _], _ => rfl)⟩
  obtain ⟨fdf8, Ff8⟩ := c.def_ 43 (d := ⟨("has_words_with", none), "has_words_with", "has_words_with", defArgs (top 25), defBody (top 25), defScope (top 25), [], []⟩) rfl
  have Af8 : FnAt P w K mg base CX0 1 "has_words_with" ["field", "sign"] _ := ⟨_, fdf8, He.glo_ok X G (c.fact 23 (f := .glo "has_words_with") rfl), Ff8.kp, ok_has_words Ff8 g0, FunD.bindsN (ps := ["field", "sign"]) Ff8 (fun _ _ _ _ _ _ us hl => match us, hl with | [_, _], _ => rfl)⟩
  have cWord : C0 K mg "Word" ["signs", "least", "most"] := ⟨He.glo_ok X G (c.fact 5 (f := .glo "Word") rfl), He.cls_ok (c.fact 72 (f := .cls "Word") rfl), (fun f hf => by
    rcases List.mem_cons.mp hf with rfl | hf
    · exact He.noat_ok (c.fact 74 (f := .noat "Word" "signs") rfl)
    rcases List.mem_cons.mp hf with rfl | hf
    · exact He.noat_ok (c.fact 75 (f := .noat "Word" "least") rfl)
    rcases List.mem_cons.mp hf with rfl | hf
    · exact He.noat_ok (c.fact 76 (f := .noat "Word" "most") rfl)
    cases hf)⟩
  have cNumber : C0 K mg "Number" ["least", "most"] := ⟨He.glo_ok X G (c.fact 6 (f := .glo "Number") rfl), He.cls_ok (c.fact 79 (f := .cls "Number") rfl), (fun f hf => by
    rcases List.mem_cons.mp hf with rfl | hf
    · exact He.noat_ok (c.fact 81 (f := .noat "Number" "least") rfl)
    rcases List.mem_cons.mp hf with rfl | hf
    · exact He.noat_ok (c.fact 82 (f := .noat "Number" "most") rfl)
    cases hf)⟩
  have cFixed : C0 K mg "Fixed" ["width"] := ⟨He.glo_ok X G (c.fact 7 (f := .glo "Fixed") rfl), He.cls_ok (c.fact 85 (f := .cls "Fixed") rfl), (fun f hf => by
    rcases List.mem_cons.mp hf with rfl | hf
    · exact He.noat_ok (c.fact 87 (f := .noat "Fixed" "width") rfl)
    cases hf)⟩
  have cListed : C0 K mg "Listed" ["texts"] := ⟨He.glo_ok X G (c.fact 8 (f := .glo "Listed") rfl), He.cls_ok (c.fact 90 (f := .cls "Listed") rfl), (fun f hf => by
    rcases List.mem_cons.mp hf with rfl | hf
    · exact He.noat_ok (c.fact 92 (f := .noat "Listed" "texts") rfl)
    cases hf)⟩
  have cEnded : C0 K mg "Ended" ["signs", "sign", "least", "most"] := ⟨He.glo_ok X G (c.fact 9 (f := .glo "Ended") rfl), He.cls_ok (c.fact 95 (f := .cls "Ended") rfl), (fun f hf => by
    rcases List.mem_cons.mp hf with rfl | hf
    · exact He.noat_ok (c.fact 97 (f := .noat "Ended" "signs") rfl)
    rcases List.mem_cons.mp hf with rfl | hf
    · exact He.noat_ok (c.fact 98 (f := .noat "Ended" "sign") rfl)
    rcases List.mem_cons.mp hf with rfl | hf
    · exact He.noat_ok (c.fact 99 (f := .noat "Ended" "least") rfl)
    rcases List.mem_cons.mp hf with rfl | hf
    · exact He.noat_ok (c.fact 100 (f := .noat "Ended" "most") rfl)
    cases hf)⟩
  have cMarked : C0 K mg "Marked" ["none", "mark", "field"] := ⟨He.glo_ok X G (c.fact 10 (f := .glo "Marked") rfl), He.cls_ok (c.fact 103 (f := .cls "Marked") rfl), (fun f hf => by
    rcases List.mem_cons.mp hf with rfl | hf
    · exact He.noat_ok (c.fact 105 (f := .noat "Marked" "none") rfl)
    rcases List.mem_cons.mp hf with rfl | hf
    · exact He.noat_ok (c.fact 106 (f := .noat "Marked" "mark") rfl)
    rcases List.mem_cons.mp hf with rfl | hf
    · exact He.noat_ok (c.fact 107 (f := .noat "Marked" "field") rfl)
    cases hf)⟩
  have cLayout : C0 K mg "Layout" ["fields", "joints"] := ⟨He.glo_ok X G (c.fact 4 (f := .glo "Layout") rfl), He.cls_ok (c.fact 109 (f := .cls "Layout") rfl), (fun f hf => by
    rcases List.mem_cons.mp hf with rfl | hf
    · exact He.noat_ok (c.fact 111 (f := .noat "Layout" "fields") rfl)
    rcases List.mem_cons.mp hf with rfl | hf
    · exact He.noat_ok (c.fact 112 (f := .noat "Layout" "joints") rfl)
    cases hf)⟩
  have g3 : G3 P w K mg base := ⟨g2, Af6, Af7, Af8, cWord, cNumber, cFixed, cListed, cEnded, cMarked⟩
  have g4 : G4 P w K mg base := ⟨g3, fun i hi => (more7 i (by omega)).1, He.eqO_ok z5, of_decide_eq_true z6, fun i j hi hj => (more i hi).2.2 j hj, fun j hj => (more j hj).1 _ (by decide), fun j hj => (more j hj).1 _ (by decide)⟩
  obtain ⟨fdhWord, FhWord⟩ := c.def_ 8 (d := ⟨("Word", some "has_sign"), "has_sign", "Word.has_sign", defArgs (inClass (top 26) 7), defBody (inClass (top 26) 7), defScope (inClass (top 26) 7), [], []⟩) rfl
  obtain ⟨fdeWord, FeWord⟩ := c.def_ 7 (d := ⟨("Word", some "__eq__"), "__eq__", "Word.__eq__", defArgs (inClass (top 26) 1), defBody (inClass (top 26) 1), defScope (inClass (top 26) 1), [], []⟩) rfl
  have hWord : HM P w K mg base 2 (ca K 0) "has_sign" ["self", "sign"] (spHasWord K) := ⟨He.meth_ok (c.fact 77 (f := .meth "Word" "has_sign") rfl), fdhWord, ok_Word_has FhWord g3, FunD.bindsN (ps := ["self", "sign"]) FhWord (fun _ _ _ _ _ _ us hl => match us, hl with | [_, _], _ => rfl)⟩
  have eWord : EQ P w K mg base (ca K 0) (spEqWord K) := ⟨fdeWord, ok_Word_eq FeWord g4, FunD.bindsN (ps := ["self", "other"]) FeWord (fun _ _ _ _ _ _ us hl => match us, hl with | [_, _], _ => rfl)⟩
  obtain ⟨fdhNumber, FhNumber⟩ := c.def_ 12 (d := ⟨("Number", some "has_sign"), "has_sign", "Number.has_sign", defArgs (inClass (top 27) 7), defBody (inClass (top 27) 7), defScope (inClass (top 27) 7), [], []⟩) rfl
  obtain ⟨fdeNumber, FeNumber⟩ := c.def_ 11 (d := ⟨("Number", some "__eq__"), "__eq__", "Number.__eq__", defArgs (inClass (top 27) 1), defBody (inClass (top 27) 1), defScope (inClass (top 27) 1), [], []⟩) rfl
  have hNumber : HM P w K mg base 2 (ca K 1) "has_sign" ["self", "sign"] (spHasNumber K) := ⟨He.meth_ok (c.fact 83 (f := .meth "Number" "has_sign") rfl), fdhNumber, ok_Number_has FhNumber g3, FunD.bindsN (ps := ["self", "sign"]) FhNumber (fun _ _ _ _ _ _ us hl => match us, hl with | [_, _], _ => rfl)⟩
  have eNumber : EQ P w K mg base (ca K 1) (spEqNumber K) := ⟨fdeNumber, ok_Number_eq FeNumber g4, FunD.bindsN (ps := ["self", "other"]) FeNumber (fun _ _ _ _ _ _ us hl => match us, hl with | [_, _], _ => rfl)⟩
  obtain ⟨fdhFixed, FhFixed⟩ := c.def_ 16 (d := ⟨("Fixed", some "has_sign"), "has_sign", "Fixed.has_sign", defArgs (inClass (top 28) 7), defBody (inClass (top 28) 7), defScope (inClass (top 28) 7), [], []⟩) rfl
  obtain ⟨fdeFixed, FeFixed⟩ := c.def_ 15 (d := ⟨("Fixed", some "__eq__"), "__eq__", "Fixed.__eq__", defArgs (inClass (top 28) 1), defBody (inClass (top 28) 1), defScope (inClass (top 28) 1), [], []⟩) rfl
  have hFixed : HM P w K mg base 2 (ca K 2) "has_sign" ["self", "sign"] (spHasFixed K) := ⟨He.meth_ok (c.fact 88 (f := .meth "Fixed" "has_sign") rfl), fdhFixed, ok_Fixed_has FhFixed g3, FunD.bindsN (ps := ["self", "sign"]) FhFixed (fun _ _ _ _ _ _ us hl => match us, hl with | [_, _], _ => rfl)⟩
  have eFixed : EQ P w K mg base (ca K 2) (spEqFixed K) := ⟨fdeFixed, ok_Fixed_eq FeFixed g4, FunD.bindsN (ps := ["self", "other"]) FeFixed (fun _ _ _ _ _ _ us hl => match us, hl with | [_, _], _ => rfl)⟩
  obtain ⟨fdhListed, FhListed⟩ := c.def_ 20 (d := ⟨("Listed", some "has_sign"), "has_sign", "Listed.has_sign", defArgs (inClass (top 29) 7), defBody (inClass (top 29) 7), defScope (inClass (top 29) 7), [], []⟩) rfl
  obtain ⟨fdeListed, FeListed⟩ := c.def_ 19 (d := ⟨("Listed", some "__eq__"), "__eq__", "Listed.__eq__", defArgs (inClass (top 29) 1), defBody (inClass (top 29) 1), defScope (inClass (top 29) 1), [], []⟩) rfl
  have hListed : HM P w K mg base 2 (ca K 3) "has_sign" ["self", "sign"] (spHasListed K) := ⟨He.meth_ok (c.fact 93 (f := .meth "Listed" "has_sign") rfl), fdhListed, ok_Listed_has FhListed g3, FunD.bindsN (ps := ["self", "sign"]) FhListed (fun _ _ _ _ _ _ us hl => match us, hl with | [_, _], _ => rfl)⟩
  have eListed : EQ P w K mg base (ca K 3) (spEqListed K) := ⟨fdeListed, ok_Listed_eq FeListed g4, FunD.bindsN (ps := ["self", "other"]) FeListed (fun _ _ _ _ _ _ us hl => match us, hl with | [_, _], _ => rfl)⟩
  obtain ⟨fdhEnded, FhEnded⟩ := c.def_ 24 (d := ⟨("Ended", some "has_sign"), "has_sign", "Ended.has_sign", defArgs (inClass (top 30) 7), defBody (inClass (top 30) 7), defScope (inClass (top 30) 7), [], []⟩) rfl
  obtain ⟨fdeEnded, FeEnded⟩ := c.def_ 23 (d := ⟨("Ended", some "__eq__"), "__eq__", "Ended.__eq__", defArgs (inClass (top 30) 1), defBody (inClass (top 30) 1), defScope (inClass (top 30) 1), [], []⟩) rfl
  have hEnded : HM P w K mg base 2 (ca K 4) "has_sign" ["self", "sign"] (spHasEnded K) := ⟨He.meth_ok (c.fact 101 (f := .meth "Ended" "has_sign") rfl), fdhEnded, ok_Ended_has FhEnded g3, FunD.bindsN (ps := ["self", "sign"]) FhEnded (fun _ _ _ _ _ _ us hl => match us, hl with | [_, _], _ => rfl)⟩
  have eEnded : EQ P w K mg base (ca K 4) (spEqEnded K) := ⟨fdeEnded, ok_Ended_eq FeEnded g4, FunD.bindsN (ps := ["self", "other"]) FeEnded (fun _ _ _ _ _ _ us hl => match us, hl with | [_, _], _ => rfl)⟩
  have g5 : G5 P w K mg base := ⟨g4, hWord, eWord, hNumber, eNumber, hFixed, eFixed, hListed, eListed, hEnded, eEnded⟩
  obtain ⟨fdp1, Fp1⟩ := c.def_ 41 (d := ⟨("is_within", none), "is_within", "is_within", defArgs (top 23), defBody (top 23), defScope (top 23), [], []⟩) rfl
  have Ap1 : FnAt P w K mg base CX0 1 "is_within" ["field", "amount"] _ := ⟨_, fdp1, He.glo_ok X G (c.fact 21 (f := .glo "is_within") rfl), Fp1.kp, ok_is_within Fp1 g0, FunD.bindsN (ps := ["field", "amount"]) Fp1 (fun _ _ _ _ _ _ us hl => match us, hl with | [_, _], _ => rfl)⟩
  obtain ⟨fdp2, Fp2⟩ := c.def_ 37 (d := ⟨("number_of", none), "number_of", "number_of", defArgs (top 18), defBody (top 18), defScope (top 18), [], []⟩) rfl
  have Ap2 : FnAt P w K mg base CX0 1 "number_of" ["digits"] _ := ⟨_, fdp2, He.glo_ok X G (c.fact 17 (f := .glo "number_of") rfl), Fp2.kp, ok_number_of Fp2 g0, FunD.bindsN (ps := ["digits"]) Fp2 (fun _ _ _ _ _ _ us hl => match us, hl with | [_], _ => rfl)⟩
  obtain ⟨fdp0, Fp0⟩ := c.def_ 34 (d := ⟨("is_number", none), "is_number", "is_number", defArgs (top 15), defBody (top 15), defScope (top 15), [], []⟩) rfl
  have Ap0 : FnAt P w K mg base CX0 1 "is_number" ["thing"] _ := ⟨_, fdp0, He.glo_ok X G (c.fact 14 (f := .glo "is_number") rfl), Fp0.kp, ok_is_numberT Fp0 g0, FunD.bindsN (ps := ["thing"]) Fp0 (fun _ _ _ _ _ _ us hl => match us, hl with | [_], _ => rfl)⟩
  have q1 : P1 P w K mg base := ⟨g5, Ap1, Ap2, Ap0⟩
  obtain ⟨fdp3, Fp3⟩ := c.def_ 38 (d := ⟨("greatest_of", none), "greatest_of", "greatest_of", defArgs (top 19), defBody (top 19), defScope (top 19), [], []⟩) rfl
  have Ap3 : FnAt P w K mg base CX0 2 "greatest_of" ["width"] _ := ⟨_, fdp3, He.glo_ok X G (c.fact 18 (f := .glo "greatest_of") rfl), Fp3.kp, ok_greatest_of Fp3 q1, FunD.bindsN (ps := ["width"]) Fp3 (fun _ _ _ _ _ _ us hl => match us, hl with | [_], _ => rfl)⟩
  obtain ⟨fdp4, Fp4⟩ := c.def_ 42 (d := ⟨("is_word_of", none), "is_word_of", "is_word_of", defArgs (top 24), defBody (top 24), defScope (top 24), [], []⟩) rfl
  have Ap4 : FnAt P w K mg base CX0 2 "is_word_of" ["field", "thing"] _ := ⟨_, fdp4, He.glo_ok X G (c.fact 22 (f := .glo "is_word_of") rfl), Fp4.kp, ok_is_word_of Fp4 q1, FunD.bindsN (ps := ["field", "thing"]) Fp4 (fun _ _ _ _ _ _ us hl => match us, hl with | [_, _], _ => rfl)⟩
  have q2 : P2 P w K mg base := ⟨q1, Ap3, Ap4⟩
  obtain ⟨fdvWord, FvWord⟩ := c.def_ 9 (d := ⟨("Word", some "has_value"), "has_value", "Word.has_value", defArgs (inClass (top 26) 2), defBody (inClass (top 26) 2), defScope (inClass (top 26) 2), [], []⟩) rfl
  have hvWord : HM P w K mg base 3 (ca K 0) "has_value" ["self", "thing"] (spHVWord K) := ⟨He.meth_ok (c.fact 78 (f := .meth "Word" "has_value") rfl), fdvWord, (ok_Word_has_value FvWord q2).mono (by decide), FunD.bindsN (ps := ["self", "thing"]) FvWord (fun _ _ _ _ _ _ us hl => match us, hl with | [_, _], _ => rfl)⟩
  obtain ⟨fdvNumber, FvNumber⟩ := c.def_ 13 (d := ⟨("Number", some "has_value"), "has_value", "Number.has_value", defArgs (inClass (top 27) 2), defBody (inClass (top 27) 2), defScope (inClass (top 27) 2), [], []⟩) rfl
  have hvNumber : HM P w K mg base 3 (ca K 1) "has_value" ["self", "thing"] (spHVNumber K) := ⟨He.meth_ok (c.fact 84 (f := .meth "Number" "has_value") rfl), fdvNumber, (ok_Number_has_value FvNumber q2).mono (by decide), FunD.bindsN (ps := ["self", "thing"]) FvNumber (fun _ _ _ _ _ _ us hl => match us, hl with | [_, _], _ => rfl)⟩
  obtain ⟨fdvFixed, FvFixed⟩ := c.def_ 17 (d := ⟨("Fixed", some "has_value"), "has_value", "Fixed.has_value", defArgs (inClass (top 28) 2), defBody (inClass (top 28) 2), defScope (inClass (top 28) 2), [], []⟩) rfl
  have hvFixed : HM P w K mg base 3 (ca K 2) "has_value" ["self", "thing"] (spHVFixed K) := ⟨He.meth_ok (c.fact 89 (f := .meth "Fixed" "has_value") rfl), fdvFixed, (ok_Fixed_has_value FvFixed q2).mono (by decide), FunD.bindsN (ps := ["self", "thing"]) FvFixed (fun _ _ _ _ _ _ us hl => match us, hl with | [_, _], _ => rfl)⟩
  obtain ⟨fdvListed, FvListed⟩ := c.def_ 21 (d := ⟨("Listed", some "has_value"), "has_value", "Listed.has_value", defArgs (inClass (top 29) 2), defBody (inClass (top 29) 2), defScope (inClass (top 29) 2), [], []⟩) rfl
  have hvListed : HM P w K mg base 3 (ca K 3) "has_value" ["self", "thing"] (spHVListed K) := ⟨He.meth_ok (c.fact 94 (f := .meth "Listed" "has_value") rfl), fdvListed, (ok_Listed_has_value FvListed q2).mono (by decide), FunD.bindsN (ps := ["self", "thing"]) FvListed (fun _ _ _ _ _ _ us hl => match us, hl with | [_, _], _ => rfl)⟩
  obtain ⟨fdvEnded, FvEnded⟩ := c.def_ 25 (d := ⟨("Ended", some "has_value"), "has_value", "Ended.has_value", defArgs (inClass (top 30) 2), defBody (inClass (top 30) 2), defScope (inClass (top 30) 2), [], []⟩) rfl
  have hvEnded : HM P w K mg base 3 (ca K 4) "has_value" ["self", "thing"] (spHVEnded K) := ⟨He.meth_ok (c.fact 102 (f := .meth "Ended" "has_value") rfl), fdvEnded, (ok_Ended_has_value FvEnded q2).mono (by decide), FunD.bindsN (ps := ["self", "thing"]) FvEnded (fun _ _ _ _ _ _ us hl => match us, hl with | [_, _], _ => rfl)⟩
  have q3 : P3 P w K mg base := ⟨q2, hvWord, hvNumber, hvFixed, hvListed, hvEnded⟩
  have q4 : P4 P w K mg base := ⟨q3⟩
  obtain ⟨fdvMarked, FvMarked⟩ := c.def_ 28 (d := ⟨("Marked", some "has_value"), "has_value", "Marked.has_value", defArgs (inClass (top 31) 2), defBody (inClass (top 31) 2), defScope (inClass (top 31) 2), [], []⟩) rfl
  have hvMarked : HM P w K mg base 4 (ca K 5) "has_value" ["self", "thing"] (spMHV K) := ⟨He.meth_ok (c.fact 108 (f := .meth "Marked" "has_value") rfl), fdvMarked, (ok_Marked_has_value FvMarked q4).mono (by decide), FunD.bindsN (ps := ["self", "thing"]) FvMarked (fun _ _ _ _ _ _ us hl => match us, hl with | [_, _], _ => rfl)⟩
  have q5 : P5 P w K mg base := ⟨q4, hvMarked⟩
  obtain ⟨fds1, Fs1⟩ := c.def_ 44 (d := ⟨("is_sequence", none), "is_sequence", "is_sequence", defArgs (top 33), defBody (top 33), defScope (top 33), [], []⟩) rfl
  have As1 : FnAt P w K mg base CX0 1 "is_sequence" ["thing"] _ := ⟨_, fds1, He.glo_ok X G (c.fact 24 (f := .glo "is_sequence") rfl), Fs1.kp, ok_is_sequence Fs1 q5, FunD.bindsN (ps := ["thing"]) Fs1 (fun _ _ _ _ _ _ us hl => match us, hl with | [_], _ => rfl)⟩
  have q6 : P6 P w K mg base := ⟨q5, As1, He.str_ok X G (c.fact 70 (f := .str "LOW" "!") rfl), He.str_ok X G (c.fact 71 (f := .str "HIGH" "~") rfl), cLayout, et, He.free_ok X G (c.fact 65 (f := .free "max") rfl), He.free_ok X G (c.fact 66 (f := .free "zip") rfl)⟩
  obtain ⟨fds2, Fs2⟩ := c.def_ 45 (d := ⟨("check_fields", none), "check_fields", "check_fields", defArgs (top 34), defBody (top 34), defScope (top 34), [], []⟩) rfl
  have As2 : FnAt P w K mg base CX0 2 "check_fields" ["fields"] _ := ⟨_, fds2, He.glo_ok X G (c.fact 25 (f := .glo "check_fields") rfl), Fs2.kp, ok_check_fields Fs2 q6, FunD.bindsN (ps := ["fields"]) Fs2 (fun _ _ _ _ _ _ us hl => match us, hl with | [_], _ => rfl)⟩
  obtain ⟨fds3, Fs3⟩ := c.def_ 46 (d := ⟨("is_joint", none), "is_joint", "is_joint", defArgs (top 35), defBody (top 35), defScope (top 35), [], []⟩) rfl
  have As3 : FnAt P w K mg base CX0 1 "is_joint" ["thing"] _ := ⟨_, fds3, He.glo_ok X G (c.fact 26 (f := .glo "is_joint") rfl), Fs3.kp, ok_is_joint Fs3 q6, FunD.bindsN (ps := ["thing"]) Fs3 (fun _ _ _ _ _ _ us hl => match us, hl with | [_], _ => rfl)⟩
  have q7 : P7 P w K mg base := ⟨q6, As2, As3⟩
  obtain ⟨fdiLa, FiLa⟩ := c.def_ 29 (d := ⟨("Layout", some "__init__"), "__init__", "Layout.__init__", defArgs (inClass (top 36) 0), defBody (inClass (top 36) 0), defScope (inClass (top 36) 0), [], []⟩) rfl
  have kLay : ClsAt P w K mg base CX0 3 "Layout" (LA K) ["self", "fields", "joints"] (spLay K) := ⟨cLayout.mgC, cLayout.cl, He.mkr_ok (c.fact 110 (f := .mkr "Layout") rfl), fdiLa, ok_Layout_init FiLa q7, FunD.bindsN (ps := ["self", "fields", "joints"]) FiLa (fun _ _ _ _ _ _ us hl => match us, hl with | [_, _, _], _ => rfl)⟩
  have q8 : P8 P w K mg base := ⟨q7, kLay⟩
  obtain ⟨fdn2, Fn2⟩ := c.def_ 35 (d := ⟨("is_numeral", none), "is_numeral", "is_numeral", defArgs (top 16), defBody (top 16), defScope (top 16), [], []⟩) rfl
  have An2 : FnAt P w K mg base CX0 2 "is_numeral" ["text"] _ := ⟨_, fdn2, He.glo_ok X G (c.fact 15 (f := .glo "is_numeral") rfl), Fn2.kp, ok_is_numeral Fn2 g1, FunD.bindsN (ps := ["text"]) Fn2 (fun _ _ _ _ _ _ us hl => match us, hl with | [_], _ => rfl)⟩
  have ww1 : W1 P w K mg base := ⟨q8, An2⟩
  obtain ⟨fdn3, Fn3⟩ := c.def_ 49 (d := ⟨("value_word", none), "value_word", "value_word", defArgs (top 40), defBody (top 40), defScope (top 40), [], []⟩) rfl
  have An3 : FnAt P w K mg base CX0 2 "value_word" ["value"] _ := ⟨_, fdn3, He.glo_ok X G (c.fact 29 (f := .glo "value_word") rfl), Fn3.kp, ok_value_word Fn3 ww1, FunD.bindsN (ps := ["value"]) Fn3 (fun _ _ _ _ _ _ us hl => match us, hl with | [_], _ => rfl)⟩
  obtain ⟨fds5, Fs5⟩ := c.def_ 47 (d := ⟨("check_row", none), "check_row", "check_row", defArgs (top 37), defBody (top 37), defScope (top 37), [], []⟩) rfl
  have As5 : FnAt P w K mg base (L2.CX P w) 5 "check_row" ["layout", "row"] _ := ⟨_, fds5, He.glo_ok X G (c.fact 27 (f := .glo "check_row") rfl), Fs5.kp, ok_check_row Fs5 q8, FunD.bindsN (ps := ["layout", "row"]) Fs5 (fun _ _ _ _ _ _ us hl => match us, hl with | [_, _], _ => rfl)⟩
  obtain ⟨fdiv, Fiv⟩ := c.def_ 52 (d := ⟨("is_value_word", none), "is_value_word", "is_value_word", defArgs (top 43), defBody (top 43), defScope (top 43), [], []⟩) rfl
  have giv := He.glo_ok X G (c.fact 32 (f := .glo "is_value_word") rfl)
  have biv := FunD.bindsN (ps := ["field", "word"]) Fiv (fun _ _ _ _ _ _ us hl => match us, hl with | [_, _], _ => rfl)
  have iv0 : FnAt P w K mg base CX0 (0 + 4) "is_value_word" ["field", "word"] (spIvw K 0) := ⟨_, fdiv, giv, Fiv.kp, fn_never.imp fun vs H Q E h => (by obtain ⟨_, _, d, _, _, _, hd, _⟩ := h; exact absurd hd (Nat.not_lt_zero _)), biv⟩
  have stepiv : ∀ n, FnAt P w K mg base CX0 (n + 4) "is_value_word" ["field", "word"] (spIvw K n) → FnAt P w K mg base CX0 ((n + 1) + 4) "is_value_word" ["field", "word"] (spIvw K (n + 1)) := fun n A => ⟨_, fdiv, giv, Fiv.kp, (ok_is_value_word Fiv ww1 A).mono (by omega), biv⟩
  have iv2 := stepiv 1 (stepiv 0 iv0)
  have ww2 : W2 P w K mg base := ⟨ww1, An3, As5, iv2, He.free_ok X G (c.fact 67 (f := .free "enumerate") rfl)⟩
  obtain ⟨fdvi, Fvi⟩ := c.def_ 53 (d := ⟨("value_in", none), "value_in", "value_in", defArgs (top 44), defBody (top 44), defScope (top 44), [], []⟩) rfl
  have gvi := He.glo_ok X G (c.fact 33 (f := .glo "value_in") rfl)
  have bvi := FunD.bindsN (ps := ["field", "word"]) Fvi (fun _ _ _ _ _ _ us hl => match us, hl with | [_, _], _ => rfl)
  have vi0 : FnAt P w K mg base CX0 (0 + 1) "value_in" ["field", "word"] (spVin K 0) := ⟨_, fdvi, gvi, Fvi.kp, fn_never.imp fun vs H Q E h => (by obtain ⟨_, _, d, _, _, _, _, hd, _⟩ := h; exact absurd hd (Nat.not_lt_zero _)), bvi⟩
  have stepvi : ∀ n, FnAt P w K mg base CX0 (n + 1) "value_in" ["field", "word"] (spVin K n) → FnAt P w K mg base CX0 ((n + 1) + 1) "value_in" ["field", "word"] (spVin K (n + 1)) := fun n A => ⟨_, fdvi, gvi, Fvi.kp, (ok_value_in Fvi ww2 A).mono (by omega), bvi⟩
  have vi2 := stepvi 1 (stepvi 0 vi0)
  have ww3 : W3 P w K mg base := ⟨ww2, vi2⟩
  obtain ⟨fdn4, Fn4⟩ := c.def_ 51 (d := ⟨("read_values", none), "read_values", "read_values", defArgs (top 42), defBody (top 42), defScope (top 42), [], []⟩) rfl
  have An4 : FnAt P w K mg base (L2.CX P w) 7 "read_values" ["layout", "text"] _ := ⟨_, fdn4, He.glo_ok X G (c.fact 31 (f := .glo "read_values") rfl), Fn4.kp, ok_read_values Fn4 ww3, FunD.bindsN (ps := ["layout", "text"]) Fn4 (fun _ _ _ _ _ _ us hl => match us, hl with | [_, _], _ => rfl)⟩
  have ww4 : W4 P w K mg base := ⟨ww3, An4⟩
  obtain ⟨fdn5, Fn5⟩ := c.def_ 50 (d := ⟨("read_row", none), "read_row", "read_row", defArgs (top 41), defBody (top 41), defScope (top 41), [], []⟩) rfl
  have An5 : FnAt P w K mg base (L2.CX P w) 8 "read_row" ["layout", "text"] _ := ⟨_, fdn5, He.glo_ok X G (c.fact 30 (f := .glo "read_row") rfl), Fn5.kp, ok_read_row Fn5 ww4, FunD.bindsN (ps := ["layout", "text"]) Fn5 (fun _ _ _ _ _ _ us hl => match us, hl with | [_, _], _ => rfl)⟩
  obtain ⟨fdn6, Fn6⟩ := c.def_ 48 (d := ⟨("row_word", none), "row_word", "row_word", defArgs (top 39), defBody (top 39), defScope (top 39), [], []⟩) rfl
  have An6 : FnAt P w K mg base (L2.CX P w) 6 "row_word" ["layout", "row"] _ := ⟨_, fdn6, He.glo_ok X G (c.fact 28 (f := .glo "row_word") rfl), Fn6.kp, ok_row_word Fn6 ww2, FunD.bindsN (ps := ["layout", "row"]) Fn6 (fun _ _ _ _ _ _ us hl => match us, hl with | [_, _], _ => rfl)⟩
  obtain ⟨fdiWord, FiWord⟩ := c.def_ 6 (d := ⟨("Word", some "__init__"), "__init__", "Word.__init__", defArgs (inClass (top 26) 0), defBody (inClass (top 26) 0), defScope (inClass (top 26) 0), [], []⟩) rfl
  have kWord : ClsAt P w K mg base (L2.CX P w) 4 "Word" (ca K 0) ["self", "signs", "least", "most"] (spWord K) := ⟨cWord.mgC, cWord.cl, He.mkr_ok (c.fact 73 (f := .mkr "Word") rfl), fdiWord, ok_Word_init FiWord g3, FunD.bindsN (ps := ["self", "signs", "least", "most"]) FiWord (fun _ _ _ _ _ _ us hl => match us, hl with | [_, _, _, _], _ => rfl)⟩
  obtain ⟨fdiNumber, FiNumber⟩ := c.def_ 10 (d := ⟨("Number", some "__init__"), "__init__", "Number.__init__", defArgs (inClass (top 27) 0), defBody (inClass (top 27) 0), defScope (inClass (top 27) 0), [], []⟩) rfl
  have kNumber : ClsAt P w K mg base (L2.CX P w) 4 "Number" (ca K 1) ["self", "least", "most"] (spNumber K) := ⟨cNumber.mgC, cNumber.cl, He.mkr_ok (c.fact 80 (f := .mkr "Number") rfl), fdiNumber, ok_Number_init FiNumber g3, FunD.bindsN (ps := ["self", "least", "most"]) FiNumber (fun _ _ _ _ _ _ us hl => match us, hl with | [_, _, _], _ => rfl)⟩
  obtain ⟨fdiFixed, FiFixed⟩ := c.def_ 14 (d := ⟨("Fixed", some "__init__"), "__init__", "Fixed.__init__", defArgs (inClass (top 28) 0), defBody (inClass (top 28) 0), defScope (inClass (top 28) 0), [], []⟩) rfl
  have kFixed : ClsAt P w K mg base (L2.CX P w) 4 "Fixed" (ca K 2) ["self", "width"] (spFixed K) := ⟨cFixed.mgC, cFixed.cl, He.mkr_ok (c.fact 86 (f := .mkr "Fixed") rfl), fdiFixed, ok_Fixed_init FiFixed g3, FunD.bindsN (ps := ["self", "width"]) FiFixed (fun _ _ _ _ _ _ us hl => match us, hl with | [_, _], _ => rfl)⟩
  obtain ⟨fdiListed, FiListed⟩ := c.def_ 18 (d := ⟨("Listed", some "__init__"), "__init__", "Listed.__init__", defArgs (inClass (top 29) 0), defBody (inClass (top 29) 0), defScope (inClass (top 29) 0), [], []⟩) rfl
  have kListed : ClsAt P w K mg base (L2.CX P w) 4 "Listed" (ca K 3) ["self", "texts"] (spListed K) := ⟨cListed.mgC, cListed.cl, He.mkr_ok (c.fact 91 (f := .mkr "Listed") rfl), fdiListed, ok_Listed_init FiListed g3, FunD.bindsN (ps := ["self", "texts"]) FiListed (fun _ _ _ _ _ _ us hl => match us, hl with | [_, _], _ => rfl)⟩
  obtain ⟨fdiEnded, FiEnded⟩ := c.def_ 22 (d := ⟨("Ended", some "__init__"), "__init__", "Ended.__init__", defArgs (inClass (top 30) 0), defBody (inClass (top 30) 0), defScope (inClass (top 30) 0), [], []⟩) rfl
  have kEnded : ClsAt P w K mg base (L2.CX P w) 4 "Ended" (ca K 4) ["self", "signs", "sign", "least", "most"] (spEnded K) := ⟨cEnded.mgC, cEnded.cl, He.mkr_ok (c.fact 96 (f := .mkr "Ended") rfl), fdiEnded, ok_Ended_init FiEnded g3, FunD.bindsN (ps := ["self", "signs", "sign", "least", "most"]) FiEnded (fun _ _ _ _ _ _ us hl => match us, hl with | [_, _, _, _, _], _ => rfl)⟩
  obtain ⟨fdiMarked, FiMarked⟩ := c.def_ 26 (d := ⟨("Marked", some "__init__"), "__init__", "Marked.__init__", defArgs (inClass (top 31) 0), defBody (inClass (top 31) 0), defScope (inClass (top 31) 0), [], []⟩) rfl
  have kMarked : ClsAt P w K mg base (L2.CX P w) 4 "Marked" (ca K 5) ["self", "none", "mark", "field"] (spMarked K) := ⟨cMarked.mgC, cMarked.cl, He.mkr_ok (c.fact 104 (f := .mkr "Marked") rfl), fdiMarked, ok_Marked_init FiMarked g5, FunD.bindsN (ps := ["self", "none", "mark", "field"]) FiMarked (fun _ _ _ _ _ _ us hl => match us, hl with | [_, _, _, _], _ => rfl)⟩
  have ww5 : W5 P w K mg base := ⟨ww4, An5, An6, kLay, kWord, kNumber, kFixed, kListed, kEnded, kMarked⟩
  obtain ⟨fdr1, Fr1⟩ := c.def_ 54 (d := ⟨("_law_source", none), "_law_source", "_law_source", defArgs (top 46), defBody (top 46), defScope (top 46), [], []⟩) rfl
  have Ar1 : FnAt P w K mg base CX0 1 "_law_source" ["_law_cell"] _ := ⟨_, fdr1, He.glo_ok X G (c.fact 34 (f := .glo "_law_source") rfl), Fr1.kp, ok_source Fr1 g0.toBl, FunD.bindsN (ps := ["_law_cell"]) Fr1 (fun _ _ _ _ _ _ us hl => match us, hl with | [_], _ => rfl)⟩
  obtain ⟨fdr2, Fr2⟩ := c.def_ 55 (d := ⟨("_law_draw", none), "_law_draw", "_law_draw", defArgs (top 47), defBody (top 47), defScope (top 47), [], []⟩) rfl
  have Ar2 : FnAt P w K mg base CX0 1 "_law_draw" ["_law_source_here", "_law_many"] _ := ⟨_, fdr2, He.glo_ok X G (c.fact 35 (f := .glo "_law_draw") rfl), Fr2.kp, ok_draw Fr2 g0.toBl, FunD.bindsN (ps := ["_law_source_here", "_law_many"]) Fr2 (fun _ _ _ _ _ _ us hl => match us, hl with | [_, _], _ => rfl)⟩
  have gr0 : GR0 P w K mg base := ⟨ww5, Ar2⟩
  obtain ⟨fdr3, Fr3⟩ := c.def_ 56 (d := ⟨("_law_pick", none), "_law_pick", "_law_pick", defArgs (top 48), defBody (top 48), defScope (top 48), [], []⟩) rfl
  have Ar3 : FnAt P w K mg base CX0 2 "_law_pick" ["_law_source_here", "_law_items"] _ := ⟨_, fdr3, He.glo_ok X G (c.fact 36 (f := .glo "_law_pick") rfl), Fr3.kp, ok_law_pick Fr3 gr0, FunD.bindsN (ps := ["_law_source_here", "_law_items"]) Fr3 (fun _ _ _ _ _ _ us hl => match us, hl with | [_, _], _ => rfl)⟩
  have g6 : G6 P w K mg base := ⟨gr0, Ar3⟩
  obtain ⟨fdmd, Fmd⟩ := c.def_ 57 (d := ⟨("_law_made", none), "_law_made", "_law_made", defArgs (top 49), defBody (top 49), defScope (top 49), [], []⟩) rfl
  have gmd := He.glo_ok X G (c.fact 37 (f := .glo "_law_made") rfl)
  have bmd := FunD.bindsN (ps := ["_law_spec"]) Fmd (fun _ _ _ _ _ _ us hl => match us, hl with | [_], _ => rfl)
  have md0 : FnAt P w K mg base CX0 (0 + 5) "_law_made" ["_law_spec"] (spMd K 0) := ⟨_, fdmd, gmd, Fmd.kp, fn_never.imp fun vs H Q E h => (by obtain ⟨_, _, d, _, _, _, hd, _⟩ := h; exact absurd hd (Nat.not_lt_zero _)), bmd⟩
  have stepmd : ∀ n, FnAt P w K mg base CX0 (n + 5) "_law_made" ["_law_spec"] (spMd K n) → FnAt P w K mg base CX0 ((n + 1) + 5) "_law_made" ["_law_spec"] (spMd K (n + 1)) := fun n A => ⟨_, fdmd, gmd, Fmd.kp, (ok_law_made Fmd g6 A).mono (by omega), bmd⟩
  have md2 := stepmd 1 (stepmd 0 md0)
  obtain ⟨fdt3, Ft3⟩ := c.def_ 58 (d := ⟨("_law_shuffled", none), "_law_shuffled", "_law_shuffled", defArgs (top 50), defBody (top 50), defScope (top 50), [], []⟩) rfl
  have At3 : FnAt P w K mg base CX0 2 "_law_shuffled" ["_law_source_here", "_law_items"] _ := ⟨_, fdt3, He.glo_ok X G (c.fact 38 (f := .glo "_law_shuffled") rfl), Ft3.kp, ok_law_shuffled Ft3 g6, FunD.bindsN (ps := ["_law_source_here", "_law_items"]) Ft3 (fun _ _ _ _ _ _ us hl => match us, hl with | [_, _], _ => rfl)⟩
  have gm : GM P w K mg base := ⟨g6, At3⟩
  obtain ⟨fdfa, Ffa⟩ := c.def_ 59 (d := ⟨("_law_far", none), "_law_far", "_law_far", defArgs (top 51), defBody (top 51), defScope (top 51), [], []⟩) rfl
  have gfa := He.glo_ok X G (c.fact 39 (f := .glo "_law_far") rfl)
  have bfa := FunD.bindsN (ps := ["_law_source_here", "_law_is_inner"]) Ffa (fun _ _ _ _ _ _ us hl => match us, hl with | [_, _], _ => rfl)
  have fa0 : FnAt P w K mg base CX0 (0 + 2) "_law_far" ["_law_source_here", "_law_is_inner"] (spFar 0) := ⟨_, fdfa, gfa, Ffa.kp, fn_never.imp fun vs H Q E h => (by obtain ⟨_, b, _, _, hd, _⟩ := h; cases b <;> exact absurd hd (by decide)), bfa⟩
  have stepfa : ∀ n, FnAt P w K mg base CX0 (n + 2) "_law_far" ["_law_source_here", "_law_is_inner"] (spFar n) → FnAt P w K mg base CX0 ((n + 1) + 2) "_law_far" ["_law_source_here", "_law_is_inner"] (spFar (n + 1)) := fun n A => ⟨_, fdfa, gfa, Ffa.kp, (ok_law_far Ffa gm A).mono (by omega), bfa⟩
  have fa2 := stepfa 1 (stepfa 0 fa0)
  have gn : GN P w K mg base := ⟨gm, fa2⟩
  obtain ⟨fdt5, Ft5⟩ := c.def_ 60 (d := ⟨("_law_far_layout", none), "_law_far_layout", "_law_far_layout", defArgs (top 52), defBody (top 52), defScope (top 52), [], []⟩) rfl
  have At5 : FnAt P w K mg base CX0 5 "_law_far_layout" ["_law_source_here", "_law_most"] _ := ⟨_, fdt5, He.glo_ok X G (c.fact 40 (f := .glo "_law_far_layout") rfl), Ft5.kp, ok_law_far_layout Ft5 gn, FunD.bindsN (ps := ["_law_source_here", "_law_most"]) Ft5 (fun _ _ _ _ _ _ us hl => match us, hl with | [_, _], _ => rfl)⟩
  have gp : GP P w K mg base := ⟨gn, At5, He.free_ok X G (c.fact 64 (f := .free "min") rfl)⟩
  obtain ⟨fdso, Fso⟩ := c.def_ 61 (d := ⟨("_law_some", none), "_law_some", "_law_some", defArgs (top 53), defBody (top 53), defScope (top 53), [], []⟩) rfl
  have gso := He.glo_ok X G (c.fact 41 (f := .glo "_law_some") rfl)
  have bso := FunD.bindsN (ps := ["_law_source_here", "_law_spec"]) Fso (fun _ _ _ _ _ _ us hl => match us, hl with | [_, _], _ => rfl)
  have so0 : FnAt P w K mg base CX0 (0 + 2) "_law_some" ["_law_source_here", "_law_spec"] (spSome 0) := ⟨_, fdso, gso, Fso.kp, fn_never.imp fun vs H Q E h => (by obtain ⟨_, _, d, _, _, _, _, hd, _⟩ := h; exact absurd hd (Nat.not_lt_zero _)), bso⟩
  have stepso : ∀ n, FnAt P w K mg base CX0 (n + 2) "_law_some" ["_law_source_here", "_law_spec"] (spSome n) → FnAt P w K mg base CX0 ((n + 1) + 2) "_law_some" ["_law_source_here", "_law_spec"] (spSome (n + 1)) := fun n A => ⟨_, fdso, gso, Fso.kp, (ok_law_some Fso gp A).mono (by omega), bso⟩
  have so2 := stepso 1 (stepso 0 so0)
  obtain ⟨fdu1, Fu1⟩ := c.def_ 62 (d := ⟨("_law_is_word", none), "_law_is_word", "_law_is_word", defArgs (top 54), defBody (top 54), defScope (top 54), [], []⟩) rfl
  have Au1 : FnAt P w K mg base CX0 2 "_law_is_word" ["_law_signs", "_law_least", "_law_most", "_law_text"] _ := ⟨_, fdu1, He.glo_ok X G (c.fact 42 (f := .glo "_law_is_word") rfl), Fu1.kp, ok_law_is_word Fu1 gp, FunD.bindsN (ps := ["_law_signs", "_law_least", "_law_most", "_law_text"]) Fu1 (fun _ _ _ _ _ _ us hl => match us, hl with | [_, _, _, _], _ => rfl)⟩
  obtain ⟨fdu2, Fu2⟩ := c.def_ 63 (d := ⟨("_law_row_word", none), "_law_row_word", "_law_row_word", defArgs (top 55), defBody (top 55), defScope (top 55), [], []⟩) rfl
  have Au2 : FnAt P w K mg base CX0 2 "_law_row_word" ["_law_row"] _ := ⟨_, fdu2, He.glo_ok X G (c.fact 43 (f := .glo "_law_row_word") rfl), Fu2.kp, ok_law_row_word Fu2 gp, FunD.bindsN (ps := ["_law_row"]) Fu2 (fun _ _ _ _ _ _ us hl => match us, hl with | [_], _ => rfl)⟩
  have gq : GQ P w K mg base := ⟨gp, Au1⟩
  obtain ⟨fdpa, Fpa⟩ := c.def_ 64 (d := ⟨("_law_part", none), "_law_part", "_law_part", defArgs (top 56), defBody (top 56), defScope (top 56), [], []⟩) rfl
  have gpa := He.glo_ok X G (c.fact 44 (f := .glo "_law_part") rfl)
  have bpa := FunD.bindsN (ps := ["_law_spec", "_law_part_here"]) Fpa (fun _ _ _ _ _ _ us hl => match us, hl with | [_, _], _ => rfl)
  have pa0 : FnAt P w K mg base CX0 (0 + 2) "_law_part" ["_law_spec", "_law_part_here"] (spPart 0) := ⟨_, fdpa, gpa, Fpa.kp, fn_never.imp fun vs H Q E h => (by obtain ⟨_, _, _, d, _, _, _, _, _, hd, _⟩ := h; exact absurd hd (Nat.not_lt_zero _)), bpa⟩
  have steppa : ∀ n, FnAt P w K mg base CX0 (n + 2) "_law_part" ["_law_spec", "_law_part_here"] (spPart n) → FnAt P w K mg base CX0 ((n + 1) + 2) "_law_part" ["_law_spec", "_law_part_here"] (spPart (n + 1)) := fun n A => ⟨_, fdpa, gpa, Fpa.kp, (ok_law_part Fpa gq A).mono (by omega), bpa⟩
  have pa2 := steppa 1 (steppa 0 pa0)
  have gu : GU P w K mg base := ⟨gq, pa2⟩
  obtain ⟨fdu3, Fu3⟩ := c.def_ 65 (d := ⟨("_law_due", none), "_law_due", "_law_due", defArgs (top 57), defBody (top 57), defScope (top 57), [], []⟩) rfl
  have Au3 : FnAt P w K mg base CX0 5 "_law_due" ["_law_specs", "_law_word"] _ := ⟨_, fdu3, He.glo_ok X G (c.fact 45 (f := .glo "_law_due") rfl), Fu3.kp, ok_law_due Fu3 gu, FunD.bindsN (ps := ["_law_specs", "_law_word"]) Fu3 (fun _ _ _ _ _ _ us hl => match us, hl with | [_, _], _ => rfl)⟩
  obtain ⟨fdu4, Fu4⟩ := c.def_ 67 (d := ⟨("_law_bent", none), "_law_bent", "_law_bent", defArgs (top 59), defBody (top 59), defScope (top 59), [], []⟩) rfl
  have Au4 : FnAt P w K mg base CX0 3 "_law_bent" ["_law_source_here", "_law_word"] _ := ⟨_, fdu4, He.glo_ok X G (c.fact 47 (f := .glo "_law_bent") rfl), Fu4.kp, ok_law_bent Fu4 gu, FunD.bindsN (ps := ["_law_source_here", "_law_word"]) Fu4 (fun _ _ _ _ _ _ us hl => match us, hl with | [_, _], _ => rfl)⟩
  obtain ⟨fdsd, Fsd⟩ := c.def_ 66 (d := ⟨("_law_said", none), "_law_said", "_law_said", defArgs (top 58), defBody (top 58), defScope (top 58), [], []⟩) rfl
  have sd : SaidAt K mg := ⟨_, fdsd, He.glo_ok X G (c.fact 46 (f := .glo "_law_said") rfl), Fsd, FunD.bindsN (ps := ["_law_ask"]) Fsd (fun _ _ _ _ _ _ us hl => match us, hl with | [_], _ => rfl)⟩
  have gv : GV P w K mg base := ⟨gu, sd, He.glo_ok X G (c.fact 0 (f := .glo "JointError") rfl), of_decide_eq_true w4⟩
  obtain ⟨fdrr, Frr⟩ := c.def_ 68 (d := ⟨("_law_refused_right", none), "_law_refused_right", "_law_refused_right", defArgs (top 60), defBody (top 60), defScope (top 60), [], []⟩) rfl
  obtain ⟨c0, hc0⟩ : ∃ c0, fdrr.code = .ref c0 := by
    obtain ⟨oc, od, dV, kV, doc, pm, an, cdv, ct, osl, rfl, lk, hcd, _, _⟩ := Frr.ex
    exact He.codeIn_ref hcd
  have ec : He.codeOf K ("_law_refused_right", none) = c0 := by
    obtain ⟨oc, od, dV, kV, doc, pm, an, cdv, ct, osl, rfl, lk, hcd, _, _⟩ := Frr.ex
    exact He.codeOf_eq lk hc0
  have TB' : LamX.TabB base mg c0 (He.cT K ("_law_refused_right", none)).2 := by
    have e1 : (He.cT K ("_law_refused_right", none)).1 = c0 := ec
    rw [e1] at TB
    exact TB
  have Arr : FnAt P w K mg base CX0 11 "_law_refused_right" ["_law_layout", "_law_row", "_law_at"] (spRr K (He.cT K ("_law_refused_right", none)).2 (He.cT K ("law", none)).2) := ⟨_, fdrr, He.glo_ok X G (c.fact 48 (f := .glo "_law_refused_right") rfl), Frr.kp, ok_law_refused_right Frr gv hc0 TB' hne, FunD.bindsN (ps := ["_law_layout", "_law_row", "_law_at"]) Frr (fun _ _ _ _ _ _ us hl => match us, hl with | [_, _, _], _ => rfl)⟩
  exact ⟨⟨gv, Ar1, md2, so2, Au2, Au4, Au3, Arr, He.free_ok X G (c.fact 65 (f := .free "max") rfl)⟩, hne⟩

end L2.K80
open PySem PySem.W PySem.Calls PyProof.Rows
set_option maxRecDepth 100000 in
set_option maxHeartbeats 0 in
theorem PySem.Challenge.cw_jointkeys_k80_rows_as_words_holds : PySem.Challenge.rw_jointkeys_k80_rows_as_words.Holds := by
  w_on; o_law
  refine HandSHeadRun.head_any (r := OpenLaw.row PySem.Challenge.rw_jointkeys_k80_rows_as_words) (q := view (OpenLaw.row PySem.Challenge.rw_jointkeys_k80_rows_as_words).prog [61]) (H := L2.K80.hk) (ob := L2.K80.ob) (M := 8000) (loose := L2.K80.names) (d := HandSHeadRun.topDef (OpenLaw.row PySem.Challenge.rw_jointkeys_k80_rows_as_words).prog 61) (kwd := []) L2.K80.ob_eq
    (by kernel_rfl) (fun s => by kernel_rfl) L2.K80.run (by kernel_rfl) (by kernel_rfl) (by kernel_rfl) (by rfl) (by first | assumption | decide +kernel) (by decide +kernel) ⟨rfl, rfl, rfl, rfl, rfl, by decide +kernel⟩ ?hw ?hc
  case hw => w_witness2
  case hc =>
    refine LamX.walk_ofTsE (l := PySem.Challenge.rw_jointkeys_k80_rows_as_words) (n := 63) (k := 12) (x := "_law_script") (CX := fun _ => L2.CX0) rfl (by decide) (by kernel_rfl) ⟨rfl, by decide, by decide⟩ ?F (fun _ _ _ _ _ z => z)
    intro w mg fa h Y G hmg0
    obtain ⟨K, KX, c⟩ := Y
    have hmg : mg ("law" : PySem.Str) = some (.ref fa) := by
      have e : (HandSHeadRun.topDef (OpenLaw.row PySem.Challenge.rw_jointkeys_k80_rows_as_words).prog 61).name = ("law" : PySem.Str) := by kernel_rfl
      rw [← e]
      exact hmg0
    obtain ⟨fd, F⟩ := c.t.d.def_ 69 (d := ⟨("law", none), "law", "law", L2.defArgs L2.K80.s_law, L2.defBody L2.K80.s_law, L2.defScope L2.K80.s_law, [], []⟩) rfl
    have e := hmg.symm.trans (He.glo_ok KX G (c.t.d.fact 49 (f := .glo "law") rfl))
    cases e
    have b := L2.FunD.bindsA (ps := ["_law_script"]) F fun _ _ _ _ _ _ us hl => match us, hl with | [_], _ => rfl
    have d1 : (("_law_refused_right", none) : He.Defn) ∈ ([("_law_refused_right", none), ("law", none)] : List He.Defn) := List.mem_cons_self ..
    have d2 : (("law", none) : He.Defn) ∈ ([("_law_refused_right", none), ("law", none)] : List He.Defn) := List.mem_cons_of_mem _ (List.mem_cons_self ..)
    refine ⟨K, KX, fd, [He.cT K ("_law_refused_right", none), He.cT K ("law", none)], L2.K80.spLaw K (He.cT K ("_law_refused_right", none)).2 (He.cT K ("law", none)).2, ?_, ?_, ?_, fun s v => b s [v] rfl, ?_, ?_⟩
    · intro p hp
      rcases List.mem_cons.mp hp with rfl | hp
      · exact c.empty _ d1
      · rw [List.mem_singleton.mp hp]; exact c.empty _ d2
    · intro p hp
      rcases List.mem_cons.mp hp with rfl | hp
      · exact c.out _ d1
      · rw [List.mem_singleton.mp hp]; exact c.out _ d2
    · intro p hp
      rcases List.mem_cons.mp hp with rfl | hp
      · exact PySem.W.codeHd_of_K KX (c.hd _ d1)
      · rw [List.mem_singleton.mp hp]; exact PySem.W.codeHd_of_K KX (c.hd _ d2)
    · intro H a ns hl _ hT hS
      refine ⟨a, ns, rfl, hS, hl, fun p hp => ?_, fun _ => rfl⟩
      rcases List.mem_cons.mp hp with rfl | hp
      · exact LamX.TabS.nil (hT _ (List.mem_cons_self ..))
      · rw [List.mem_singleton.mp hp]; exact LamX.TabS.nil (hT _ (List.mem_cons_of_mem _ (List.mem_cons_self ..)))
    · intro base _ _ hTB
      have TB1 := hTB _ (List.mem_cons_self ..)
      have TB2 := hTB _ (List.mem_cons_of_mem _ (List.mem_cons_self ..))
      obtain ⟨c1, hc1⟩ : ∃ c1, fd.code = .ref c1 := by
        obtain ⟨oc, od, dV, kV, doc, pm, an, cdv, ct, osl, rfl, lk, hcd, _, _⟩ := F.ex
        exact He.codeIn_ref hcd
      have ec : He.codeOf K ("law", none) = c1 := by
        obtain ⟨oc, od, dV, kV, doc, pm, an, cdv, ct, osl, rfl, lk, hcd, _, _⟩ := F.ex
        exact He.codeOf_eq lk hc1
      have TB' : LamX.TabB base mg c1 (He.cT K ("law", none)).2 := by
        have e1 : (He.cT K ("law", none)).1 = c1 := ec
        rw [e1] at TB2
        exact TB2
      obtain ⟨g, hne⟩ := L2.K80.facts KX G c.t.d c.more TB1
      exact L2.K80.ok_law F g hc1 TB' hne
#print axioms PySem.Challenge.cw_jointkeys_k80_rows_as_words_holds
